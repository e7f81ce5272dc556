import PyProof.Rows.All
import Wide.All
import OpenK.AllK
import Wide.FinOn
import PyProof.EqAt
import PyProof.EqKinds
import PyProof.TupleCall
import KE.BitLaws
import Open.SpecLaws
import KE.OsHead
import KE.OsGo
import KE.KEqDeep
import KE.KTab
import PyFlatLaws
import PyKm383
import PySem.Challenge.RW_museumhouse_s01_answers
set_option Elab.async false
set_option linter.all false
set_option maxRecDepth 100000
set_option maxHeartbeats 2000000
namespace L2
open PySem PySem.Spec PyProof.Rows
abbrev Key:=Sum Int Str
def NJ:Key->Value->Bool
 | .inl k,v=>Value.isInt k v
 | .inr x,v=>Value.isStrOf x v
def VM(w:World):Key->Int
 | .inl k=>hashInt k
 | .inr x=>hashStr w x
theorem cP:∀{k:Key}{v:Value},NJ k v=true->(∃i t,k=Sum.inl i/\v=Value.int i t)\/(∃x t,k=Sum.inr x/\v=Value.str x t)
 | .inl i,v,h=>by
   obtain⟨t,e⟩:=Value.isInt_shape (k:=i) (v:=v) h
   exact .inl ⟨i,t,rfl,e⟩
 | .inr x,v,h=>by
   obtain⟨t,e⟩:=Value.isStrOf_shape (x:=x) (v:=v) h
   exact .inr ⟨x,t,rfl,e⟩
theorem Ow(a b:Int):decide ((Sum.inl a:Key)=Sum.inl b)=(a==b):=by
 by_cases e:a=b
 ·subst e;simp
 ·have h:¬(Sum.inl a:Key)=Sum.inl b:=λq=>e (Sum.inl.inj q)
  rw[decide_eq_false h]
  exact(beq_eq_false_iff_ne.mpr e).symm
theorem Ox(a b:Str):decide ((Sum.inr a:Key)=Sum.inr b)=decide (a=b):=by
 by_cases e:a=b
 ·subst e;simp
 ·have h:¬(Sum.inr a:Key)=Sum.inr b:=λq=>e (Sum.inr.inj q)
  rw[decide_eq_false h,decide_eq_false e]
theorem Oy(a:Int)(b:Str):decide ((Sum.inl a:Key)=Sum.inr b)=false:=decide_eq_false (λq=>nomatch q)
theorem Oz(a:Str)(b:Int):decide ((Sum.inr a:Key)=Sum.inl b)=false:=decide_eq_false (λq=>nomatch q)
def DL(prog:Program)(w:World):PySem.KeyKind prog w Key where
 is:=NJ
 hash:=VM w
 inj:=λv a b ha hb=>by
  rcases cP ha with⟨i,t,rfl,rfl⟩|⟨x,t,rfl,rfl⟩
  ·rcases cP hb with⟨j,u,rfl,e⟩|⟨y,u,rfl,e⟩
   ·injection e with e1 _;rw[e1]
   ·exact nomatch e
  ·rcases cP hb with⟨j,u,rfl,e⟩|⟨y,u,rfl,e⟩
   ·exact nomatch e
   ·injection e with e1 _;rw[e1]
 byValue:=λk v h=>by
  rcases cP h with⟨i,t,rfl,rfl⟩|⟨x,t,rfl,rfl⟩<;>rfl
 pyHash:=λhv h=>by
  rcases cP hv with⟨i,t,rfl,rfl⟩|⟨x,t,rfl,rfl⟩
  ·exact wpAny_pyHash_int h
  ·exact wpAny_pyHash_str h
 eqBool:=λhu hv h=>by
  rcases cP hu with⟨i,t,rfl,rfl⟩|⟨x,t,rfl,rfl⟩
  ·rcases cP hv with⟨j,u,rfl,rfl⟩|⟨y,u,rfl,rfl⟩
   ·rw[Ow] at h;exact wpAny_eqBool_int h
   ·rw[Oy] at h;exact SeqAt.EqAt.int_str i t y u _ _ _ _ h
  ·rcases cP hv with⟨j,u,rfl,rfl⟩|⟨y,u,rfl,rfl⟩
   ·rw[Oz] at h;exact SeqAt.EqAt.str_int x t j u _ _ _ _ h
   ·rw[Ox] at h;exact wpAny_eqBool_str h
 «strs»:=λk x t v h=>by
  rcases cP h with⟨i,u,rfl,e⟩|⟨y,u,rfl,e⟩
  ·exact nomatch e
  ·injection e with e1 _
   subst e1
   cases v<;>rfl
inductive V where
 |non|bl (b:Bool)|int (i:Int)|str (x:Str)|y2 (b:Array UInt8)|Sl (b:UInt64)|ref (a:Addr)|ty (n:String)
 deriving DecidableEq
def RelV:V->Value->Prop
 | .non,u=>u=Value.none
 | .bl b,u=>u=Value.bool b
 | .int i,u=>∃t,u=Value.int i t
 | .str x,u=>∃t,u=Value.str x t
 | .y2 b,u=>∃t,u=Value.bytes b t
 | .Sl b,u=>∃t,u=Value.float b t
 | .ref a,u=>u=Value.ref a
 | .ty n,u=>u=Value.type n
abbrev Vals:List V->List Value->Prop:=Paired RelV
theorem Vals.length{xs:List V}{us:List Value}(r:Vals xs us):xs.length=us.length:=Paired.length r
theorem Vals.get:∀{xs:List V}{us:List Value}{i:Nat}{x:V},Vals xs us->xs[i]? =some x->∃u,us[i]? =some u/\RelV x u
 |_,_,_,_,.nil,e=>by simp at e
 |_,_,0,_,.cons r _,e=>by simp at e;subst e;exact⟨_,rfl,r⟩
 |_,_,i+1,x,.cons _ t,e=>by
  obtain⟨u,h1,h2⟩:=Vals.get (i:=i) (x:=x) t (by simpa using e)
  exact⟨u,by simpa using h1,h2⟩
theorem Vals.set{x:V}{u:Value}(r:RelV x u):∀{xs:List V}{us:List Value}(i:Nat),Vals xs us->Vals (xs.set i x) (us.set i u)
 |_,_,_,.nil=>.nil
 |_,_,0,.cons _ t=>.cons r t
 |_,_,i+1,.cons q t=>.cons q (Vals.set r i t)
theorem Vals.append:∀{xs ys:List V}{us ws:List Value},Vals xs us->Vals ys ws->Vals (xs++ys) (us++ws)
 |_,_,_,_,.nil,s=>s
 |_,_,_,_,.cons r t,s=>.cons r (Vals.append t s)
theorem Vals.take:∀{xs:List V}{us:List Value}(n:Nat),Vals xs us->Vals (xs.take n) (us.take n)
 |_,_,0,_=>.nil
 |_,_,_+1,.nil=>.nil
 |_,_,n+1,.cons r t=>.cons r (Vals.take n t)
theorem Vals.drop:∀{xs:List V}{us:List Value}(n:Nat),Vals xs us->Vals (xs.drop n) (us.drop n)
 |_,_,0,r=>r
 |_,_,_+1,.nil=>.nil
 |_,_,n+1,.cons _ t=>Vals.drop n t
def Bj:Option V->Option Value->Prop
 |some v,some u=>RelV v u
 |none,none=>True
 |_,_=>False
def KV{κ:Type}:List (κ×V)->List (κ×Value)->Prop:=Paired λ(p:κ×V)(q:κ×Value)=>p.1=q.1/\RelV p.2 q.2
def kV:Key->V
 | .inl i=>.int i
 | .inr x=>.str x
inductive HO where
 |lst (xs:List V)
 |tup (xs:List V)
 |dK (wL:List (Key×V))|dT (wL:List (List Key×V))
 |set (S:Int->Bool) (n:Nat)
 |ins (C dx:Addr) (fs:List (Str×V))
 |own (x:Addr)
 |xd (fs:List (Str×V))
 |met (f x:Addr)
 |VN (lo hi:Int)
 |wM (o:Obj) (u:HO)
 |OB (ps:Array Value)
 |ext (φ:Heap->Prop)
abbrev Hp:=Addr->Option HO
def upd(H:Hp)(a:Addr)(o:HO):Hp:=λb=>if b=a then some o else H b
theorem ak{H:Hp}{a:Addr}{o:HO}:upd H a o a=some o:=by unfold upd;rw[if_pos rfl]
theorem aj{H:Hp}{a b:Addr}{o:HO}(h:b≠a):upd H a o b=H b:=by unfold upd;rw[if_neg h]
theorem j6{H:Hp}{a b:Addr}{o u:HO}(h:H a=some o)(h':H b=some u)(d:o≠u):a≠b:=by
 intro e;subst e;rw[h] at h';exact d (Option.some.inj h')
theorem aE{H:Hp}{a b:Addr}{o:HO}(h:H a=some o)(h':H b=none):a≠b:=by
 intro e;subst e;rw[h] at h';cases h'
section
variable(P:Program)(w:World)
def fX(H:Hp)(h:Heap)(a:Addr):HO->Prop
 | .lst xs=>xs.length<=sizeLine/\∃(its:List Value)(n:Nat),Vals xs its/\h.get? a=some { cls:=.type "list",data:=.seq its.toArray n }
 | .tup xs=>xs.length<=sizeLine/\∃its:List Value,Vals xs its/\IsTup h a its.toArray
 | .dK wL=>wL.length<=sizeLine/\(a==sysModules)=false/\∃vs,KV wL vs/\h.DictOf (DL P w) a vs
 | .dT wL=>wL.length<=sizeLine/\(a==sysModules)=false/\∃xs:List (List Key×Addr×Value),
    Paired (λ(p:List Key×V)(q:List Key×Addr×Value)=>p.1=q.1/\H q.2.1=some (.tup (p.1.map kV))/\RelV p.2 q.2.2) wL xs/\
    ∃o es ep,h.get? a=some o/\o.ExactDict/\o.data=.dict es ep/\es.toList=xs.map (entryOfKey (tupleKind (DL P w)))/\(xs.map (·.1)).Nodup
 | .set S n=>h.SetOf (intKind P w) a S n
 | .ins C dx fs=>H dx=some (.own a)/\fs.length<=1000/\dx≠a/\h.get? a=some (W.instObj C dx)/\
    ∃mA,h.Ns1 dx mA/\(∀f,Bj (fs.lookup f) (mA f))/\PySem.Within mA (fs.map (·.1))
 | .own _=>∃o,h.get? a=some o
 | .xd fs=>∃mA,h.Ns1 a mA/\∀f,Bj (fs.lookup f) (mA f)
 | .VN lo hi=>∃t u v,h.get? a=some { cls:=.type "range",data:=.fields #[.int lo t,.int hi u,.int 1 v] }
 | .wM o u=>h.get? a=some o/\fX H h a u
 | .OB ps=>h.get? a=some { cls:=.none,data:=.fields ps }
 | .met f x=>h.get? a=some (W.methodObj (.ref f) (.ref x))
 | .ext φ=>φ h/\(∃o,h.get? a=some o)/\∀h1 h2:Heap,φ h1->(∀o,h1.get? a=some o->h2.get? a=some o)->φ h2
def om(H:Hp)(h:Heap):Prop:=∀a o,H a=some o->fX P w H h a o
end
section
variable{P:Program}{w:World}{H H':Hp}{h h':Heap}{a:Addr}{o:HO}
theorem fX.lt(x:fX P w H h a o):a<h.objs.size:=by
 cases o with
 |lst xs=>obtain⟨_,_,_,_,e⟩:=x;exact Heap.lt_size e
 |tup xs=>obtain⟨_,_,_,p⟩:=x;exact p.lt
 |dK wL=>obtain⟨_,_,_,_,o,_,_,e,_⟩:=x;exact Heap.lt_size e
 |dT wL=>obtain⟨_,_,_,_,o,_,_,e,_⟩:=x;exact Heap.lt_size e
 |set S n=>obtain⟨o,_,_,_,e,_⟩:=x;exact Heap.lt_size e
 |ins C dx fs=>obtain⟨_,_,_,e,_⟩:=x;exact Heap.lt_size e
 |own y=>obtain⟨_,e⟩:=x;exact Heap.lt_size e
 |xd fs=>obtain⟨_,⟨_,_,_,e,_⟩,_⟩:=x;exact Heap.lt_size e
 |VN lo hi=>obtain⟨_,_,_,e⟩:=x;exact Heap.lt_size e
 |wM ob u=>obtain⟨e,_⟩:=x;exact Heap.lt_size e
 |OB ps=>exact Heap.lt_size (show h.get? a=some _ from x)
 |met f y=>exact Heap.lt_size (show h.get? a=some _ from x)
 |ext φ=>obtain⟨_,⟨_,e⟩,_⟩:=x;exact Heap.lt_size e
theorem Paired.Sq{α β:Type}{F G:α->β->Prop}:∀{Sr:List α}{Ss:List β},Paired F Sr Ss->(∀a b,F a b->G a b)->Paired G Sr Ss
 |_,_,.nil,_=>.nil
 |_,_,.cons r t,f=>.cons (f _ _ r) (Paired.Sq t f)
theorem fX.E6(x:fX P w H h a o)(k:∀b u,(b=a\/H b=some (.own a))->h.get? b=some u->h'.get? b=some u)
 (ho:∀b,H b=some (.own a)->H' b=some (.own a))(ht:∀b xs,H b=some (.tup xs)->H' b=some (.tup xs)):fX P w H' h' a o:=by
 induction o with
 |lst xs=>obtain⟨z,its,n,r,e⟩:=x;exact⟨z,its,n,r,k _ _ (.inl rfl) e⟩
 |tup xs=>obtain⟨z,its,r,ob,e,c⟩:=x;exact⟨z,its,r,ob,k _ _ (.inl rfl) e,c⟩
 |dK wL=>obtain⟨z,y,vs,r,ob,es,ep,e,c⟩:=x;exact⟨z,y,vs,r,ob,es,ep,k _ _ (.inl rfl) e,c⟩
 |dT wL=>
  obtain⟨z,y,xs,r,ob,es,ep,e,c⟩:=x
  exact⟨z,y,xs,Paired.Sq r λp q z=>⟨z.1,ht _ _ z.2.1,z.2.2⟩,ob,es,ep,k _ _ (.inl rfl) e,c⟩
 |set S n=>obtain⟨ob,es,ep,t,e,c⟩:=x;exact⟨ob,es,ep,t,k _ _ (.inl rfl) e,c⟩
 |ins C dx fs=>
  obtain⟨d,z,ne,e,mA,⟨od,es,ep,e2,c⟩,r⟩:=x
  exact⟨ho _ d,z,ne,k _ _ (.inl rfl) e,mA,⟨od,es,ep,k _ _ (.inr d) e2,c⟩,r⟩
 |own y=>obtain⟨ob,e⟩:=x;exact⟨ob,k _ _ (.inl rfl) e⟩
 |xd fs=>obtain⟨mA,⟨od,es,ep,e,c⟩,r⟩:=x;exact⟨mA,⟨od,es,ep,k _ _ (.inl rfl) e,c⟩,r⟩
 |VN lo hi=>obtain⟨t,u,v,e⟩:=x;exact⟨t,u,v,k _ _ (.inl rfl) e⟩
 |wM ob u ih=>obtain⟨e,q⟩:=x;exact⟨k _ _ (.inl rfl) e,ih q⟩
 |OB ps=>
  have e:h.get? a=some { cls:=.none,data:=.fields ps }:=x
  show h'.get? a=some { cls:=.none,data:=.fields ps }
  exact k a _ (.inl rfl) e
 |met f y=>
  have e:h.get? a=some (W.methodObj (.ref f) (.ref y)):=x
  show h'.get? a=some (W.methodObj (.ref f) (.ref y))
  exact k a _ (.inl rfl) e
 |ext φ=>obtain⟨p,⟨o,e⟩,st⟩:=x;exact⟨st _ _ p λo q=>k _ _ (.inl rfl) q,⟨o,k _ _ (.inl rfl) e⟩,st⟩
theorem om.lt(x:om P w H h)(e:H a=some o):a<h.objs.size:=(x a o e).lt
theorem om.fresh(x:om P w H h)(e:h.objs.size<=a):H a=none:=by
 cases q:H a with
 |none=>rfl
 |some u=>exact absurd (Nat.lt_of_lt_of_le (x.lt q) e) (Nat.lt_irrefl _)
theorem om.kept(x:om P w H h)(k:∀b u,h.get? b=some u->h'.get? b=some u):om P w H h':=λa o e=>
 (x a o e).E6 (λb u _ q=>k b u q) (λ_ q=>q) λ_ _ q=>q
theorem om.laid(x:om P w H h)(k:∀b u,h.get? b=some u->h'.get? b=some u)(hp:h.objs.size<=a)(new:fX P w (upd H a o) h' a o):om P w (upd H a o) h':=λb u e=>by
 have hn:=x.fresh hp
 by_cases hb:b=a
 ·subst hb;rw[ak] at e;cases e;exact new
 ·rw[aj hb] at e
  exact(x b u e).E6 (λc v _ q=>k c v q) (λc q=>by rw[aj (aE q hn)];exact q) λc xs q=>by rw[aj (aE q hn)];exact q
end
def Rd(H:Hp)(a:Addr)(u:HO):Prop:=H a=some u\/∃o,H a=some (.wM o u)
theorem Rd.ok{P:Program}{w:World}{H:Hp}{h:Heap}{a:Addr}{u:HO}(r:Rd H a u)(x:om P w H h):fX P w H h a u:=by
 rcases r with r|⟨o,r⟩
 ·exact x a u r
 ·obtain⟨_,q⟩:=x a _ r
  exact q
def U3:Option HO->Prop
 |some (.lst _)=>True
 |some (.dK _)=>True
 |some (.dT _)=>True
 |some (.set _ _)=>True
 |some (.ins _ _ _)=>True
 |some (.ext _)=>True
 |_=>False
section
variable{P:Program}{w:World}{H:Hp}{h h':Heap}{x e:Addr}{o':HO}
theorem om.write(ok:om P w H h)(mu:U3 (H x))(he:e=x\/H e=some (.own x))(k:∀b u,b≠e->h.get? b=some u->h'.get? b=some u)(Ry:∃u,h'.get? e=some u)
 (new:fX P w (upd H x o') h' x o'):om P w (upd H x o') h':=λb u q=>by
 have Sv:∀c y,H c=some (.own y)->c≠x:=λc y r z=>by subst z;rw[r] at mu;exact mu
 have VP:∀c xs,H c=some (.tup xs)->c≠x:=λc xs r z=>by subst z;rw[r] at mu;exact mu
 by_cases hb:b=x
 ·subst hb;rw[ak] at q;cases q;exact new
 ·rw[aj hb] at q
  by_cases OD:b=e
  ·have q':H b=some (.own x):=by
    rcases he with z|z
    ·exact absurd (OD.trans z) hb
    ·rw[OD];exact z
   rw[q] at q';cases q'
   obtain⟨v,hv⟩:=Ry
   exact⟨v,by rw[OD];exact hv⟩
  ·refine(ok b u q).E6 (λc v hc r=>k c v ?_ r) (λc r=>by rw[aj (Sv c b r)];exact r) λc xs r=>by rw[aj (VP c xs r)];exact r
   rcases hc with rfl|hc
   ·exact OD
   ·rintro rfl
    rcases he with z|z
    ·exact Sv c b hc z
    ·rw[hc] at z;cases z;exact hb rfl
end
structure Un(fs ex:List Addr)(H H':Hp)(h h':Heap):Prop where
 keep:∀b o,h.get? b=some o->H b=none->b∉fs->b∉ex->h'.get? b=some o
 slot:∀b o,h.get? b=some o->H b=none->b∈fs->b∉ex->∃sl,h'.get? b=some { o with slots:=sl }
 free:∀b o,h.get? b=some o->H b=none->b∉ex->H' b=none
 there:∀b o,h.get? b=some o->b∉ex->∃o',h'.get? b=some o'
 y3:∀b xs,H b=some (.tup xs)->H' b=some (.tup xs)
 wN:∀b o u,H b=some (.wM o u)->H' b=some (.wM o u)
 y4:∀b ps,H b=some (.OB ps)->∃more,H' b=some (.OB (ps++more))
section
variable{fs ZK ex ex':List Addr}{H H1 H2:Hp}{h h1 h2 h':Heap}{a x e:Addr}{o:HO}
theorem Un.any(u:Un fs ex H H1 h h1){b:Addr}{ob:Obj}(q:h.get? b=some ob)(n:H b=none)(hx:b∉ex):∃sl,h1.get? b=some { ob with slots:=sl }:=by
 by_cases hb:b∈fs
 ·exact u.slot b ob q n hb hx
 ·exact⟨ob.slots,u.keep b ob q n hb hx⟩
theorem Un.kept(k:∀b u,h.get? b=some u->h'.get? b=some u):Un fs ex H H h h':=
 ⟨λb ob q _ _ _=>k b ob q,λb ob q _ _ _=>⟨ob.slots,k b ob q⟩,λ_ _ _ n _=>n,λb ob q _=>⟨ob,k b ob q⟩,λ_ _ q=>q,λ_ _ _ q=>q,λ_ ps q=>⟨#[],by rw[q];simp⟩⟩
theorem Un.refl:Un fs ex H H h h:=Un.kept λ_ _ q=>q
theorem Un.laid(k:∀b u,h.get? b=some u->h'.get? b=some u)(hp:h.objs.size<=a)(hn:H a=none):Un fs ex H (upd H a o) h h' where
 keep:=λb u q _ _ _=>k b u q
 slot:=λb u q _ _ _=>⟨u.slots,k b u q⟩
 free:=λb u q n _=>by rw[aj (Nat.ne_of_lt (Nat.lt_of_lt_of_le (Heap.lt_size q) hp))];exact n
 there:=λb u q _=>⟨u,k b u q⟩
 y3:=λb xs q=>by rw[aj (aE q hn)];exact q
 wN:=λb u xs q=>by rw[aj (aE q hn)];exact q
 y4:=λb ps q=>⟨#[],by rw[aj (aE q hn),q];simp⟩
theorem Un.write(mu:U3 (H x))(he:e=x\/H e=some (.own x))(k:∀b u,b≠e->h.get? b=some u->h'.get? b=some u)(Ry:∃u,h'.get? e=some u):Un fs ex H (upd H x o) h h':=by
 have hx:∀b,H b=none->b≠x:=λb n z=>by subst z;rw[n] at mu;exact mu
 have hb:∀b,H b=none->b≠e:=λb n z=>by
  subst z
  rcases he with r|r
  ·exact hx b n r
  ·rw[n] at r;cases r
 have hm:∀b u,H b=some u->¬U3 (some u)->b≠x:=λb u q nm z=>by subst z;rw[q] at mu;exact nm mu
 refine⟨λb u q n _ _=>k b u (hb b n) q,λb u q n _ _=>⟨u.slots,k b u (hb b n) q⟩,λb u q n _=>by rw[aj (hx b n)];exact n,λb u q _=> ?_,
  λb xs q=>by rw[aj (hm b _ q λz=>z)];exact q,λb u xs q=>by rw[aj (hm b _ q λz=>z)];exact q,λb ps q=>⟨#[],by rw[aj (hm b _ q λz=>z),q];simp⟩⟩
 by_cases OD:b=e
 ·subst OD;exact Ry
 ·exact⟨u,k b u OD q⟩
end
def kM(h:Heap)(H:Hp):List Addr:=(List.range h.objs.size).filter λa=>(H a).isSome
def wO(h:Heap)(H:Hp):Heap:=W.hideAll h (kM h H)
theorem E7(h:Heap)(H:Hp):(wO h H).objs.size=h.objs.size:=W.hideAll_size _ _
theorem Hf{h:Heap}{H:Hp}{b:Addr}{o:Obj}(e:h.get? b=some o)(n:H b=none):(wO h H).get? b=some o:=
 W.hideAll_get _ e λhm=>by
  have q:(H b).isSome=true:=(List.mem_filter.mp hm).2
  rw[n] at q;simp at q
theorem K2{h:Heap}{H:Hp}{b:Addr}{o:Obj}(e:(wO h H).get? b=some o):h.get? b=some o/\H b=none:=by
 have e':h.get? b=some o:=W.of_hideAll (kM h H) e
 refine⟨e',?_⟩
 cases q:H b with
 |none=>rfl
 |some x=>
  have hm:b∈kM h H:=List.mem_filter.mpr ⟨List.mem_range.mpr (Heap.lt_size e'),by simp[q]⟩
  have z:(wO h H).get? b=none:=W.hideAll_none (kM h H) hm
  rw[z] at e;cases e
structure Mod(K:W.Frag)(mg:Str->Option Value)(ae:Heap):Prop where
 Rz:K.In ae
 glob:ae.Ns mainGlobals mg
 blt:∃mb,ae.Ns builtinsNs mb/\∀x:Str,x≠"__name__"->mb x=bootBuiltins x
 nolimit:ae.NoLimit
structure Cx where
 prog:Program
 w:World
 K:W.Frag
 mg:Str->Option Value
 ae:Heap
 A:Around
 N:List Str
 vI:Shared
 Sw:Hp
 env:Env
 aq:List Env
 stack:List Env
 ex:List Addr
 fn:Str->Bool
 calm:Bool
 pn:List (Addr×Obj)
 xe:Value->Shared->Prop
def Hg(l:List Env):List Addr:=l.filterMap (·.frame)
abbrev Cx.fs(X:Cx):List Addr:=Hg X.aq
def Sx(sc:Scope)(x:Str):Prop:=sc.names.lookup x=some .local\/sc.names.lookup x=some .cell\/sc.names.lookup x=some .free
def Loc(sc:Scope)(x:Str):Prop:=sc.names.lookup x=some .local\/sc.names.lookup x=some .cell
def Look(env:Env)(h:Heap)(m:Str->Option Value)(x:Str)(u:Value):Prop:=
 (env.kindOf x=some .local/\m x=some u)\/((env.kindOf x=some .cell\/env.kindOf x=some .free)/\∃c,env.cells.lookup x=some c/\h.IsCell c (some u))
structure Cx.Ok(X:Cx):Prop where
 mod:Mod X.K X.mg X.ae
 kind:X.env.scope.kind=.function
 glob:X.env.globals=mainGlobals
 blt:X.env.builtins=builtinsNs
 above:X.vI.heap.objs.size<=X.env.locals
 inj:∀x y c,X.env.cells.lookup x=some c->X.env.cells.lookup y=some c->x=y
 has:∀x,(X.env.kindOf x=some .cell\/X.env.kindOf x=some .free)->∃c,X.env.cells.lookup x=some c
 Sy:∀x c,X.fn x=true->X.env.cells.lookup x=some c->X.vI.heap.objs.size<=c
 hd:X.calm=true->X.A.handled=none
 frames:X.A.frames=some X.stack
 U4:X.stack=X.aq\/(X.stack=X.env::X.aq/\X.env.frame=some X.env.locals)
 U5:∀b∈X.ex,b≠X.env.locals/\∀x c,X.env.cells.lookup x=some c->c≠b
 bs:∀b o,X.ae.get? b=some o->X.vI.heap.get? b=some o/\X.Sw b=none
 K3:X.ae.objs.size<=X.vI.heap.objs.size
 Hh:∀b o,X.ae.get? b=some o->b∉X.ex
 Hi:∀b∈X.ex,b∉X.fs
 rQ:X.vI.heap.FunFrames X.ae X.aq
 OG:∀b∈X.fs,X.Sw b=none
structure Inv(X:Cx)(ag:List (Addr×Obj))(σ:List (Option V))(H:Hp)(s:Shared):Prop where
 ok:X.Ok
 os:s.os=X.vI.os
 bare:AllBare s.gens
 ae:Un X.fs X.ex X.Sw H X.vI.heap s.heap
 loc:∃m,s.heap.Ns X.env.locals m/\∀(i:Nat)(x:Str)(v:V),X.N[i]? =some x->σ[i]? =some (some v)->Sx X.env.scope x->∃u,RelV v u/\Look X.env s.heap m x u
 cell:∀x c,X.env.cells.lookup x=some c->∃v,s.heap.IsCell c v
 free:H X.env.locals=none
 kN:∀x c,X.env.cells.lookup x=some c->H c=none
 pin:∀p∈X.pn++ag,s.heap.get? p.1=some p.2/\H p.1=none/\p.1≠X.env.locals/\p.1∉X.fs/\∀v,p.2.data≠.cell v
 cW:om X.prog X.w H s.heap
 len:σ.length=X.N.length
section
variable{X:Cx}{ag:List (Addr×Obj)}{σ:List (Option V)}{H H':Hp}{s:Shared}{h':Heap}
theorem Cx.Ok.VQ(ok:X.Ok){b:Addr}{o:Obj}(e:X.ae.get? b=some o):b∉X.fs:=λhb=>by
 have:=(ok.rQ.mem hb).1
 rw[e] at this;cases this
theorem Inv.bs(I:Inv X ag σ H s):∀b o,X.ae.get? b=some o->s.heap.get? b=some o/\H b=none:=λb o e=>
 ⟨I.ae.keep b o (I.ok.bs b o e).1 (I.ok.bs b o e).2 (I.ok.VQ e) (I.ok.Hh b o e),I.ae.free b o (I.ok.bs b o e).1 (I.ok.bs b o e).2 (I.ok.Hh b o e)⟩
theorem Inv.bk(I:Inv X ag σ H s):∀b o,X.ae.get? b=some o->s.heap.get? b=some o:=λb o e=>(I.bs b o e).1
theorem Inv.mod(I:Inv X ag σ H s):Mod X.K X.mg X.ae:=I.ok.mod
theorem Inv.E8(I:Inv X ag σ H s):X.K.In s.heap:=I.ok.mod.Rz.keeps I.bk
theorem Inv.lt(I:Inv X ag σ H s):X.env.locals<s.heap.objs.size:=let⟨_,hn,_⟩:=I.loc;hn.lt
theorem Inv.sz(I:Inv X ag σ H s):X.vI.heap.objs.size<=s.heap.objs.size:=Nat.le_trans I.ok.above (Nat.le_of_lt I.lt)
theorem Inv.VR(I:Inv X ag σ H s){a:Addr}(h:s.heap.objs.size<=a):a∉X.fs:=λhb=>by
 obtain⟨_,o,ho,_⟩:=I.ok.rQ.mem hb
 exact absurd (Nat.lt_of_lt_of_le (Heap.lt_size ho) (Nat.le_trans I.sz h)) (Nat.lt_irrefl _)
theorem Inv.OI(I:Inv X ag σ H s):∀x c,X.env.cells.lookup x=some c->c≠X.env.locals:=λx c e z=>by
 obtain⟨v,o,ho,hd⟩:=I.cell x c e
 obtain⟨m,⟨o',es,ep,DM,U6,_⟩,_⟩:=I.loc
 rw[z,DM] at ho;cases ho;rw[U6] at hd;cases hd
theorem Inv.rQ(I:Inv X ag σ H s):s.heap.FunFrames X.ae X.aq:=by
 have all:∀(l:List Env),(∀b∈Hg l,b∈X.fs)->X.vI.heap.FunFrames X.ae l->s.heap.FunFrames X.ae l:=by
  intro l
  induction l with
  |nil=>intro _ _;trivial
  |cons env r ih=>
   intro hs hl
   obtain⟨hk,⟨L,o,hf,hn,ho,hd⟩,hr⟩:=hl
   have hL:L∈X.fs:=hs L (by unfold Hg;rw[List.filterMap_cons,hf];exact List.mem_cons_self)
   obtain⟨sl,e⟩:=I.ae.slot L o ho (I.ok.OG L hL) hL λz=>I.ok.Hi L z hL
   exact⟨hk,⟨L,_,hf,hn,e,hd⟩,ih (λb hb=>hs b (by unfold Hg;rw[List.filterMap_cons,hf];exact List.mem_cons_of_mem _ hb)) hr⟩
 exact all X.aq (λ_ hb=>hb) I.ok.rQ
theorem Inv.stack(I:Inv X ag σ H s):s.heap.FunFrames X.ae X.stack:=by
 rcases I.ok.U4 with e|⟨e,hf⟩
 ·rw[e];exact I.rQ
 ·rw[e]
  obtain⟨m,hn,_⟩:=I.loc
  refine .cons (by rw[I.ok.kind];decide) hf hn ?_ I.rQ
  exact Heap.get?_none_of_le (Nat.le_trans I.ok.K3 I.ok.above)
theorem Inv.Bk(I:Inv X ag σ H s):∀b∈Hg X.stack,b∈X.env.locals::X.fs:=λb hb=>by
 rcases I.ok.U4 with e|⟨e,hf⟩
 ·rw[e] at hb;exact List.mem_cons_of_mem _ hb
 ·rw[e] at hb
  unfold Hg at hb
  rw[List.filterMap_cons,hf] at hb
  exact hb
theorem Inv.DN(I:Inv X ag σ H s):∀b∈Hg X.stack,H b=none:=λb hb=>by
 rcases List.mem_cons.mp (I.Bk b hb) with e|hb
 ·rw[e];exact I.free
 ·obtain⟨_,o,ho,_⟩:=I.ok.rQ.mem hb
  exact I.ae.free b o ho (I.ok.OG b hb) λz=>I.ok.Hi b z hb
theorem Inv.step{g':Array GenState}{t':Nat}{d':Drawn}{ch:List Addr}(I:Inv X ag σ H s)
 (KL:∀b∈ch,(b∈X.ex\/X.vI.heap.objs.size<=b)/\b≠X.env.locals/\(∀x c,X.env.cells.lookup x=some c->c≠b)/\∀p∈X.pn++ag,p.1≠b)
 (keep:∀b o,b≠X.env.locals->b∉X.fs->b∉ch->s.heap.get? b=some o->H b=none->h'.get? b=some o)
 (slot:∀b o,b≠X.env.locals->b∈X.fs->b∉ch->s.heap.get? b=some o->H b=none->∃sl,h'.get? b=some { o with slots:=sl })(free:∀b o,b∉ch->s.heap.get? b=some o->H b=none->H' b=none)
 (there:∀b o,b∉ch->s.heap.get? b=some o->∃o',h'.get? b=some o')
 (y3:∀b xs,H b=some (.tup xs)->H' b=some (.tup xs))(wN:∀b o u,H b=some (.wM o u)->H' b=some (.wM o u))(y4:∀b ps,H b=some (.OB ps)->∃more,H' b=some (.OB (ps++more)))
 (ns:∀m,s.heap.Ns X.env.locals m->h'.Ns X.env.locals m)(cW:om X.prog X.w H' h')(hg:AllBare g'):
 Inv X ag σ H' { s with heap:=h',gens:=g',drawn:=d',toks:=t' }:=by
 have Yz:∀b o,X.vI.heap.get? b=some o->b≠X.env.locals:=λb o e=>Nat.ne_of_lt (Nat.lt_of_lt_of_le (Heap.lt_size e) I.ok.above)
 have U7:∀b o,X.vI.heap.get? b=some o->b∉X.ex->b∉ch:=λb o e hx hb=>by
  rcases(KL b hb).1 with z|z
  ·exact hx z
  ·exact absurd (Nat.lt_of_lt_of_le (Heap.lt_size e) z) (Nat.lt_irrefl _)
 have cellK:∀x c,X.env.cells.lookup x=some c->∀v,s.heap.IsCell c v->h'.IsCell c v:=λx c e v ⟨o,ho,hd⟩=>by
  have Sz:c∉ch:=λz=>(KL c z).2.2.1 x c e rfl
  by_cases hc:c∈X.fs
  ·obtain⟨sl,q⟩:=slot c o (I.OI x c e) hc Sz ho (I.kN x c e)
   exact⟨_,q,hd⟩
  ·exact⟨o,keep c o (I.OI x c e) hc Sz ho (I.kN x c e),hd⟩
 refine⟨I.ok,I.os,hg,⟨λb o e n hb hx=> ?_,λb o e n hb hx=> ?_,λb o e n hx=> ?_,λb o e hx=> ?_,λb xs e=>y3 b xs (I.ae.y3 b xs e),λb o xs e=>wN b o xs (I.ae.wN b o xs e),λb ps e=> ?_⟩,?_,λx c e=> ?_,?_,λx c e=> ?_,λp hp=> ?_,cW,I.len⟩
 ·exact keep b o (Yz b o e) hb (U7 b o e hx) (I.ae.keep b o e n hb hx) (I.ae.free b o e n hx)
 ·obtain⟨sl,e1⟩:=I.ae.slot b o e n hb hx
  obtain⟨ZL,e2⟩:=slot b _ (Yz b o e) hb (U7 b o e hx) e1 (I.ae.free b o e n hx)
  exact⟨ZL,e2⟩
 ·obtain⟨o',e1⟩:=I.ae.there b o e hx
  exact free b o' (U7 b o e hx) e1 (I.ae.free b o e n hx)
 ·obtain⟨o',e1⟩:=I.ae.there b o e hx
  exact there b o' (U7 b o e hx) e1
 ·obtain⟨m1,e1⟩:=I.ae.y4 b ps e
  obtain⟨m2,e2⟩:=y4 b _ e1
  exact⟨m1++m2,by rw[e2,Array.append_assoc]⟩
 ·obtain⟨m,hn,hl⟩:=I.loc
  refine⟨m,ns m hn,λi x v e1 e2 e3=> ?_⟩
  obtain⟨u,r,l⟩:=hl i x v e1 e2 e3
  refine⟨u,r,?_⟩
  rcases l with l|⟨k,c,e,z⟩
  ·exact .inl l
  ·exact .inr ⟨k,c,e,cellK x c e _ z⟩
 ·obtain⟨v,z⟩:=I.cell x c e
  exact⟨v,cellK x c e v z⟩
 ·obtain⟨m,⟨o,_,_,ho,_⟩,_⟩:=I.loc
  exact free _ o (λz=>(KL _ z).2.1 rfl) ho I.free
 ·obtain⟨v,o,ho,hd⟩:=I.cell x c e
  exact free c o (λz=>(KL c z).2.2.1 x c e rfl) ho (I.kN x c e)
 ·obtain⟨e,n,ne,nf,d⟩:=I.pin p hp
  have Sz:p.1∉ch:=λz=>(KL p.1 z).2.2.2 p hp rfl
  exact⟨keep p.1 p.2 ne nf Sz e n,free p.1 p.2 Sz e n,ne,nf,d⟩
theorem Inv.un{t':Nat}(I:Inv X ag σ H s)(u:Un X.fs [] H H' s.heap h')(cW:om X.prog X.w H' h'):Inv X ag σ H' { s with heap:=h',toks:=t' }:=by
 obtain⟨m,⟨o,es,ep,ho,r⟩,_⟩:=id I.loc
 obtain⟨sl,hL⟩:=u.any ho I.free (by simp)
 exact I.step (g':=s.gens) (d':=s.drawn) (ch:= []) (λ_ z=>nomatch z) (λb o _ hb _ e n=>u.keep b o e n hb (by simp)) (λb o _ hb _ e n=>u.slot b o e n hb (by simp)) (λb o _ e n=>u.free b o e n (by simp)) (λb o _ e=>u.there b o e (by simp)) u.y3 u.wN u.y4 (λm' hm=>by
  obtain⟨o',VS,VW,DM,r'⟩:=hm
  rw[ho] at DM;cases DM
  exact⟨_,VS,VW,hL,r'⟩) cW I.bare
theorem Inv.call{g':Array GenState}{t':Nat}{d':Drawn}{ch:List Addr}(I:Inv X ag σ H s)(u:Un (Hg X.stack) ch H H' s.heap h')(cW:om X.prog X.w H' h')(hg:AllBare g')
 (KL:∀b∈ch,(b∈X.ex\/X.vI.heap.objs.size<=b)/\b≠X.env.locals/\(∀x c,X.env.cells.lookup x=some c->c≠b)/\∀p∈X.pn++ag,p.1≠b):
 Inv X ag σ H' { s with heap:=h',gens:=g',drawn:=d',toks:=t' }:=by
 obtain⟨m,⟨o,es,ep,ho,r⟩,_⟩:=id I.loc
 obtain⟨sl,hL⟩:=u.any ho I.free λz=>(KL _ z).2.1 rfl
 exact I.step (ch:=ch) KL (λb o hL hb hc e n=>u.keep b o e n (λz=>(List.mem_cons.mp (I.Bk b z)).elim hL hb) hc) (λb o _ _ hc e n=>u.any e n hc) (λb o hc e n=>u.free b o e n hc) (λb o hc e=>u.there b o e hc) u.y3 u.wN u.y4 (λm' hm=>by
  obtain⟨o',VS,VW,DM,r'⟩:=hm
  rw[ho] at DM;cases DM
  exact⟨_,VS,VW,hL,r'⟩) cW hg
theorem Inv.turned{t':Nat}{it:Addr}(I:Inv X ag σ H s)(k:∀b o,b≠it->s.heap.get? b=some o->h'.get? b=some o)(hn:H it=none)(hL:it≠X.env.locals)
 (h1:it∈X.ex\/X.vI.heap.objs.size<=it)(h2:∀x c,X.env.cells.lookup x=some c->c≠it)(h3:∀p∈X.pn++ag,p.1≠it):Inv X ag σ H { s with heap:=h',toks:=t' }:=by
 have SD:∀b u,H b=some u->b≠it:=λb u e z=>by rw[z,hn] at e;cases e
 refine I.step (g':=s.gens) (d':=s.drawn) (ch:= [it]) (λb hb=> ?_) (λb o _ _ hc e _=>k b o (λz=>hc (by simp[z])) e) (λb o _ _ hc e _=>⟨o.slots,k b o (λz=>hc (by simp[z])) e⟩) (λ_ _ _ _ n=>n)
  (λb o hc e=>⟨o,k b o (λz=>hc (by simp[z])) e⟩) (λ_ _ e=>e) (λ_ _ _ e=>e) (λb ps e=>⟨#[],by rw[e];simp⟩) (λm hm=> ?_) (λb u e=> ?_) I.bare
 ·have e:b=it:=by simpa using hb
  subst e
  exact⟨h1,hL,h2,h3⟩
 ·obtain⟨o,es,ep,ho,r⟩:=hm
  exact⟨o,es,ep,k _ o (Ne.symm hL) ho,r⟩
 ·refine(I.cW b u e).E6 (λc v hc q=>k c v ?_ q) (λ_ q=>q) λ_ _ q=>q
  rcases hc with z|z
  ·rw[z];exact SD b u e
  ·exact SD c _ z
theorem Inv.tok(I:Inv X ag σ H s)(t:Nat):Inv X ag σ H { s with toks:=t }:=I.un (h':=s.heap) (t':=t) Un.refl I.cW
theorem Inv.kept{t':Nat}(I:Inv X ag σ H s)(k:∀b u,s.heap.get? b=some u->h'.get? b=some u):Inv X ag σ H { s with heap:=h',toks:=t' }:=I.un (Un.kept k) (I.cW.kept k)
theorem Inv.laid{a:Addr}{o:HO}{t':Nat}(I:Inv X ag σ H s)(k:∀b u,s.heap.get? b=some u->h'.get? b=some u)(hp:s.heap.objs.size<=a)(new:fX X.prog X.w (upd H a o) h' a o):
 Inv X ag σ (upd H a o) { s with heap:=h',toks:=t' }:=I.un (Un.laid k hp (I.cW.fresh hp)) (I.cW.laid k hp new)
theorem Inv.write{x e:Addr}{o:HO}{t':Nat}(I:Inv X ag σ H s)(mu:U3 (H x))(he:e=x\/H e=some (.own x))(k:∀b u,b≠e->s.heap.get? b=some u->h'.get? b=some u)(Ry:∃u,h'.get? e=some u)
 (new:fX X.prog X.w (upd H x o) h' x o):Inv X ag σ (upd H x o) { s with heap:=h',toks:=t' }:=I.un (Un.write mu he k Ry) (I.cW.write mu he k Ry new)
theorem Inv.weak{aO:List (Option V)}(I:Inv X ag σ H s)(hl:aO.length=σ.length)(w:∀(i:Nat) v,aO[i]? =some (some v)->σ[i]? =some (some v)):Inv X ag aO H s:=
 ⟨I.ok,I.os,I.bare,I.ae,let⟨m,hn,ZM⟩:=I.loc;⟨m,hn,λi x v e1 e2 e3=>ZM i x v e1 (w i v e2) e3⟩,I.cell,I.free,I.kN,I.pin,I.cW,hl.trans I.len⟩
theorem Inv.DP{NK:List (Addr×Obj)}(I:Inv X ag σ H s)(h:∀p∈NK,s.heap.get? p.1=some p.2/\H p.1=none/\p.1≠X.env.locals/\p.1∉X.fs/\∀v,p.2.data≠.cell v):Inv X NK σ H s:=
 ⟨I.ok,I.os,I.bare,I.ae,I.loc,I.cell,I.free,I.kN,λp hp=>(List.mem_append.mp hp).elim (λz=>I.pin p (List.mem_append_left _ z)) (h p),I.cW,I.len⟩
theorem tF{N:List Str}(hN:N.Nodup){i j:Nat}{x:Str}(a:N[i]? =some x)(b:N[j]? =some x):i=j:=by
 obtain⟨h1,e1⟩:=List.getElem?_eq_some_iff.mp a
 obtain⟨h2,e2⟩:=List.getElem?_eq_some_iff.mp b
 exact(List.getElem_inj hN).mp (e1.trans e2.symm)
theorem vJ{M:Model}{A:Around}{E:Value->Shared->Prop}{i:Nat}{x:Str}{v:V}{u:Value}{Q:Unit->Shared->Prop}(I:Inv X ag σ H s)(hN:X.N.Nodup)(hi:X.N[i]? =some x)(hx:Loc X.env.scope x)(r:RelV v u)
 (h:∀s',Inv X ag (σ.set i (some v)) H s'->(∃a,Heap.SameBut a s.heap s'.heap/\(a=X.env.locals\/X.env.cells.lookup x=some a))->Q () s')(hf:X.fn x=true\/X.env.scope.names.lookup x=some .local:=by first|exact .inl rfl|exact .inr rfl|assumption):wpAny M A (storeName X.env x u) Q E s:=by
 obtain⟨m,hn,hl⟩:=id I.loc
 have VX:(X.env.scope.kind==.class||(X.env.scope.kind==.module&&X.env.locals != X.env.globals))=false:=by rw[I.ok.kind];rfl
 have SF:i<σ.length:=by rw[I.len];exact(List.getElem?_eq_some_iff.mp hi).1
 have OI:=I.OI
 have tracked:∀{a:Addr}{h':Heap},(∃o,s.heap.get? a=some o/\H a=none)->Heap.SameBut a s.heap h'->om X.prog X.w H h':=λ{a h'} ha hs b ob e=>by
  obtain⟨_,_,vK⟩:=ha
  refine(I.cW b ob e).E6 (λc w' hc q=>(hs.2 c ?_).trans q) (λ_ q=>q) λ_ _ q=>q
  rintro rfl
  rcases hc with rfl|hc
  ·rw[vK] at e;cases e
  ·rw[vK] at hc;cases hc
 rcases hx with hk|hk
 ·refine wpAny_storeName_local hk hn (λh' VY hs=> ?_) VX
  obtain⟨oL,_,_,ZN,_⟩:=id hn
  refine h _ ⟨I.ok,I.os,I.bare,⟨λb o e n hb hx=> ?_,λb o e n hb hx=> ?_,I.ae.free,λb o e hx=> ?_,I.ae.y3,I.ae.wN,I.ae.y4⟩,⟨_,VY,λj y v' e1 e2 e3=> ?_⟩,λy c e=> ?_,I.free,I.kN,λp hp=> ?_,tracked ⟨oL,ZN,I.free⟩ hs,by simpa using I.len⟩ ⟨_,hs,.inl rfl⟩
  ·exact(hs.2 b (Nat.ne_of_lt (Nat.lt_of_lt_of_le (Heap.lt_size e) I.ok.above))).trans (I.ae.keep b o e n hb hx)
  ·obtain⟨sl,e1⟩:=I.ae.slot b o e n hb hx
   exact⟨sl,(hs.2 b (Nat.ne_of_lt (Nat.lt_of_lt_of_le (Heap.lt_size e) I.ok.above))).trans e1⟩
  ·obtain⟨o',e1⟩:=I.ae.there b o e hx
   exact⟨o',(hs.2 b (Nat.ne_of_lt (Nat.lt_of_lt_of_le (Heap.lt_size e) I.ok.above))).trans e1⟩
  ·by_cases hj:j=i
   ·subst hj
    rw[hi] at e1;cases e1
    rw[List.getElem?_set_self SF] at e2
    cases e2
    exact⟨u,r,.inl ⟨hk,by simp⟩⟩
   ·rw[List.getElem?_set_ne (Ne.symm hj)] at e2
    obtain⟨u',r',q⟩:=hl j y v' e1 e2 e3
    refine⟨u',r',?_⟩
    rcases q with⟨k,e⟩|⟨k,c,e,z⟩
    ·refine .inl ⟨k,?_⟩
     have:y≠x:=λe=>hj (tF hN e1 (e▸hi))
     simp[this,e]
    ·exact .inr ⟨k,c,e,z.sameBut hs (OI y c e)⟩
  ·obtain⟨w',z⟩:=I.cell y c e
   exact⟨w',z.sameBut hs (OI y c e)⟩
  ·obtain⟨e,n,ne,nf,d⟩:=I.pin p hp
   exact⟨(hs.2 p.1 ne).trans e,n,ne,nf,d⟩
 ·have SG:X.fn x=true:=by
   rcases hf with z|z
   ·exact z
   ·rw[z] at hk;cases hk
  obtain⟨c,hc⟩:=I.ok.has x (.inl hk)
  obtain⟨w',z⟩:=I.cell x c hc
  refine wpAny_storeName_cell I.ok.kind hk hc z (λh' YB hs=> ?_)
  obtain⟨oc,YC,VZ⟩:=id z
  refine h { s with heap:=h' } ⟨I.ok,I.os,I.bare,⟨λb o e n hb hx=> ?_,λb o e n hb hx=> ?_,I.ae.free,λb o e hx=> ?_,I.ae.y3,I.ae.wN,I.ae.y4⟩,⟨m,hn.sameBut hs (Ne.symm (OI x c hc)),λj y v' e1 e2 e3=> ?_⟩,λy c' e=> ?_,I.free,I.kN,λp hp=> ?_,tracked ⟨oc,YC,I.kN x c hc⟩ hs,by simpa using I.len⟩ ⟨c,hs,.inr hc⟩
  ·exact(hs.2 b (Nat.ne_of_lt (Nat.lt_of_lt_of_le (Heap.lt_size e) (I.ok.Sy x c SG hc)))).trans (I.ae.keep b o e n hb hx)
  ·obtain⟨sl,e1⟩:=I.ae.slot b o e n hb hx
   exact⟨sl,(hs.2 b (Nat.ne_of_lt (Nat.lt_of_lt_of_le (Heap.lt_size e) (I.ok.Sy x c SG hc)))).trans e1⟩
  ·obtain⟨o',e1⟩:=I.ae.there b o e hx
   exact⟨o',(hs.2 b (Nat.ne_of_lt (Nat.lt_of_lt_of_le (Heap.lt_size e) (I.ok.Sy x c SG hc)))).trans e1⟩
  ·by_cases hj:j=i
   ·subst hj
    rw[hi] at e1;cases e1
    rw[List.getElem?_set_self SF] at e2
    cases e2
    exact⟨u,r,.inr ⟨.inl hk,c,hc,YB⟩⟩
   ·rw[List.getElem?_set_ne (Ne.symm hj)] at e2
    obtain⟨u',r',q⟩:=hl j y v' e1 e2 e3
    refine⟨u',r',?_⟩
    rcases q with q|⟨k,c',e,z'⟩
    ·exact .inl q
    ·refine .inr ⟨k,c',e,z'.sameBut hs ?_⟩
     rintro rfl
     exact hj (tF hN e1 (I.ok.inj _ _ _ e hc▸hi))
  ·by_cases YD:c'=c
   ·subst YD;exact⟨_,YB⟩
   ·obtain⟨w2,z2⟩:=I.cell y c' e
    exact⟨w2,z2.sameBut hs YD⟩
  ·obtain⟨e,n,ne,nf,d⟩:=I.pin p hp
   refine⟨(hs.2 p.1 ?_).trans e,n,ne,nf,d⟩
   intro q
   rw[q,YC] at e
   have q':oc=p.2:=Option.some.inj e
   exact d w' (by rw[<-q'];exact VZ)
theorem y6{M:Model}{A:Around}{E:Value->Shared->Prop}{i:Nat}{x:Str}{v:V}{u:Value}{Q:Unit->Shared->Prop}(I:Inv X ag σ H s)(hN:X.N.Nodup)(hi:X.N[i]? =some x)(hx:Loc X.env.scope x)(r:RelV v u)
 (h:∀s',Inv X ag (σ.set i (some v)) H s'->Q () s')(hf:X.fn x=true\/X.env.scope.names.lookup x=some .local:=by first|exact .inl rfl|exact .inr rfl|assumption):wpAny M A (storeName X.env x u) Q E s:=
 vJ I hN hi hx r (λs' I' _=>h s' I') hf
theorem Inv.SJ{s':Shared}{ch:List Addr}(I:Inv X ag σ H s)(ho:s'.os=s.os)(u:Un (Hg X.stack) ch H H' s.heap s'.heap)(cW:om X.prog X.w H' s'.heap)(hg:AllBare s'.gens)
 (KL:∀b∈ch,(b∈X.ex\/X.vI.heap.objs.size<=b)/\b≠X.env.locals/\(∀x c,X.env.cells.lookup x=some c->c≠b)/\∀p∈X.pn++ag,p.1≠b):Inv X ag σ H' s':=by
 obtain⟨h',g',d',t',o'⟩:=s'
 have e:o'=s.os:=ho
 subst e
 exact I.call (g':=g') (t':=t') (d':=d') u cW hg KL
end
abbrev XK:=Value->Option Addr->Hp->Prop
abbrev St:=List (Option V)
abbrev VK:=V->Hp->Prop
abbrev TE:=St->Hp->VK->Prop
abbrev TT:=St->Hp->(Bool->Hp->Prop)->Prop
abbrev TA:=St->Hp->(List V->Hp->Prop)->Prop
structure Ends where
 nx:St->Hp->Prop
 rt:VK
 bk:St->Hp->Prop:=λ_ _=>False
 ct:St->Hp->Prop:=λ_ _=>False
abbrev TS:=Ends->St->Hp->Prop
def EP(X:Cx)(ag:List (Addr×Obj))(σ:St)(Q:VK)(u:Value)(s':Shared):Prop:=∃v H',Inv X ag σ H' s'/\RelV v u/\Q v H'
def TP(X:Cx)(ag:List (Addr×Obj))(σ:St)(Q:Bool->Hp->Prop)(b:Bool)(s':Shared):Prop:=∃H',Inv X ag σ H' s'/\Q b H'
def AP(X:Cx)(ag:List (Addr×Obj))(σ:St)(Q:List V->Hp->Prop)(us:List Value)(s':Shared):Prop:=∃vs H',Inv X ag σ H' s'/\Vals vs us/\Q vs H'
def SP(X:Cx)(ag:List (Addr×Obj))(D:Ends)(f:Flow)(s':Shared):Prop:=
 match f with
 | .next=>∃aO H',Inv X ag aO H' s'/\D.nx aO H'
 | .brk=>∃aO H',Inv X ag aO H' s'/\D.bk aO H'
 | .cont=>∃aO H',Inv X ag aO H' s'/\D.ct aO H'
 | .ret u=>∃v aO H',Inv X ag aO H' s'/\RelV v u/\D.rt v H'
def PE(X:Cx)(e:Expr)(t:TE):Prop:=
 ∀(ag:List (Addr×Obj))(s:Shared)(σ:St)(H:Hp)(Q:VK),Inv X ag σ H s->t σ H Q->wpAny (model X.prog X.w) X.A (eval e X.env) (EP X ag σ Q) X.xe s
def PT(X:Cx)(e:Expr)(t:TT):Prop:=
 ∀(ag:List (Addr×Obj))(s:Shared)(σ:St)(H:Hp)(Q:Bool->Hp->Prop),Inv X ag σ H s->t σ H Q->wpAny (model X.prog X.w) X.A (isTrue e X.env (eval e X.env)) (TP X ag σ Q) X.xe s
def PW(X:Cx)(e:Expr)(t:TT):Prop:=
 ∀(whole:Sem Value)(ag:List (Addr×Obj))(s:Shared)(σ:St)(H:Hp)(Q:Bool->Hp->Prop),Inv X ag σ H s->t σ H Q->wpAny (model X.prog X.w) X.A (isTrue e X.env whole) (TP X ag σ Q) X.xe s
def PA(X:Cx)(es:List Expr)(t:TA):Prop:=
 ∀(pos:Pos)(ag:List (Addr×Obj))(s:Shared)(σ:St)(H:Hp)(Q:List V->Hp->Prop),Inv X ag σ H s->t σ H Q->wpAny (model X.prog X.w) X.A (spliced (backTo pos (starEach es X.env))) (AP X ag σ Q) X.xe s
def PS(X:Cx)(st:Stmt)(t:TS):Prop:=
 ∀(ag:List (Addr×Obj))(s:Shared)(σ:St)(H:Hp)(D:Ends),Inv X ag σ H s->t D σ H->wpAny (model X.prog X.w) X.A (exec st X.env) (SP X ag D) X.xe s
def Bl(X:Cx)(st:List Stmt)(t:TS):Prop:=
 ∀(ag:List (Addr×Obj))(s:Shared)(σ:St)(H:Hp)(D:Ends),Inv X ag σ H s->t D σ H->wpAny (model X.prog X.w) X.A (execs st X.env) (SP X ag D) X.xe s
theorem dJ{α:Type}{t:Sem α}{Q Q':α->Shared->Prop}{M:Model}{A:Around}{E:Value->Shared->Prop}{s:Shared}(h:wpAny M A t Q E s)(hQ:∀a s,Q a s->Q' a s):wpAny M A t Q' E s:=wpAny_mono h hQ λ_ _ x=>x
section
variable{X:Cx}
def V0(i:Nat):TE:=λσ H Q=>∃v,σ[i]? =some (some v)/\Q v H
def tC(v:V):TE:=λ_ H Q=>Q v H
theorem OJ{i:Nat}{x:Str}{pos:Pos}(hN:X.N[i]? =some x)(hv:Sx X.env.scope x)(hd:(x==("__debug__":Str))=false:=by decide)(KN:(x==("__classdict__":Str))=false:=by decide):PE X (.Name x pos) (V0 i):=by
 intro ag s σ H Q I h
 obtain⟨v,e,h⟩:=h
 obtain⟨m,hn,hl⟩:=I.loc
 obtain⟨u,r,l⟩:=hl i x v hN e hv
 have fin:EP X ag σ Q u s:=⟨v,H,I,r,h⟩
 rcases l with⟨hk,hm⟩|⟨hk,c,hc,NM⟩
 ·exact wpAny_Name (wpAny_loadName_local I.ok.kind hk hn hm fin) hd
 ·rcases hk with hk|hk
  ·exact wpAny_Name (wpAny_loadName_cell I.ok.kind hk hc NM fin) hd
  ·exact wpAny_Name (wpAny_loadName_free I.ok.kind hk hc NM fin KN) hd
theorem OL{i j pos}:PE X (.Constant (.int i) j pos) (tC (.int i)):=λ_ _ _ H _ I h=>wpAny_Constant_int ⟨.int i,H,I.tok _,⟨_,rfl⟩,h⟩
theorem SK{b j pos}:PE X (.Constant (.bool b) j pos) (tC (.bl b)):=λ_ _ _ H _ I h=>Constant_bool ⟨.bl b,H,I,rfl,h⟩
theorem OO{j pos}:PE X (.Constant .none j pos) (tC .non):=λ_ _ _ H _ I h=>Constant_none ⟨.non,H,I,rfl,h⟩
theorem OQ{x j pos}:PE X (.Constant (.str x) j pos) (tC (.str x)):=λ_ _ _ H _ I h=>Calls.Constant_str ⟨.str x,H,I.tok _,⟨_,rfl⟩,h⟩
def Gl(X:Cx)(x:Str):Prop:=X.env.kindOf x=some .globalImplicit
theorem sL{E:Value->Shared->Prop}{ag:List (Addr×Obj)}{s:Shared}{σ:St}{H:Hp}{x:Str}{u:Value}{pos:Pos}{Q:Value->Shared->Prop}(I:Inv X ag σ H s)(hg:Gl X x)(hm:X.mg x=some u)(h:Q u s)
 (hd:(x==("__debug__":Str))=false:=by decide):wpAny (model X.prog X.w) X.A (eval (.Name x pos) X.env) Q E s:=
 Calls.Name_function_global I.ok.kind hg (Calls.loadGlobal_global (by rw[I.ok.glob];exact I.mod.glob.keeps I.bk) hm h) hd
theorem wQ{E:Value->Shared->Prop}{ag:List (Addr×Obj)}{s:Shared}{σ:St}{H:Hp}{x:Str}{u:Value}{pos:Pos}{Q:Value->Shared->Prop}(I:Inv X ag σ H s)(hg:Gl X x)(hm:X.mg x=none)(hv:bootBuiltins x=some u)(h:Q u s)
 (hn:x≠"__name__":=by decide)(hd:(x==("__debug__":Str))=false:=by decide):wpAny (model X.prog X.w) X.A (eval (.Name x pos) X.env) Q E s:=by
 obtain⟨mb,h1,h2⟩:=I.mod.blt
 exact Calls.Name_function_global I.ok.kind hg (Calls.loadGlobal_builtin (by rw[I.ok.glob];exact I.mod.glob.keeps I.bk) hm (by rw[I.ok.blt];exact h1.keeps I.bk) ((h2 x hn).trans hv) h) hd
theorem K4{x:Str}{v:V}{u:Value}{pos:Pos}(hg:Gl X x)(hm:X.mg x=some u)(r:RelV v u)(hd:(x==("__debug__":Str))=false:=by decide):PE X (.Name x pos) (tC v):=
 λ_ _ _ H _ I h=>sL I hg hm ⟨v,H,I,r,h⟩ hd
variable{a b:Expr}{ta tb:TE}{pos:Pos}
def tB(t:TE):TT:=λσ H Q=>t σ H λx H1=>∃c,x=.bl c/\Q c H1
theorem Hj{e:Expr}{t:TE}(h:PE X e t)(he:∀whole,isTrue e X.env whole=(do let v <-whole;standAt e.pos;holding [v] (truthy v)):=by intro _;rfl):PT X e (tB t):=by
 intro ag s σ H Q I hw
 refine isTrue_plain (dJ (h ag s σ H _ I hw) λv s1 ⟨x,H1,I1,r1,q1⟩=> ?_) (he _)
 obtain⟨d,rfl,q⟩:=q1
 cases r1
 exact wpAny_truthy_bool ⟨H1,I1,q⟩
variable{tA U8:TT}{rest:List Expr}
def V1(t u:TT):TT:=λσ H Q=>t σ H λc H1=>if c=true then u σ H1 Q else Q false H1
def ZO(t u:TT):TT:=λσ H Q=>t σ H λc H1=>if c=true then Q true H1 else u σ H1 Q
def V2(t:TT):TT:=λσ H Q=>t σ H λc H1=>Q (!c) H1
theorem K5(ha:PT X a tA):PW X (.BoolOp .And [a] pos) tA:=by
 intro wh ag s σ H Q I h
 refine isTrue_and (dJ (ha ag s σ H Q I h) λc s1 e=> ?_)
 cases c with
 |true=>exact isTrue_and_nil e
 |false=>exact e
theorem OS(ha:PT X a tA):PW X (.BoolOp .Or [a] pos) tA:=by
 intro wh ag s σ H Q I h
 refine isTrue_or (dJ (ha ag s σ H Q I h) λc s1 e=> ?_)
 cases c with
 |false=>exact isTrue_or_nil e
 |true=>exact e
theorem OU(ha:PT X a tA)(hb:PW X (.BoolOp .And (b::rest) pos) U8):PW X (.BoolOp .And (a::b::rest) pos) (V1 tA U8):=by
 intro wh ag s σ H Q I h
 refine isTrue_and (dJ (ha ag s σ H _ I h) λc s1 ⟨H1,I1,q1⟩=> ?_)
 cases c with
 |true=>exact hb wh ag s1 σ H1 Q I1 q1
 |false=>exact⟨H1,I1,q1⟩
theorem SM(ha:PT X a tA)(hb:PW X (.BoolOp .Or (b::rest) pos) U8):PW X (.BoolOp .Or (a::b::rest) pos) (ZO tA U8):=by
 intro wh ag s σ H Q I h
 refine isTrue_or (dJ (ha ag s σ H _ I h) λc s1 ⟨H1,I1,q1⟩=> ?_)
 cases c with
 |true=>exact⟨H1,I1,q1⟩
 |false=>exact hb wh ag s1 σ H1 Q I1 q1
theorem Hk(ha:PT X a tA):PT X (.UnaryOp .Not a pos) (V2 tA):=by
 intro ag s σ H Q I h
 exact isTrue_not (ha ag s σ H (λc H1=>Q (!c) H1) I h)
def SN(ta tb:TE):TE:=λσ H Q=>ta σ H λx H1=>∃c,x=.bl c/\if c=true then tb σ H1 Q else Q (.bl false) H1
def V3(ta tb:TE):TE:=λσ H Q=>ta σ H λx H1=>∃c,x=.bl c/\if c=true then Q (.bl true) H1 else tb σ H1 Q
def SQ(ta:TE):TE:=λσ H Q=>ta σ H λx H1=>∃c,x=.bl c/\Q (.bl (!c)) H1
theorem OV{op}{t:TE}(h:PE X a t):PE X (.BoolOp op [a] pos) t:=λag s σ H Q I hw=>BoolOp_one (h ag s σ H Q I hw)
theorem OW(ha:PE X a ta)(hb:PE X (.BoolOp .And (b::rest) pos) tb):PE X (.BoolOp .And (a::b::rest) pos) (SN ta tb):=by
 intro ag s σ H Q I h
 refine BoolOp_and (dJ (ha ag s σ H _ I h) λv s1 ⟨x,H1,I1,r1,q1⟩=> ?_)
 obtain⟨c,rfl,q1⟩:=q1
 cases r1
 refine wpAny_truthy_bool ?_
 cases c with
 |true=>exact hb ag s1 σ H1 Q I1 q1
 |false=>exact⟨.bl false,H1,I1,rfl,q1⟩
theorem SR(ha:PE X a ta)(hb:PE X (.BoolOp .Or (b::rest) pos) tb):PE X (.BoolOp .Or (a::b::rest) pos) (V3 ta tb):=by
 intro ag s σ H Q I h
 refine BoolOp_or (dJ (ha ag s σ H _ I h) λv s1 ⟨x,H1,I1,r1,q1⟩=> ?_)
 obtain⟨c,rfl,q1⟩:=q1
 cases r1
 refine wpAny_truthy_bool ?_
 cases c with
 |false=>exact hb ag s1 σ H1 Q I1 q1
 |true=>exact⟨.bl true,H1,I1,rfl,q1⟩
theorem Hl(ha:PE X a ta):PE X (.UnaryOp .Not a pos) (SQ ta):=by
 intro ag s σ H Q I h
 refine UnaryOp_ (dJ (ha ag s σ H _ I h) λv s1 ⟨x,H1,I1,r1,q1⟩=> ?_)
 obtain⟨c,rfl,q1⟩:=q1
 cases r1
 exact not_of (wpAny_truthy_bool ⟨.bl (!c),H1,I1,rfl,q1⟩)
def ZP(t:TT)(ta tb:TE):TE:=λσ H Q=>t σ H λc H1=>if c=true then ta σ H1 Q else tb σ H1 Q
theorem y8{c:Expr}(hc:PT X c tA)(ha:PE X a ta)(hb:PE X b tb):PE X (.IfExp c a b pos) (ZP tA ta tb):=by
 intro ag s σ H Q I h
 refine wpAny_IfExp (dJ (hc ag s σ H _ I h) λd s1 ⟨H1,I1,q1⟩=> ?_)
 cases d with
 |true=>exact ha ag s1 σ H1 Q I1 q1
 |false=>exact hb ag s1 σ H1 Q I1 q1
end
def aF(K:W.Frag)(H:Hp)(a:Addr)(xs:List V):Prop:=
 Rd H a (.lst xs)\/
  ∃(o:Obj)(its:Array Value)(n:Nat),K.lookup a=some o/\o.cls=.type "list"/\o.dict=none/\o.data=.seq its n/\its.size<=sizeLine/\Vals xs its.toList
def pZ(K:W.Frag)(H:Hp)(a:Addr)(xs:List V):Prop:=
 Rd H a (.tup xs)\/
  ∃(o:Obj)(its:Array Value)(n:Nat),K.lookup a=some o/\o.cls=.type "tuple"/\o.data=.seq its n/\its.size<=sizeLine/\Vals xs its.toList
def V4:Value->Option V
 | .none=>some .non
 | .bool b=>some (.bl b)
 | .int i _=>some (.int i)
 | .str x _=>some (.str x)
 | .bytes b _=>some (.y2 b)
 | .float b _=>some (.Sl b)
 | .ref a=>some (.ref a)
 | .type n=>some (.ty n)
 |_=>none
theorem RelV.abs{x:V}{u:Value}(r:RelV x u):V4 u=some x:=by
 cases x with
 |non=>cases r;rfl
 |bl _=>cases r;rfl
 |int _=>obtain⟨t,rfl⟩:=r;rfl
 |str _=>obtain⟨t,rfl⟩:=r;rfl
 |y2 _=>obtain⟨t,rfl⟩:=r;rfl
 |Sl _=>obtain⟨t,rfl⟩:=r;rfl
 |ref _=>cases r;rfl
 |ty _=>cases r;rfl
theorem RelV.inj{x y:V}{u:Value}(r:RelV x u)(q:RelV y u):x=y:=Option.some.inj (r.abs.symm.trans q.abs)
theorem Vals.inj:∀{xs ys:List V}{us:List Value},Vals xs us->Vals ys us->xs=ys
 |_,_,_,.nil,.nil=>rfl
 |_,_,_,.cons r t,.cons r' t'=>by rw[r.inj r',Vals.inj t t']
section
variable{X:Cx}{ag:List (Addr×Obj)}{σ:St}{H:Hp}{s:Shared}{a:Addr}{xs ys:List V}
theorem aF.of{K:W.Frag}(h:H a=some (.lst xs)):aF K H a xs:=.inl (.inl h)
theorem pZ.of{K:W.Frag}(h:H a=some (.tup xs)):pZ K H a xs:=.inl (.inl h)
theorem Inv.list(I:Inv X ag σ H s)(h:aF X.K H a xs):∃its:List Value,Vals xs its/\PlainL s.heap a its.toArray/\xs.length<=sizeLine:=by
 rcases h with h|⟨o,its,n,hk,hc,hd,hs,hz,r⟩
 ·obtain⟨z,its,n,r,e⟩:=h.ok I.cW
  exact⟨its,r,⟨_,n,e,rfl,rfl,rfl⟩,z⟩
 ·refine⟨its.toList,r,⟨o,n,I.E8 a o hk,hc,hd,by simpa using hs⟩,?_⟩
  have e:=r.length
  simp only[Array.length_toList] at e
  omega
theorem Inv.tuple(I:Inv X ag σ H s)(h:pZ X.K H a xs):∃its:List Value,Vals xs its/\IsTup s.heap a its.toArray/\xs.length<=sizeLine:=by
 rcases h with h|⟨o,its,n,hk,hc,hs,hz,r⟩
 ·obtain⟨z,its,r,p⟩:=h.ok I.cW
  exact⟨its,r,p,z⟩
 ·refine⟨its.toList,r,⟨o,I.E8 a o hk,hc,n,by simpa using hs⟩,?_⟩
  have e:=r.length
  simp only[Array.length_toList] at e
  omega
theorem Inv.y9(I:Inv X ag σ H s)(h:aF X.K H a xs)(h':aF X.K H a ys):xs=ys:=by
 obtain⟨its,r,⟨o,n,e,_,_,d⟩,_⟩:=I.list h
 obtain⟨its',r',⟨o',n',e',_,_,d'⟩,_⟩:=I.list h'
 rw[e] at e';cases e'
 rw[d] at d'
 injection d' with d1 _
 have:its=its':=by simpa using congrArg Array.toList d1
 subst this
 exact r.inj r'
theorem Inv.E9(I:Inv X ag σ H s)(h:pZ X.K H a xs)(h':pZ X.K H a ys):xs=ys:=by
 obtain⟨its,r,⟨o,e,_,n,d⟩,_⟩:=I.tuple h
 obtain⟨its',r',⟨o',e',_,n',d'⟩,_⟩:=I.tuple h'
 rw[e] at e';cases e'
 rw[d] at d'
 injection d' with d1 _
 have:its=its':=by simpa using congrArg Array.toList d1
 subst this
 exact r.inj r'
end
abbrev Cx.wish(X:Cx)(E:Value->Shared->Prop):Cx:= { X with xe:=E }
abbrev Cx.SV(X:Cx):Cx:=X.wish λ_ _=>False
theorem Cx.Ok.wish{X:Cx}(ok:X.Ok)(E:Value->Shared->Prop):(X.wish E).Ok:=
 ⟨ok.mod,ok.kind,ok.glob,ok.blt,ok.above,ok.inj,ok.has,ok.Sy,ok.hd,ok.frames,ok.U4,ok.U5,ok.bs,ok.K3,ok.Hh,ok.Hi,ok.rQ,ok.OG⟩
theorem Cx.Ok.kO{X:Cx}{E:Value->Shared->Prop}(ok:(X.wish E).Ok):X.Ok:=
 ⟨ok.mod,ok.kind,ok.glob,ok.blt,ok.above,ok.inj,ok.has,ok.Sy,ok.hd,ok.frames,ok.U4,ok.U5,ok.bs,ok.K3,ok.Hh,ok.Hi,ok.rQ,ok.OG⟩
section
variable{X:Cx}{ag:List (Addr×Obj)}{σ:St}{H:Hp}{s:Shared}{E:Value->Shared->Prop}
theorem Inv.wish(I:Inv X ag σ H s)(E:Value->Shared->Prop):Inv (X.wish E) ag σ H s:=⟨I.ok.wish E,I.os,I.bare,I.ae,I.loc,I.cell,I.free,I.kN,I.pin,I.cW,I.len⟩
theorem Inv.kO(I:Inv (X.wish E) ag σ H s):Inv X ag σ H s:=⟨I.ok.kO,I.os,I.bare,I.ae,I.loc,I.cell,I.free,I.kN,I.pin,I.cW,I.len⟩
theorem SP.kO{D:Ends}{f:Flow}{s':Shared}(h:SP (X.wish E) ag D f s'):SP X ag D f s':=by
 cases f with
 |next=>obtain⟨aO,H',I,q⟩:=h;exact⟨aO,H',I.kO,q⟩
 |brk=>obtain⟨aO,H',I,q⟩:=h;exact⟨aO,H',I.kO,q⟩
 |cont=>obtain⟨aO,H',I,q⟩:=h;exact⟨aO,H',I.kO,q⟩
 |ret u=>obtain⟨v,aO,H',I,r,q⟩:=h;exact⟨v,aO,H',I.kO,r,q⟩
theorem Bl.SV{st:List Stmt}{t:TS}(h:Bl X.SV st t):Bl X st t:=λag s σ H D I hw=>
 wpAny_mono (h ag s σ H D (I.wish _) hw) (λ_ _ q=>q.kO) λ_ _ z=>False.elim z
end
section
variable{X:Cx}{st:Stmt}{rest:List Stmt}{t u:TS}{e:Expr}{te:TE}{pos:Pos}
def SW:TS:=λD σ H=>D.nx σ H
def V5(t u:TS):TS:=λD σ H=>t { D with nx:=u D } σ H
theorem lS:Bl X [] SW:=λ_ _ σ H _ I h=>wpAny_execs_nil ⟨σ,H,I,h⟩
theorem aU(h1:PS X st t)(h2:Bl X rest u):Bl X (st::rest) (V5 t u):=by
 intro ag s σ H D I h
 refine wpAny_execs_cons (dJ (h1 ag s σ H { D with nx:=u D } I h) λf s1 q=> ?_)
 cases f with
 |next=>
  obtain⟨aO,H',I',q⟩:=q
  exact h2 ag s1 aO H' D I' q
 |ret v=>exact q
 |brk=>exact q
 |cont=>exact q
theorem Inv.quiet{ag:List (Addr×Obj)}{σ:St}{H:Hp}{s:Shared}(I:Inv X ag σ H s):interactive X.env=false:=by simp[interactive,I.ok.kind]
def SY(te:TE):TS:=λD σ H=>te σ H λ_ H1=>D.nx σ H1
theorem sM(he:PE X e te)(hs:swapsWith e none pos.line X.env=pure false:=by rfl):PS X (.Expr e pos) (SY te):=by
 intro ag s σ H D I h
 exact wpAny_Expr_any (dJ (he ag s σ H _ I h) λv s1 ⟨x,H1,I1,r1,q1⟩=>⟨σ,H1,I1,q1⟩) I.quiet hs
def V6(te:TE):TS:=λD σ H=>te σ H D.rt
theorem wR(he:PE X e te):PS X (.Return (some e) pos) (V6 te):=by
 intro ag s σ H D I h
 exact wpAny_Return_some (dJ (he ag s σ H _ I h) λv s1 ⟨x,H1,I1,r1,q1⟩=>⟨x,σ,H1,I1,r1,q1⟩)
def V7(c:TT)(t u:TS):TS:=λD σ H=>c σ H λb H1=>if b=true then t D σ H1 else u D σ H1
theorem DQ{c:Expr}{a b:List Stmt}{tc:TT}(hc:PT X c tc)(ha:Bl X a t)(hb:Bl X b u):PS X (.If c a b pos) (V7 tc t u):=by
 intro ag s σ H D I h
 refine wpAny_If (dJ (hc ag s σ H _ I h) λd s1 ⟨H1,I1,q1⟩=> ?_)
 cases d with
 |true=>exact ha ag s1 σ H1 D I1 q1
 |false=>exact hb ag s1 σ H1 D I1 q1
def OX:TS:=λ_ _ _=>False
theorem lT{sts:List Stmt}:Bl X sts OX:=λ_ _ _ _ _ _ h=>h.elim
end
abbrev TG:=V->St->Hp->(St->Hp->Prop)->Prop
abbrev OY:=List V->St->Hp->(St->Hp->Prop)->Prop
def PG(X:Cx)(target:Expr)(t:TG):Prop:=
 ∀(ag:List (Addr×Obj))(s:Shared)(σ:St)(H:Hp)(v:V)(u:Value)(Q:St->Hp->Prop),Inv X ag σ H s->RelV v u->t v σ H Q->
  wpAny (model X.prog X.w) X.A (assign target X.env u) (λ_ s'=>∃aO H',Inv X ag aO H' s'/\Q aO H') X.xe s
def U9(X:Cx)(ts:List Expr)(t:OY):Prop:=
 ∀(ag:List (Addr×Obj))(s:Shared)(σ:St)(H:Hp)(vs:List V)(us:List Value)(Q:St->Hp->Prop),Inv X ag σ H s->Vals vs us->t vs σ H Q->
  wpAny (model X.prog X.w) X.A (assignInOrder ((assignEach ts X.env).map (·.2)) us) (λ_ s'=>∃aO H',Inv X ag aO H' s'/\Q aO H') X.xe s
abbrev OZ:=V->V->V->Hp->(Hp->Prop)->Prop
def Ta(X:Cx)(t:OZ):Prop:=
 ∀(ag:List (Addr×Obj))(s:Shared)(σ:St)(H:Hp)(o i v:V)(ov iv u:Value)(Q:Hp->Prop),Inv X ag σ H s->RelV o ov->RelV i iv->RelV v u->t o i v H Q->
  wpAny (model X.prog X.w) X.A (setItem ov iv u) (λ_ s'=>∃H',Inv X ag σ H' s'/\Q H') X.xe s
section
variable{X:Cx}{pos:Pos}
def gn(i:Nat):TG:=λv σ H Q=>Q (σ.set i (some v)) H
theorem fK{i:Nat}{x:Str}(hN:X.N.Nodup)(hi:X.N[i]? =some x)(hx:Loc X.env.scope x)(hf:X.fn x=true\/X.env.scope.names.lookup x=some .local:=by first|exact .inl rfl|exact .inr rfl|assumption):PG X (.Name x pos) (gn i):=by
 intro ag s σ H v u Q I r h
 exact wpAny_assign_Name (y6 I hN hi hx r (λs' I'=>⟨_,H,I',h⟩) hf)
def O0:OY:=λvs σ H Q=>vs= []/\Q σ H
def za(t:TG)(u:OY):OY:=λvs σ H Q=>∃v r,vs=v::r/\t v σ H λaO H'=>u r aO H' Q
theorem K6:U9 X [] O0:=by
 intro ag s σ H vs us Q I r h
 obtain⟨e,h⟩:=h
 subst e
 cases r
 exact assignInOrder_nil ⟨σ,H,I,h⟩
theorem zb{e:Expr}{es:List Expr}{t:TG}{u:OY}(h1:PG X e t)(h2:U9 X es u)
 (hs:(assignEach (e::es) X.env).map (·.2)=assign e X.env::(assignEach es X.env).map (·.2):=by rfl):U9 X (e::es) (za t u):=by
 intro ag s σ H vs us Q I r h
 obtain⟨v,vr,e1,h⟩:=h
 subst e1
 cases r with
 |cons r rr=>
  rw[hs]
  refine assignInOrder_cons (dJ (h1 ag s σ H _ _ _ I r h) λ_ s1 ⟨RA,H1,I1,q1⟩=> ?_)
  exact h2 ag s1 RA H1 _ _ Q I1 rr q1
def O1(K:W.Frag)(n:Nat)(t:OY):TG:=λv σ H Q=>∃a xs,v=.ref a/\pZ K H a xs/\xs.length=n/\t xs σ H Q
theorem O2{es:List Expr}{k:Nat}{t:OY}{n:Nat}(hc:X.calm=true)(h:U9 X es t)
 (hn:(assignEach es X.env).length=n:=by rfl)(hU:(assignEach es X.env).findIdx? (·.1)=none:=by rfl):PG X (.Tuple es k pos) (O1 X.K n t):=by
 intro ag s σ H v u Q I r hw
 obtain⟨a,xs,e1,hq,hl,hw⟩:=hw
 subst e1
 cases r
 obtain⟨its,rv,ht,hz⟩:=I.tuple hq
 refine assign_Tuple_tuple (I.ok.hd hc) ht (by simp[hn,<-hl,rv.length]) hU λh' hx=> ?_
 have I1:Inv X ag σ H { s with heap:=h' }:=I.kept (t':=s.toks) λb o e=>hx b o (Nat.ne_of_lt (Heap.lt_size e)) e
 exact h ag _ σ H xs _ Q I1 (by simpa using rv) hw
def V8(to ti:TE)(t:OZ):TG:=λv σ H Q=>to σ H λo H1=>ti σ H1 λi H2=>t o i v H2 λH3=>Q σ H3
theorem O3{o i:Expr}{to ti:TE}{t:OZ}(ho:PE X o to)(hi:PE X i ti)(hs:Ta X t)
 (ha:∀v,assign (.Subscript o i pos) X.env v=(do
   let ov <-holding [v] (eval o X.env)
   let iv <-holding [v,ov] (eval i X.env)
   standAt pos
   holding [v,ov,iv] (setItem ov iv v)
   release [v,ov,iv] []):=by intro _;rfl):PG X (.Subscript o i pos) (V8 to ti t):=by
 intro ag s σ H v u Q I r h
 rw[ha]
 refine wpAny_bind (wpAny_holding (dJ (ho ag s σ H _ I h) λov s1 ⟨x,H1,I1,r1,q1⟩=> ?_))
 refine wpAny_bind (wpAny_holding (dJ (hi ag s1 σ H1 _ I1 q1) λiv s2 ⟨y,H2,I2,r2,q2⟩=> ?_))
 refine wpAny_bind (wpAny_standAt (wpAny_bind (wpAny_holding (dJ (hs ag s2 σ H2 x y v ov iv u _ I2 r1 r2 r q2) λ_ s3 ⟨H3,I3,q3⟩=> ?_))))
 exact wpAny_release ⟨σ,H3,I3,q3⟩
def O4(te:TE)(g:TG):TS:=λD σ H=>te σ H λx H1=>g x σ H1 D.nx
theorem O5{tg e:Expr}{te:TE}{g:TG}(he:PE X e te)(hg:PG X tg g)(hs:swapsWithSole [tg] e pos.line X.env=pure false:=by rfl)(hw:swappedStores [tg] e X.env=pure none:=by rfl)
 (h1:(assignEach [tg] X.env).map (·.2)= [assign tg X.env]:=by rfl):PS X (.Assign [tg] e pos) (O4 te g):=by
 intro ag s σ H D I h
 refine wpAny_Assign_stores (dJ (he ag s σ H _ I h) λv s1 ⟨x,H1,I1,r1,q1⟩=> ?_) hs hw
 rw[h1]
 exact dJ (hg ag s1 σ H1 x v _ I1 r1 q1) λ_ s2 q=>q
theorem p5{i:Nat}{x:Str}{e:Expr}{te:TE}{pos':Pos}(hN:X.N.Nodup)(hi:X.N[i]? =some x)(hx:Loc X.env.scope x)(he:PE X e te)(hs:swapsWith e (some (.Name x pos')) pos.line X.env=pure false:=by rfl)(hf:X.fn x=true\/X.env.scope.names.lookup x=some .local:=by first|exact .inl rfl|exact .inr rfl|assumption):
 PS X (.Assign [.Name x pos'] e pos) (O4 te (gn i)):=by
 intro ag s σ H D I h
 refine wpAny_Assign_Name (dJ (he ag s σ H _ I h) λv s1 ⟨y,H1,I1,r1,q1⟩=> ?_) hs
 exact y6 I1 hN hi hx r1 (λs2 I2=>⟨_,H1,I2,q1⟩) hf
def O6(c:TT)(tb:TS):TS:=λD σ H=>∃W:Nat->St->Hp->Prop,(∃m,W m σ H)/\∀m σ H,W m σ H->
 c σ H λb H1=>if b=true then ∃N:St->Hp->Prop,(∀aO H',N aO H'->∃m',m'<m/\W m' aO H')/\tb { D with nx:=N,ct:=N,bk:=D.nx } σ H1 else D.nx σ H1
theorem Hm{c:Expr}{body:List Stmt}{tc:TT}{tb:TS}(hp:PassesOwn (model X.prog X.w) X.A X.env X.xe)(hc:PT X c tc)(hb:Bl X body tb):PS X (.While c body [] pos) (O6 tc tb):=by
 intro ag s σ H D I h
 obtain⟨W,⟨m0,w0⟩,turn⟩:=h
 refine wpAny_While (codeAny_whileLoop (λn s'=>∃aO H',Inv X ag aO H' s'/\W n aO H') ?_ m0 ⟨σ,H,I,w0⟩)
 rintro n s1 ⟨RA,H1,I1,w1⟩
 refine wpAny_passesOwn hp (dJ (hc ag s1 RA H1 _ I1 (turn n RA H1 w1)) λb s2 ⟨H2,I2,q2⟩=> ?_)
 cases b with
 |true=>
  obtain⟨N,hN,q2⟩:=q2
  rw[if_pos rfl]
  refine wpAny_passesOwn hp (dJ (hb ag s2 RA H2 _ I2 q2) λf s3 q3=> ?_)
  cases f with
  |next=>
   obtain⟨Hn,H3,I3,n3⟩:=q3
   obtain⟨m',hm,w3⟩:=hN Hn H3 n3
   exact⟨m',hm,Hn,H3,I3,w3⟩
  |cont=>
   obtain⟨Hn,H3,I3,n3⟩:=q3
   obtain⟨m',hm,w3⟩:=hN Hn H3 n3
   exact⟨m',hm,Hn,H3,I3,w3⟩
  |brk=>exact q3
  |ret v=>exact q3
 |false=>
  rw[if_neg Bool.false_ne_true]
  exact wpAny_execs_nil ⟨RA,H2,I2,q2⟩
end
structure It where
 go:Nat->Hp->Prop
 KP:Nat->Hp->V->Hp->Prop
 stop:Nat->Hp->Prop
def tG(X:Cx)(ag:List (Addr×Obj))(H:Hp)(b:Addr):Prop:=
 H b=none/\b≠X.env.locals/\b∉X.fs/\(b∈X.ex\/X.vI.heap.objs.size<=b)/\(∀x c,X.env.cells.lookup x=some c->c≠b)/\∀p∈X.pn++ag,p.1≠b
theorem Inv.Fb{X:Cx}{ag:List (Addr×Obj)}{σ:St}{H H':Hp}{s:Shared}{b:Addr}(I:Inv X ag σ H s)(hb:s.heap.objs.size<=b)(hn:H' b=none):tG X ag H' b:=by
 refine⟨hn,Nat.ne_of_gt (Nat.lt_of_lt_of_le I.lt hb),I.VR hb,.inr (Nat.le_trans I.sz hb),λx c e z=> ?_,λp hp z=> ?_⟩
 ·obtain⟨v,q⟩:=I.cell x c e
  exact absurd (Nat.lt_of_lt_of_le q.lt (by rw[z];exact hb)) (Nat.lt_irrefl _)
 ·exact absurd (Nat.lt_of_lt_of_le (Heap.lt_size (I.pin p hp).1) (by rw[z];exact hb)) (Nat.lt_irrefl _)
structure Turn(P:Program)(w:World)(K:W.Frag)(tg:Expr)(J:It)(fp:List Addr)(it:Addr)(tn:Nat->Heap->Prop):Prop where
 mem:it∈fp
 obj:∀i h,tn i h->∀b∈fp,∃o,h.get? b=some o/\∀v,o.data≠.cell v
 keep:∀i h h',tn i h->(∀b∈fp,∀o,h.get? b=some o->h'.get? b=some o)->tn i h'
 item:∀(X:Cx),X.prog=P->X.w=w->X.K=K->X.calm=true->∀(i:Nat)(ag:List (Addr×Obj))(s:Shared)(σ:St)(H:Hp)(E:Value->Shared->Prop),Inv X ag σ H s->(∀b∈fp,tG X ag H b)->tn i s.heap->J.go i H->
  wpAny (model P w) X.A (pyNext (.ref it)) (λr s1=>∃u,r=some u/\
   wpAny (model P w) X.A (letOwnedTupleGo tg (.ref it) u) (λ_ s2=>∃x H',Inv X ag σ H' s2/\RelV x u/\J.KP i H x H'/\tn (i+1) s2.heap/\∀b∈fp,H' b=none) E s1) E s
 done:∀(X:Cx),X.prog=P->X.w=w->X.K=K->X.calm=true->∀(i:Nat)(ag:List (Addr×Obj))(s:Shared)(σ:St)(H:Hp)(E:Value->Shared->Prop),Inv X ag σ H s->(∀b∈fp,tG X ag H b)->tn i s.heap->J.stop i H->
  wpAny (model P w) X.A (pyNext (.ref it)) (λr s1=>r=none/\Inv X ag σ H s1) E s
 self:∀(A:Around)(i:Nat)(s:Shared)(Q:Value->Shared->Prop)(E:Value->Shared->Prop),tn i s.heap->Q (.ref it) s->wpAny (model P w) A (pyIter (.ref it)) Q E s
abbrev TI:=St->Hp->(It->Hp->Prop)->Prop
def V9(X:Cx)(ag:List (Addr×Obj))(σ:St)(tg:Expr)(R:It->Hp->Prop)(Wa:Value)(s2:Shared):Prop:=
 ∃(it:Addr)(fp:List Addr)(tn:Nat->Heap->Prop)(J:It)(H':Hp),Wa=.ref it/\Inv X ag σ H' s2/\Turn X.prog X.w X.K tg J fp it tn/\tn 0 s2.heap/\(∀b∈fp,tG X ag H' b)/\R J H'
def PI(X:Cx)(tg iter:Expr)(wi:TI):Prop:=
 ∀(ag:List (Addr×Obj))(s:Shared)(σ:St)(H:Hp)(R:It->Hp->Prop),Inv X ag σ H s->wi σ H R->
  wpAny (model X.prog X.w) X.A (eval iter X.env) (λv s1=>wpAny (model X.prog X.w) X.A (pyIter v) (V9 X ag σ tg R) X.xe s1) X.xe s
theorem DR{M:Model}{A:Around}{E:Value->Shared->Prop}{s:Shared}{tg:Expr}{it:Addr}{u:Value}{o:Obj}{n:String}{vs:Array Value}{Q:Unit->Shared->Prop}(ho:s.heap.get? it=some o)(hc:o.cls=.type n)(hd:o.data=.fields vs)
 (hn: ["enumerate","zip","dict_itemiterator","dict_reverseitemiterator","odict_iterator","itertools.zip_longest","itertools.pairwise"].contains n=false)(hQ:Q () s):wpAny M A (letOwnedTupleGo tg (.ref it) u) Q E s:=by
 unfold letOwnedTupleGo
 cases tg<;>first
  |exact wpAny_pure hQ
  | (cases u<;>first
      |exact wpAny_pure hQ
      | (refine wpAny_bind (wpAny_load ho ?_)
         rw[hc,hd]
         show wpAny M A (if (["enumerate","zip","dict_itemiterator","dict_reverseitemiterator","odict_iterator","itertools.zip_longest","itertools.pairwise"].contains n&&vs[0]?==some (rawInt _))=true then _ else _) Q E s
         rw[if_neg (by intro h;rw[hn,Bool.false_and] at h;cases h)]
         exact wpAny_pure hQ))
def NP(K:W.Frag)(a:Addr):It:=
 ⟨λi H=>∃xs x,aF K H a xs/\xs[i]? =some x,λi H x H'=>H'=H/\∀xs,aF K H a xs->xs[i]? =some x,λi H=>∃xs,aF K H a xs/\xs.length<=i⟩
def Tb(K:W.Frag)(a:Addr):It:=
 ⟨λi H=>∃xs x,pZ K H a xs/\xs[i]? =some x,λi H x H'=>H'=H/\∀xs,pZ K H a xs->xs[i]? =some x,λi H=>∃xs,pZ K H a xs/\xs.length<=i⟩
def K7(lo:Int)(n:Nat):It:=⟨λi _=>i<n,λi H x H'=>H'=H/\x=.int (lo+i),λi _=>n<=i⟩
theorem Fc{P:Program}{w:World}{K:W.Frag}{tg:Expr}(a it:Addr):Turn P w K tg (NP K a) [it] it (λi h=>h.IsListIter it a i) where
 mem:=by simp
 obj:=λi h st b hb=>by
  have e:b=it:=by simpa using hb
  subst e
  obtain⟨o,e,c,d⟩:=st
  exact⟨o,e,λv z=>by rw[d] at z;cases z⟩
 keep:=λi h h' st k=>st.at λo e=>k it (by simp) o e
 item:=by
  intro X hP hw hK hc i ag s σ H E I hf st hg
  subst hP hw hK
  obtain⟨xs,x,hq,hx⟩:=hg
  obtain⟨its,rv,p,hz⟩:=I.list hq
  obtain⟨u,hu,ru⟩:=rv.get hx
  obtain⟨f0,f1,f2,f3,f4,f5⟩:=hf it (by simp)
  refine wpAny_pyNext_list_item st p.isList (x:=u) (by simpa using hu) λh' Ho sb=> ?_
  have I1:Inv X ag σ H { s with heap:=h' }:=I.turned (t':=s.toks) (λb o hb e=>(sb.2 b hb).trans e) f0 f1 f3 f4 f5
  obtain⟨o,e,c,d⟩:=id Ho
  exact⟨u,rfl,DR (s:= { s with heap:=h' }) e c d (by decide) ⟨x,H,I1,ru,⟨rfl,λys hy=>by rw[I.y9 hy hq];exact hx⟩,Ho,λb hb=>(hf b hb).1⟩⟩
 done:=by
  intro X hP hw hK hc i ag s σ H E I hf st hg
  subst hP hw hK
  obtain⟨xs,hq,hx⟩:=hg
  obtain⟨its,rv,p,hz⟩:=I.list hq
  obtain⟨f0,f1,f2,f3,f4,f5⟩:=hf it (by simp)
  have hl:=rv.length
  exact wpAny_pyNext_list_end (I.ok.hd hc) st p.isList (by simp;omega) λh' eb=>⟨rfl,I.turned (t':=s.toks) (λb o hb e=>eb b o hb e) f0 f1 f3 f4 f5⟩
 self:=λ_ _ _ _ _ st h=>wpAny_pyIter_listiter st h
theorem Bm{P:Program}{w:World}{K:W.Frag}{tg:Expr}(a it:Addr):Turn P w K tg (Tb K a) [it] it (λi h=>h.IsTupleIter it a i) where
 mem:=by simp
 obj:=λi h st b hb=>by
  have e:b=it:=by simpa using hb
  subst e
  obtain⟨o,e,c,d⟩:=st
  exact⟨o,e,λv z=>by rw[d] at z;cases z⟩
 keep:=λi h h' st k=>st.at λo e=>k it (by simp) o e
 item:=by
  intro X hP hw hK hc i ag s σ H E I hf st hg
  subst hP hw hK
  obtain⟨xs,x,hq,hx⟩:=hg
  obtain⟨its,rv,p,hz⟩:=I.tuple hq
  obtain⟨u,hu,ru⟩:=rv.get hx
  obtain⟨f0,f1,f2,f3,f4,f5⟩:=hf it (by simp)
  refine wpAny_pyNext_tuple_item st (show s.heap.IsTuple a its.toArray from p) (x:=u) (by simpa using hu) λh' Ho sb=> ?_
  have I1:Inv X ag σ H { s with heap:=h' }:=I.turned (t':=s.toks) (λb o hb e=>(sb.2 b hb).trans e) f0 f1 f3 f4 f5
  obtain⟨o,e,c,d⟩:=id Ho
  exact⟨u,rfl,DR (s:= { s with heap:=h' }) e c d (by decide) ⟨x,H,I1,ru,⟨rfl,λys hy=>by rw[I.E9 hy hq];exact hx⟩,Ho,λb hb=>(hf b hb).1⟩⟩
 done:=by
  intro X hP hw hK hc i ag s σ H E I hf st hg
  subst hP hw hK
  obtain⟨xs,hq,hx⟩:=hg
  obtain⟨its,rv,p,hz⟩:=I.tuple hq
  obtain⟨f0,f1,f2,f3,f4,f5⟩:=hf it (by simp)
  have hl:=rv.length
  exact wpAny_pyNext_tuple_end (I.ok.hd hc) st (show s.heap.IsTuple a its.toArray from p) (by simp;omega) λh' eb=>⟨rfl,I.turned (t':=s.toks) (λb o hb e=>eb b o hb e) f0 f1 f3 f4 f5⟩
 self:=λ_ _ _ _ _ st h=>wpAny_pyIter_tupleiter st h
theorem Bn{P:Program}{w:World}{K:W.Frag}{tg:Expr}(it:Addr)(lo:Int)(n:Nat):Turn P w K tg (K7 lo n) [it] it (λi h=>IsRangeIter h it (lo+(i:Nat) * 1) ((n:Int) - (i:Nat)) 1) where
 mem:=by simp
 obj:=λi h st b hb=>by
  have e:b=it:=by simpa using hb
  subst e
  exact⟨_,st,λv z=>by
   have z':Data.fields _=Data.cell v:=z
   cases z'⟩
 keep:=λi h h' st k=>k it (by simp) _ st
 item:=by
  intro X hP hw hK hc i ag s σ H E I hf st hg
  subst hP hw hK
  obtain⟨f0,f1,f2,f3,f4,f5⟩:=hf it (by simp)
  have W:=Walks.range (prog:=X.prog) (w:=X.w) (I.ok.hd hc) it lo 1 n
  refine W.item i s _ _ hg st λv h' tk hv Ho kk=> ?_
  obtain⟨t,rfl⟩:=hv
  have I1:Inv X ag σ H { s with heap:=h',toks:=tk }:=I.turned (λb o hb e=>kk b o (by simpa using hb) e) f0 f1 f3 f4 f5
  refine⟨_,rfl,DR (s:= { s with heap:=h',toks:=tk }) (n:="range_iterator") Ho rfl rfl (by decide) ⟨.int (lo+i),H,I1,⟨t,?_⟩,⟨rfl,rfl⟩,Ho,λb hb=>(hf b hb).1⟩⟩
  rw[Int.mul_one]
 done:=by
  intro X hP hw hK hc i ag s σ H E I hf st hg
  subst hP hw hK
  obtain⟨f0,f1,f2,f3,f4,f5⟩:=hf it (by simp)
  exact wpAny_pyNext_range_end (I.ok.hd hc) st (by have:n<=i:=hg;omega) λh' eb=>⟨rfl,I.turned (t':=s.toks) (λb o hb e=>eb b o hb e) f0 f1 f3 f4 f5⟩
 self:=λ_ _ _ _ _ st h=>wpAny_pyIter_rangeiter st h
section
variable{X:Cx}{tg:Expr}
def NQ(K:W.Frag)(tl:TE):TI:=λσ H R=>tl σ H λx H1=>∃a,x=.ref a/\(∃xs,aF K H1 a xs)/\R (NP K a) H1
def Wb(K:W.Frag)(tl:TE):TI:=λσ H R=>tl σ H λx H1=>∃a,x=.ref a/\(∃xs,pZ K H1 a xs)/\R (Tb K a) H1
theorem sN{l:Expr}{tl:TE}(hl:PE X l tl):PI X tg l (NQ X.K tl):=by
 intro ag s σ H R I h
 refine dJ (hl ag s σ H _ I h) λv s1 ⟨x,H1,I1,r1,q1⟩=> ?_
 obtain⟨a,e,⟨xs,hq⟩,q⟩:=q1
 subst e
 cases r1
 obtain⟨its,rv,p,hz⟩:=I1.list hq
 refine wpAny_pyIter_list p.isList ?_
 refine⟨s1.heap.objs.size, [s1.heap.objs.size],_,_,H1,rfl,I1.kept (t':=s1.toks) λb o e=>Heap.get?_push_of_some _ e,Fc a _,⟨_,Heap.get?_push_size _ rfl,rfl,rfl⟩,λb hb=> ?_,q⟩
 have e:b=s1.heap.objs.size:=by simpa using hb
 subst e
 exact I1.Fb (Nat.le_refl _) (I1.cW.fresh (Nat.le_refl _))
theorem O7{l:Expr}{tl:TE}(hl:PE X l tl):PI X tg l (Wb X.K tl):=by
 intro ag s σ H R I h
 refine dJ (hl ag s σ H _ I h) λv s1 ⟨x,H1,I1,r1,q1⟩=> ?_
 obtain⟨a,e,⟨xs,hq⟩,q⟩:=q1
 subst e
 cases r1
 obtain⟨its,rv,p,hz⟩:=I1.tuple hq
 refine wpAny_pyIter_tuple (show s1.heap.IsTuple a its.toArray from p) ?_
 refine⟨s1.heap.objs.size, [s1.heap.objs.size],_,_,H1,rfl,I1.kept (t':=s1.toks) λb o e=>Heap.get?_push_of_some _ e,Bm a _,⟨_,Heap.get?_push_size _ rfl,rfl,rfl⟩,λb hb=> ?_,q⟩
 have e:b=s1.heap.objs.size:=by simpa using hb
 subst e
 exact I1.Fb (Nat.le_refl _) (I1.cW.fresh (Nat.le_refl _))
theorem Hq{ag:List (Addr×Obj)}{σ:St}{H:Hp}{s:Shared}{R:It->Hp->Prop}{E:Value->Shared->Prop}{lo hi:Int}{t u v:Tok}{tk:Nat}(I:Inv X ag σ H s)(h1: -(2 ^ 62)<=lo)(h2:lo<2 ^ 62)(h3: -(2 ^ 62)<=hi)(h4:hi<2 ^ 62)
 (q:R (K7 lo (hi - lo).toNat) H):wpAny (model X.prog X.w) X.A (pyIter (.ref s.heap.objs.size)) (V9 X ag σ tg R) E { s with heap:=s.heap.push { cls:=.type "range",data:=.fields #[.int lo t,.int hi u,.int 1 v] },toks:=tk }:=by
 refine wpAny_pyIter_range (IsRange.new ..) (small_one h1 h2 h3 h4) ?_
 have I1:Inv X ag σ H { s with heap:=s.heap.push { cls:=.type "range",data:=.fields #[.int lo t,.int hi u,.int 1 v] },toks:=tk }:=I.kept λb o e=>Heap.get?_push_of_some _ e
 refine⟨(s.heap.push { cls:=.type "range",data:=.fields #[.int lo t,.int hi u,.int 1 v] }).objs.size, [(s.heap.push { cls:=.type "range",data:=.fields #[.int lo t,.int hi u,.int 1 v] }).objs.size],_,_,H,rfl,
  I1.kept (t':=tk) λb o e=>Heap.get?_push_of_some _ e,Bn _ lo (hi - lo).toNat,?_,λb hb=> ?_,q⟩
 ·have e1:lo+((0:Nat):Int) * 1=lo:=by simp
  have e2:(((hi - lo).toNat:Nat):Int) - ((0:Nat):Int)=Builtin.Range.rangeSize lo hi 1:=by rw[rangeSize_one];split<;>omega
  show IsRangeIter _ _ (lo+((0:Nat):Int) * 1) ((((hi - lo).toNat:Nat):Int) - ((0:Nat):Int)) 1
  rw[e1,e2]
  exact Heap.get?_push_size _ rfl
 ·have e:b=(s.heap.push { cls:=.type "range",data:=.fields #[.int lo t,.int hi u,.int 1 v] }).objs.size:=by simpa using hb
  subst e
  exact I1.Fb (Nat.le_refl _) (I1.cW.fresh (Nat.le_refl _))
def Tc(ta:TA):TI:=λσ H R=>ta σ H λvs H1=>∃j:Int,vs= [.int j]/\-(2 ^ 62)<=j/\j<2 ^ 62/\R (K7 0 j.toNat) H1
theorem vL{a:Expr}{ta:TA}{p pos:Pos}(hg:Gl X "range")(hm:X.mg "range"=none)(ha:PA X [a] ta)(hs:starEach [a] X.env= [(false,eval a X.env)]:=by rfl):PI X tg (.Call (.Name "range" p) [a] [] pos) (Tc ta):=by
 intro ag s σ H R I h
 refine Call_ (wQ I hg hm boot_range (PyProof.Rows.callWith_type1 (dJ (ha pos ag s σ H _ I h) λus s1 ⟨vs,H1,I1,r1,q1⟩=> ?_) hs rfl))
 obtain⟨j,e,q1,q2,q⟩:=q1
 subst e
 cases r1 with
 |cons r rr=>
  cases rr
  obtain⟨t,rfl⟩:=r
  exact call_range_1 (Hq I1 (by omega) (by omega) q1 q2 (by simpa using q))
def Wc(wi:TI)(g:TG)(tb:TS):TS:=λD σ H=>wi σ H λJ H1=>∃W:Nat->Nat->St->Hp->Prop,(∃m,W 0 m σ H1)/\∀i m σ H,W i m σ H->
 (J.stop i H/\D.nx σ H)\/(J.go i H/\∃N:St->Hp->Prop,(∀aO H',N aO H'->∃m',m'<m/\W (i+1) m' aO H')/\∀x H',J.KP i H x H'->g x σ H' λeQ H2=>tb { D with nx:=N,ct:=N,bk:=D.nx } eQ H2)
def tH(fp:List Addr)(h:Heap):List (Addr×Obj):=fp.filterMap λb=>(h.get? b).map λo=>(b,o)
theorem nB{fp:List Addr}{h:Heap}{b:Addr}{o:Obj}(hb:b∈fp)(e:h.get? b=some o):(b,o)∈tH fp h:=List.mem_filterMap.mpr ⟨b,hb,by rw[e];rfl⟩
theorem Fe{fp:List Addr}{h:Heap}{p:Addr×Obj}(hp:p∈tH fp h):p.1∈fp/\h.get? p.1=some p.2:=by
 obtain⟨b,hb,e⟩:=List.mem_filterMap.mp hp
 cases q:h.get? b with
 |none=>rw[q] at e;cases e
 |some o=>
  rw[q] at e
  have e':(b,o)=p:=Option.some.inj e
  subst e'
  exact⟨hb,q⟩
theorem Inv.pinned{ag:List (Addr×Obj)}{σ:St}{H:Hp}{s:Shared}{fp:List Addr}(I:Inv X ag σ H s)(hf:∀b∈fp,tG X ag H b)(ho:∀b∈fp,∃o,s.heap.get? b=some o/\∀v,o.data≠.cell v):Inv X (ag++tH fp s.heap) σ H s:=
 I.DP λp hp=>(List.mem_append.mp hp).elim (λz=>I.pin p (List.mem_append_right _ z)) λz=>by
  obtain⟨hb,e⟩:=Fe z
  obtain⟨f0,f1,f2,_⟩:=hf p.1 hb
  obtain⟨o,e',d⟩:=ho p.1 hb
  rw[e] at e';cases e'
  exact⟨e,f0,f1,f2,d⟩
theorem Inv.oo{ag pl:List (Addr×Obj)}{σ:St}{H:Hp}{s:Shared}(I:Inv X (ag++pl) σ H s):Inv X ag σ H s:=I.DP λp hp=>I.pin p (List.mem_append_right _ (List.mem_append_left _ hp))
theorem wU{iter:Expr}{body:List Stmt}{wi:TI}{g:TG}{tb:TS}{pos:Pos}(hp:PassesOwn (model X.prog X.w) X.A X.env X.xe)(hc:X.calm=true)(hi:PI X tg iter wi)(hg:PG X tg g)(hb:Bl X body tb)
 (hs:∀x,foldedSetIterable iter X.env x=pure x:=by intro _;rfl):PS X (.For tg iter body [] pos) (Wc wi g tb):=by
 intro ag s σ H D I h
 refine wpAny_For (dJ (hi ag s σ H _ I h) λv s1 h1=>dJ h1 λWa s2 h2=> ?_) hs
 obtain⟨it,fp,tn,J,H2,e,I2,T,Va,f2,W,⟨m0,w0⟩,turn⟩:=h2
 subst e
 have stat:∀{H':Hp},(∀b∈fp,H' b=none)->∀b∈fp,tG X ag H' b:=λhn b hb=>⟨hn b hb,(f2 b hb).2⟩
 refine codeAny_forLoop_any (λn s'=>∃i aO H',Inv X ag aO H' s'/\tn i s'.heap/\(∀b∈fp,H' b=none)/\W i n aO H') ?_ m0 ⟨0,σ,H2,I2,Va,λb hb=>(f2 b hb).1,w0⟩
 rintro n s3 ⟨i,Hn,H3,I3,Vb,Vc,w3⟩
 rcases turn i n Hn H3 w3 with⟨stop,qn⟩|⟨go,N,hN,step⟩
 ·refine wpAny_passesOwn hp (dJ (T.done X rfl rfl rfl hc i ag s3 Hn H3 X.xe I3 (stat Vc) Vb stop) λr s4 ⟨hr,I4⟩=> ?_)
  subst hr
  exact wpAny_execs_nil ⟨Hn,H3,I4,qn⟩
 ·refine wpAny_passesOwn hp (dJ (T.item X rfl rfl rfl hc i ag s3 Hn H3 X.xe I3 (stat Vc) Vb go) λr s4 ⟨u,hr,h4⟩=> ?_)
  subst hr
  refine wpAny_passesOwn hp (dJ h4 λ_ s5 ⟨x,H5,I5,r5,y5,RB,vM⟩=> ?_)
  have ZQ:=I5.pinned (stat vM) (T.obj _ _ RB)
  refine wpAny_passesOwn hp (dJ (hg _ s5 Hn H5 x u _ ZQ r5 (step x H5 y5)) λ_ s6 ⟨ZR,H6,I6,q6⟩=> ?_)
  refine wpAny_passesOwn hp (dJ (hb _ s6 ZR H6 _ I6 q6) λf s7 q7=> ?_)
  have again:∀{Hr:St}{H7:Hp},Inv X (ag++tH fp s5.heap) Hr H7 s7->N Hr H7->∃m,m<n/\∃i aO H',Inv X ag aO H' s7/\tn i s7.heap/\(∀b∈fp,H' b=none)/\W i m aO H':=λ{Hr H7} I7 n7=>by
   obtain⟨m',hm,w7⟩:=hN Hr H7 n7
   refine⟨m',hm,i+1,Hr,H7,I7.oo,T.keep _ _ _ RB λb hb o e=>(I7.pin (b,o) (List.mem_append_right _ (List.mem_append_right _ (nB hb e)))).1,λb hb=> ?_,w7⟩
   obtain⟨o,e,d⟩:=T.obj _ _ RB b hb
   exact(I7.pin (b,o) (List.mem_append_right _ (List.mem_append_right _ (nB hb e)))).2.1
  cases f with
  |next=>obtain⟨Hr,H7,I7,n7⟩:=q7;exact again I7 n7
  |cont=>obtain⟨Hr,H7,I7,n7⟩:=q7;exact again I7 n7
  |brk=>obtain⟨Hr,H7,I7,q7⟩:=q7;exact⟨Hr,H7,I7.oo,q7⟩
  |ret v=>obtain⟨x7,Hr,H7,I7,r7,q7⟩:=q7;exact⟨x7,Hr,H7,I7.oo,r7,q7⟩
end
theorem zc{K:W.Frag}{a:Addr}{xs:List V}{g:TG}{tb:TS}{D:Ends}{σ:St}{H:Hp}(Pv:Nat->St->Hp->Prop)(h0:Pv 0 σ H)(hl:∀i σ H,i<=xs.length->Pv i σ H->aF K H a xs)
 (hs:∀i x σ H,xs[i]? =some x->Pv i σ H->g x σ H λeQ H2=>tb { D with nx:=Pv (i+1),ct:=Pv (i+1),bk:=D.nx } eQ H2)(hd:∀σ H,Pv xs.length σ H->D.nx σ H):
 ∃W:Nat->Nat->St->Hp->Prop,(∃m,W 0 m σ H)/\∀i m σ H,W i m σ H->
  ((NP K a).stop i H/\D.nx σ H)\/((NP K a).go i H/\∃N:St->Hp->Prop,(∀aO H',N aO H'->∃m',m'<m/\W (i+1) m' aO H')/\∀x H',(NP K a).KP i H x H'->g x σ H' λeQ H2=>tb { D with nx:=N,ct:=N,bk:=D.nx } eQ H2):=by
 refine⟨λi m σ H=>m=xs.length - i/\i<=xs.length/\Pv i σ H,⟨xs.length,by simp,Nat.zero_le _,h0⟩,?_⟩
 rintro i m σ H ⟨rfl,hi,p⟩
 have q:=hl i σ H hi p
 by_cases gJ:i<xs.length
 ·refine .inr ⟨⟨xs,xs[i],q,by simp[gJ]⟩,Pv (i+1),λaO H' p'=>⟨xs.length - (i+1),by omega,rfl,gJ,p'⟩,λx H' y=> ?_⟩
  obtain⟨e,y⟩:=y
  subst e
  exact hs i x σ _ (y xs q) p
 ·have e:i=xs.length:=by omega
  subst e
  exact .inl ⟨⟨xs,q,Nat.le_refl _⟩,hd σ H p⟩
theorem K8{K:W.Frag}{a:Addr}{xs:List V}{g:TG}{tb:TS}{D:Ends}{σ:St}{H:Hp}(Pv:Nat->St->Hp->Prop)(h0:Pv 0 σ H)(hl:∀i σ H,i<=xs.length->Pv i σ H->pZ K H a xs)
 (hs:∀i x σ H,xs[i]? =some x->Pv i σ H->g x σ H λeQ H2=>tb { D with nx:=Pv (i+1),ct:=Pv (i+1),bk:=D.nx } eQ H2)(hd:∀σ H,Pv xs.length σ H->D.nx σ H):
 ∃W:Nat->Nat->St->Hp->Prop,(∃m,W 0 m σ H)/\∀i m σ H,W i m σ H->
  ((Tb K a).stop i H/\D.nx σ H)\/((Tb K a).go i H/\∃N:St->Hp->Prop,(∀aO H',N aO H'->∃m',m'<m/\W (i+1) m' aO H')/\∀x H',(Tb K a).KP i H x H'->g x σ H' λeQ H2=>tb { D with nx:=N,ct:=N,bk:=D.nx } eQ H2):=by
 refine⟨λi m σ H=>m=xs.length - i/\i<=xs.length/\Pv i σ H,⟨xs.length,by simp,Nat.zero_le _,h0⟩,?_⟩
 rintro i m σ H ⟨rfl,hi,p⟩
 have q:=hl i σ H hi p
 by_cases gJ:i<xs.length
 ·refine .inr ⟨⟨xs,xs[i],q,by simp[gJ]⟩,Pv (i+1),λaO H' p'=>⟨xs.length - (i+1),by omega,rfl,gJ,p'⟩,λx H' y=> ?_⟩
  obtain⟨e,y⟩:=y
  subst e
  exact hs i x σ _ (y xs q) p
 ·have e:i=xs.length:=by omega
  subst e
  exact .inl ⟨⟨xs,q,Nat.le_refl _⟩,hd σ H p⟩
theorem Ff{lo:Int}{n:Nat}{g:TG}{tb:TS}{D:Ends}{σ:St}{H:Hp}(Pv:Nat->St->Hp->Prop)(h0:Pv 0 σ H)
 (hs:∀i σ H,i<n->Pv i σ H->g (.int (lo+i)) σ H λeQ H2=>tb { D with nx:=Pv (i+1),ct:=Pv (i+1),bk:=D.nx } eQ H2)(hd:∀σ H,Pv n σ H->D.nx σ H):
 ∃W:Nat->Nat->St->Hp->Prop,(∃m,W 0 m σ H)/\∀i m σ H,W i m σ H->
  ((K7 lo n).stop i H/\D.nx σ H)\/((K7 lo n).go i H/\∃N:St->Hp->Prop,(∀aO H',N aO H'->∃m',m'<m/\W (i+1) m' aO H')/\∀x H',(K7 lo n).KP i H x H'->g x σ H' λeQ H2=>tb { D with nx:=N,ct:=N,bk:=D.nx } eQ H2):=by
 refine⟨λi m σ H=>m=n - i/\i<=n/\Pv i σ H,⟨n,by simp,Nat.zero_le _,h0⟩,?_⟩
 rintro i m σ H ⟨rfl,hi,p⟩
 by_cases gJ:i<n
 ·refine .inr ⟨gJ,Pv (i+1),λaO H' p'=>⟨n - (i+1),by omega,rfl,gJ,p'⟩,λx H' y=> ?_⟩
  obtain⟨e,y⟩:=y
  subst e y
  exact hs i σ _ gJ p
 ·have e:i=n:=by omega
  subst e
  exact .inl ⟨Nat.le_refl _,hd σ H p⟩
abbrev R2:=V->V->Hp->VK->Prop
def oq(X:Cx)(f:Value->Value->Sem Value)(r:R2):Prop:=
 ∀(ag:List (Addr×Obj))(s:Shared)(σ:St)(H:Hp)(x y:V)(v u:Value)(Q:VK),Inv X ag σ H s->RelV x v->RelV y u->r x y H Q->
  wpAny (model X.prog X.w) X.A (f v u) (EP X ag σ Q) X.xe s
def Wd(X:Cx)(f:Value->Sem Value)(r:V->Hp->VK->Prop):Prop:=
 ∀(ag:List (Addr×Obj))(s:Shared)(σ:St)(H:Hp)(x:V)(v:Value)(Q:VK),Inv X ag σ H s->RelV x v->r x H Q->
  wpAny (model X.prog X.w) X.A (f v) (EP X ag σ Q) X.xe s
def j7(X:Cx)(f:Value)(r:List V->Hp->VK->Prop):Prop:=
 ∀(ag:List (Addr×Obj))(s:Shared)(σ:St)(H:Hp)(xs:List V)(us:List Value)(Q:VK),Inv X ag σ H s->Vals xs us->r xs H Q->
  wpAny (model X.prog X.w) X.A (call f us) (EP X ag σ Q) X.xe s
def RD(r:R2)(ta tb:TE):TE:=λσ H Q=>ta σ H λx H1=>tb σ H1 λy H2=>r x y H2 Q
def ZS(r:V->Hp->VK->Prop)(ta:TE):TE:=λσ H Q=>ta σ H λx H1=>r x H1 Q
def rI(C:Int->Int->Prop)(g:Int->Int->V):R2:=λx y H Q=>∃i j,x=.int i/\y=.int j/\C i j/\Q (g i j) H
def NR(g:Int->Int->V):R2:=λx y H Q=>∃i j,x=.int i/\y=.int j/\Q (g i j) H
def rU(g:Int->V):V->Hp->VK->Prop:=λx H Q=>∃i,x=.int i/\Q (g i) H
section
variable{X:Cx}{a b c:Expr}{ta tb tc:TE}{pos:Pos}
theorem K9(ha:PE X a ta)(hb:PE X b tb){ag:List (Addr×Obj)}{s:Shared}{σ:St}{H:Hp}{R:V->V->Hp->Prop}(I:Inv X ag σ H s)
 (h:ta σ H λx H1=>tb σ H1 λy H2=>R x y H2){Q:Value->Shared->Prop}{f:Value->Value->Sem Value}
 (hf:∀v u s2 x y H2,Inv X ag σ H2 s2->RelV x v->RelV y u->R x y H2->wpAny (model X.prog X.w) X.A (f v u) Q X.xe s2):
 wpAny (model X.prog X.w) X.A (eval a X.env) (λv cX=>wpAny (model X.prog X.w) X.A (eval b X.env) (λu mF=>wpAny (model X.prog X.w) X.A (f v u) Q X.xe mF) X.xe cX) X.xe s:=by
 refine dJ (ha ag s σ H _ I h) λv s1 ⟨x,H1,I1,r1,q1⟩=> ?_
 refine dJ (hb ag s1 σ H1 _ I1 q1) λu s2 ⟨y,H2,I2,r2,q2⟩=> ?_
 exact hf v u s2 x y H2 I2 r1 r2 q2
theorem ot{op:Operator}{r:R2}(ho:oq X (binaryOp op) r)(ha:PE X a ta)(hb:PE X b tb):PE X (.BinOp a op b pos) (RD r ta tb):=by
 intro ag s σ H Q I h
 exact wpAny_BinOp (K9 ha hb I h λv u s2 x y H2 I2 rx ry q=>ho ag s2 σ H2 x y v u Q I2 rx ry q)
theorem Td{op:UnaryOp}{r:V->Hp->VK->Prop}(ho:Wd X (unaryOp op) r)(ha:PE X a ta):PE X (.UnaryOp op a pos) (ZS r ta):=by
 intro ag s σ H Q I h
 exact UnaryOp_ (dJ (ha ag s σ H _ I h) λv s1 ⟨x,H1,I1,r1,q1⟩=>ho ag s1 σ H1 x v Q I1 r1 q1)
theorem YF{f:Value->Value->Sem Value}{C:Int->Int->Prop}{g:Int->Int->Int}
 (rule:∀(i j:Int)(t u:Tok)(s:Shared)(Q:Value->Shared->Prop)(E:Value->Shared->Prop),C i j->Q (.int (g i j) s.toks) { s with toks:=s.toks+1 }->wpAny (model X.prog X.w) X.A (f (.int i t) (.int j u)) Q E s):
 oq X f (rI C λi j=>.int (g i j)):=by
 intro ag s σ H x y v u Q I rx ry h
 obtain⟨i,j,rfl,rfl,hc,q⟩:=h
 obtain⟨t,rfl⟩:=rx
 obtain⟨t',rfl⟩:=ry
 exact rule i j t t' s _ _ hc ⟨.int (g i j),H,I.tok _,⟨_,rfl⟩,q⟩
theorem Te{f:Value->Value->Sem Value}{g:Int->Int->Int}
 (rule:∀(i j:Int)(t u:Tok)(s:Shared)(Q:Value->Shared->Prop)(E:Value->Shared->Prop),Q (.int (g i j) s.toks) { s with toks:=s.toks+1 }->wpAny (model X.prog X.w) X.A (f (.int i t) (.int j u)) Q E s):
 oq X f (NR λi j=>.int (g i j)):=by
 intro ag s σ H x y v u Q I rx ry h
 obtain⟨i,j,rfl,rfl,q⟩:=h
 obtain⟨t,rfl⟩:=rx
 obtain⟨t',rfl⟩:=ry
 exact rule i j t t' s _ _ ⟨.int (g i j),H,I.tok _,⟨_,rfl⟩,q⟩
theorem La{f:Value->Value->Sem Value}{g:Int->Int->Bool}
 (rule:∀(i j:Int)(t u:Tok)(s:Shared)(Q:Value->Shared->Prop)(E:Value->Shared->Prop),Q (.bool (g i j)) s->wpAny (model X.prog X.w) X.A (f (.int i t) (.int j u)) Q E s):
 oq X f (NR λi j=>.bl (g i j)):=by
 intro ag s σ H x y v u Q I rx ry h
 obtain⟨i,j,rfl,rfl,q⟩:=h
 obtain⟨t,rfl⟩:=rx
 obtain⟨t',rfl⟩:=ry
 exact rule i j t t' s _ _ ⟨.bl (g i j),H,I,rfl,q⟩
def Tf(i j:Int):Prop:=0<j/\j<1073741824
def Lb(i j:Int):Prop:=(-(2 ^ 64)<i/\i<2 ^ 64)\/(-(2 ^ 64)<j/\j<2 ^ 64)
theorem Lb.ok{i j:Int}(h:Lb i j):IntMulOk i j:=by
 rcases h with⟨h1,h2⟩|⟨h1,h2⟩
 ·exact .of_left (intBits_le_64 h1 h2)
 ·exact .of_right (intBits_le_64 h1 h2)
theorem O8:oq X (binaryOp .Add) (NR λi j=>.int (i+j)):=Te λ_ _ _ _ _ _ _ q=>add_int q
theorem O9:oq X (binaryOp .Sub) (NR λi j=>.int (i - j)):=Te λ_ _ _ _ _ _ _ q=>sub_int q
theorem Pa:oq X (binaryOp .Mult) (rI Lb λi j=>.int (i * j)):=YF λ_ _ _ _ _ _ _ hc q=>mul_int q hc.ok
theorem Lc:oq X (binaryOp .FloorDiv) (rI Tf λi j=>.int (i / j)):=YF λi j _ _ _ _ _ hc q=>by
 have h1:(0:Int)<j:=hc.1
 have h2:j<1073741824:=hc.2
 exact floordiv_int (by omega) (by rw[Int.fdiv_eq_ediv_of_nonneg i (by omega)];exact q) (.inl (PyProof.noPylong_small (by omega)))
theorem ZT{f:Value->Sem Value}{g:Int->Int}
 (rule:∀(i:Int)(t:Tok)(s:Shared)(Q:Value->Shared->Prop)(E:Value->Shared->Prop),Q (.int (g i) s.toks) { s with toks:=s.toks+1 }->wpAny (model X.prog X.w) X.A (f (.int i t)) Q E s):
 Wd X f (rU λi=>.int (g i)):=by
 intro ag s σ H x v Q I rx h
 obtain⟨i,rfl,q⟩:=h
 obtain⟨t,rfl⟩:=rx
 exact rule i t s _ _ ⟨.int (g i),H,I.tok _,⟨_,rfl⟩,q⟩
theorem Pb:Wd X (unaryOp .USub) (rU λi=>.int (-i)):=ZT λ_ _ _ _ _ q=>neg_int q
end
def Tg:V->V->Bool
 | .non,.non=>true| .non,.int _=>true| .int _,.non=>true| .non,.bl _=>true| .bl _,.non=>true| .non,.str _=>true| .str _,.non=>true
 | .int _,.int _=>true| .bl _,.bl _=>true| .str _,.str _=>true| .y2 _,.y2 _=>true
 | .int _,.str _=>true| .str _,.int _=>true| .bl _,.str _=>true| .str _,.bl _=>true
 |_,_=>false
def ZU:R2:=λx y H Q=>Tg x y=true/\Q (.bl (decide (x=y))) H
def ZV:R2:=λx y H Q=>Tg x y=true/\Q (.bl (!decide (x=y))) H
theorem DS{i j:Int}:decide (V.int i=V.int j)=(i==j):=by
 rw[Bool.eq_iff_iff]
 simp
theorem Hs{i j:Bool}:decide (V.bl i=V.bl j)=(i==j):=by
 rw[Bool.eq_iff_iff]
 simp
theorem DT{i j:Str}:decide (V.str i=V.str j)=(i==j):=by
 rw[Bool.eq_iff_iff]
 simp
theorem DU{i j:Array UInt8}:decide (V.y2 i=V.y2 j)=(i.toList==j.toList):=by
 rw[Bool.eq_iff_iff]
 cases i
 cases j
 simp
section
variable{X:Cx}{a b c:Expr}{ta tb tc:TE}{pos:Pos}
theorem bt{ag:List (Addr×Obj)}{σ:St}{H:Hp}{s:Shared}{Q:VK}{k k':Bool}(I:Inv X ag σ H s)(q:Q (.bl k) H)(e:k=k'):EP X ag σ Q (.bool k') s:=by
 subst e
 exact⟨.bl k,H,I,rfl,q⟩
theorem NS:oq X (compareOp .Eq) ZU:=by
 intro ag s σ H x y v u Q I rx ry h
 obtain⟨hs,q⟩:=h
 cases x with
 |non=>
  cases rx
  cases y with
  |non=>cases ry;exact PySem.EqNone.eq_none_none (bt I q (by simp))
  |bl j=>cases ry;exact PySem.EqNone.eq_none_bool (bt I q (by simp))
  |int j=>obtain⟨t',rfl⟩:=ry;exact PySem.EqNone.eq_none_int (bt I q (by simp))
  |str j=>obtain⟨t',rfl⟩:=ry;exact PySem.EqNone.eq_none_str (bt I q (by simp))
  |_=>exact absurd (show false=true from hs) Bool.false_ne_true
 |bl i=>
  cases rx
  cases y with
  |non=>cases ry;exact PySem.EqNone.eq_bool_none (bt I q (by simp))
  |bl j=>cases ry;exact eq_bool (bt I q Hs)
  |str j=>obtain⟨t',rfl⟩:=ry;exact PySem.EqMixed.eq_bool_str (bt I q (by simp))
  |_=>exact absurd (show false=true from hs) Bool.false_ne_true
 |int i=>
  obtain⟨t,rfl⟩:=rx
  cases y with
  |non=>cases ry;exact PySem.EqNone.eq_int_none (bt I q (by simp))
  |int j=>obtain⟨t',rfl⟩:=ry;exact eq_int (bt I q DS)
  |str j=>obtain⟨t',rfl⟩:=ry;exact PySem.EqMixed.eq_int_str (bt I q (by simp))
  |_=>exact absurd (show false=true from hs) Bool.false_ne_true
 |str i=>
  obtain⟨t,rfl⟩:=rx
  cases y with
  |non=>cases ry;exact PySem.EqNone.eq_str_none (bt I q (by simp))
  |bl j=>cases ry;exact PySem.EqMixed.eq_str_bool (bt I q (by simp))
  |int j=>obtain⟨t',rfl⟩:=ry;exact PySem.EqMixed.eq_str_int (bt I q (by simp))
  |str j=>obtain⟨t',rfl⟩:=ry;exact eq_str (bt I q DT)
  |_=>exact absurd (show false=true from hs) Bool.false_ne_true
 |y2 i=>
  obtain⟨t,rfl⟩:=rx
  cases y with
  |y2 j=>obtain⟨t',rfl⟩:=ry;exact W.eq_bytes (bt I q DU)
  |_=>exact absurd (show false=true from hs) Bool.false_ne_true
 |_=>cases y<;>exact absurd (show false=true from hs) Bool.false_ne_true
theorem NT:oq X (compareOp .NotEq) ZV:=by
 intro ag s σ H x y v u Q I rx ry h
 obtain⟨hs,q⟩:=h
 cases x with
 |non=>
  cases rx
  cases y with
  |non=>cases ry;exact PySem.EqNone.ne_none_none (bt I q (by simp))
  |bl j=>cases ry;exact PySem.EqNone.ne_none_bool (bt I q (by simp))
  |int j=>obtain⟨t',rfl⟩:=ry;exact PySem.EqNone.ne_none_int (bt I q (by simp))
  |str j=>obtain⟨t',rfl⟩:=ry;exact PySem.EqNone.ne_none_str (bt I q (by simp))
  |_=>exact absurd (show false=true from hs) Bool.false_ne_true
 |bl i=>
  cases rx
  cases y with
  |non=>cases ry;exact PySem.EqNone.ne_bool_none (bt I q (by simp))
  |bl j=>cases ry;exact ne_bool (bt I q (congrArg not Hs))
  |str j=>obtain⟨t',rfl⟩:=ry;exact PySem.EqMixed.ne_bool_str (bt I q (by simp))
  |_=>exact absurd (show false=true from hs) Bool.false_ne_true
 |int i=>
  obtain⟨t,rfl⟩:=rx
  cases y with
  |non=>cases ry;exact PySem.EqNone.ne_int_none (bt I q (by simp))
  |int j=>obtain⟨t',rfl⟩:=ry;exact ne_int (bt I q (congrArg not DS))
  |str j=>obtain⟨t',rfl⟩:=ry;exact PySem.EqMixed.ne_int_str (bt I q (by simp))
  |_=>exact absurd (show false=true from hs) Bool.false_ne_true
 |str i=>
  obtain⟨t,rfl⟩:=rx
  cases y with
  |non=>cases ry;exact PySem.EqNone.ne_str_none (bt I q (by simp))
  |bl j=>cases ry;exact PySem.EqMixed.ne_str_bool (bt I q (by simp))
  |int j=>obtain⟨t',rfl⟩:=ry;exact PySem.EqMixed.ne_str_int (bt I q (by simp))
  |str j=>obtain⟨t',rfl⟩:=ry;exact ne_str (bt I q (congrArg not DT))
  |_=>exact absurd (show false=true from hs) Bool.false_ne_true
 |y2 i=>
  obtain⟨t,rfl⟩:=rx
  cases y with
  |y2 j=>obtain⟨t',rfl⟩:=ry;exact W.ne_bytes (bt I q (congrArg not DU))
  |_=>exact absurd (show false=true from hs) Bool.false_ne_true
 |_=>cases y<;>exact absurd (show false=true from hs) Bool.false_ne_true
theorem Ti:oq X (compareOp .Lt) (NR λi j=>.bl (decide (i<j))):=La λ_ _ _ _ _ _ _ q=>lt_int q
theorem Tj:oq X (compareOp .LtE) (NR λi j=>.bl (decide (i<=j))):=La λ_ _ _ _ _ _ _ q=>le_int q
theorem Tn:oq X (compareOp .Gt) (NR λi j=>.bl (decide (j<i))):=La λ_ _ _ _ _ _ _ q=>gt_int q
theorem To:oq X (compareOp .GtE) (NR λi j=>.bl (decide (j<=i))):=La λ_ _ _ _ _ _ _ q=>ge_int q
theorem Pg:oq X (compareOp .Is) (λx y H Q=>y=.non/\Q (.bl (decide (x=.non))) H):=by
 intro ag s σ H x y v u Q I rx ry h
 obtain⟨rfl,q⟩:=h
 cases ry
 refine is_none_gen (bt I q ?_)
 cases x<;>first
  | (cases rx;rfl)
  | (obtain⟨t,rfl⟩:=rx;rfl)
theorem Ld:oq X (compareOp .IsNot) (λx y H Q=>y=.non/\Q (.bl (!decide (x=.non))) H):=by
 intro ag s σ H x y v u Q I rx ry h
 obtain⟨rfl,q⟩:=h
 cases ry
 refine isnot_none_gen (bt I q ?_)
 cases x<;>first
  | (cases rx;rfl)
  | (obtain⟨t,rfl⟩:=rx;rfl)
theorem Ht(b:Expr){op:CmpOp}(h:op≠.In:=by decide)(h2:op≠.NotIn:=by decide):behindInMarks op b=false:=by
 have e1:(op==CmpOp.In)=false:=by cases op<;>first|rfl|exact absurd rfl h
 have e2:(op==CmpOp.NotIn)=false:=by cases op<;>first|rfl|exact absurd rfl h2
 cases b<;>simp[behindInMarks,e1,e2]
theorem Le{op:CmpOp}{r:R2}(ho:oq X (compareOp op) r)(ha:PE X a ta)(hb:PE X b tb)(hm:behindInMarks op b=false):PE X (.Compare a [op] [b] pos) (RD r ta tb):=by
 intro ag s σ H Q I h
 exact wpAny_Compare1 (K9 ha hb I h λv u s2 x y H2 I2 rx ry q=>ho ag s2 σ H2 x y v u Q I2 rx ry q) hm
def Tq(t:TE):TT:=λσ H Q=>t σ H λx H'=>∃k,x=.bl k/\Q k H'
theorem Lf{op:CmpOp}{r:R2}(ho:oq X (compareOp op) r)(ha:PE X a ta)(hb:PE X b tb)(hm:behindInMarks op b=false):PT X (.Compare a [op] [b] pos) (Tq (RD r ta tb)):=by
 intro ag s σ H Q I h
 refine wpAny_isTrue_Compare1 (dJ (ha ag s σ H _ I h) λv s1 ⟨x,H1,I1,r1,q1⟩=>dJ (hb ag s1 σ H1 _ I1 q1) λu s2 ⟨y,H2,I2,r2,q2⟩=>
  dJ (ho ag s2 σ H2 x y v u _ I2 r1 r2 q2) λc s3 ⟨z,H3,I3,r3,k,e,q3⟩=> ?_) hm
 subst e
 cases r3
 exact wpAny_truthy_bool ⟨H3,I3,q3⟩
def Ph(r r':R2)(ta tb tc:TE):TE:=λσ H Q=>ta σ H λx H1=>tb σ H1 λy H2=>r x y H2 λz H3=>∃k,z=.bl k/\
 (if k=true then tc σ H3 λw' H4=>r' y w' H4 Q else Q (.bl false) H3)
theorem Hu{op op':CmpOp}{r r':R2}(ho:oq X (compareOp op) r)(DM:oq X (compareOp op') r')(ha:PE X a ta)(hb:PE X b tb)(hc:PE X c tc)
 (hm:lastMarks [op,op'] [b,c]=false:=by with_unfolding_all rfl):PE X (.Compare a [op,op'] [b,c] pos) (Ph r r' ta tb tc):=by
 intro ag s σ H Q I h
 refine Compare_chain (dJ (ha ag s σ H _ I h) λv s1 ⟨x,H1,I1,r1,q1⟩=>chain_link (dJ (hb ag s1 σ H1 _ I1 q1) λu s2 ⟨y,H2,I2,r2,q2⟩=>
  dJ (ho ag s2 σ H2 x y v u _ I2 r1 r2 q2) λd s3 ⟨z,H3,I3,r3,k,e,q3⟩=> ?_)) hm
 subst e
 cases r3
 refine wpAny_truthy_bool ?_
 cases k with
 |false=>exact ite_ff ⟨.bl false,H3,I3,rfl,q3⟩
 |true=>exact ite_tt (chain_last (dJ (hc ag s3 σ H3 _ I3 q3) λw' s4 ⟨z',H4,I4,r4,q4⟩=>DM ag s4 σ H4 y z' u w' Q I4 r2 r4 q4))
theorem tI:(sizeLine:Nat)<2 ^ 63:=by rw[sizeLine_eq];decide
theorem tJ:oq X (binaryOp .Add) (λx y H Q=>∃i j,x=.str i/\y=.str j/\i.length+j.length<=sizeLine/\Q (.str (i++j)) H):=by
 intro ag s σ H x y v u Q I rx ry h
 obtain⟨i,j,rfl,rfl,hz,q⟩:=h
 obtain⟨t,rfl⟩:=rx
 obtain⟨t',rfl⟩:=ry
 exact add_str (λt' tk=>⟨.str (i++j),H,I.tok _,⟨_,rfl⟩,q⟩) hz
def zf(b:Expr):Prop:=∀o i,subscripted b false o i=operate [o,i] (getItem o i)
theorem zg(ha:PE X a ta)(hb:PE X b tb)(hs:zf b):
 PE X (.Subscript a b pos) (RD (λx y H Q=>∃z i c,x=.str z/\y=.int i/\0<=i/\i<2 ^ 63/\i<z.length/\z.cps[i.toNat]? =some c/\Q (.str ⟨#[c]⟩) H) ta tb):=by
 intro ag s σ H Q I h
 refine Subscript_ (K9 ha hb I h λv u s2 x y H2 I2 rx ry q=> ?_)
 obtain⟨z,i,c,rfl,rfl,h0,h63,h1,hc,q⟩:=q
 obtain⟨t,rfl⟩:=rx
 obtain⟨t',rfl⟩:=ry
 have e:seqIndex? i z.length=some i.toNat:=PySem.StrLaws.seqIndex_nonneg h0 h1
 exact tail_any (typeIs_str s2 z t) slot_str_getitem.lookup (getItem_str (c:=c) (by
  have e1:decide (i< -(2 ^ 63:Int))=false:=decide_eq_false (by omega)
  have e2:decide (i>=2 ^ 63)=false:=decide_eq_false (by omega)
  rw[e1,e2]<;>rfl) (by rw[e];exact hc) ⟨.str ⟨#[c]⟩,H2,I2.tok _,⟨_,rfl⟩,q⟩) (hs _ _)
theorem vals1{x:V}{us:List Value}(r:Vals [x] us):∃u,us= [u]/\RelV x u:=by
 cases r with
 |cons r1 r2=>cases r2;exact⟨_,rfl,r1⟩
theorem vals2{x y:V}{us:List Value}(r:Vals [x,y] us):∃u w',us= [u,w']/\RelV x u/\RelV y w':=by
 cases r with
 |cons r1 r2=>
  cases r2 with
  |cons r3 r4=>cases r4;exact⟨_,_,rfl,r1,r3⟩
theorem Fg(hc:X.calm=true):j7 X (.builtin "max") (λxs H Q=>∃i j,xs= [.int i,.int j]/\Q (.int (if j > i then j else i)) H):=by
 intro ag s σ H xs us Q I r h
 obtain⟨i,j,rfl,q⟩:=h
 obtain⟨u,w',rfl,⟨t,rfl⟩,⟨t',rfl⟩⟩:=vals2 r
 refine max_two_ints (I.ok.hd hc) λh' tk k=>⟨_,H,I.kept k,?_,q⟩
 by_cases hj:j > i
 ·rw[if_pos hj,if_pos hj];exact⟨_,rfl⟩
 ·rw[if_neg hj,if_neg hj];exact⟨_,rfl⟩
theorem Fh(hc:X.calm=true):j7 X (.builtin "min") (λxs H Q=>∃i j,xs= [.int i,.int j]/\Q (.int (if j<i then j else i)) H):=by
 intro ag s σ H xs us Q I r h
 obtain⟨i,j,rfl,q⟩:=h
 obtain⟨u,w',rfl,⟨t,rfl⟩,⟨t',rfl⟩⟩:=vals2 r
 refine min_two_ints (I.ok.hd hc) λh' tk k=>⟨_,H,I.kept k,?_,q⟩
 by_cases hj:j<i
 ·rw[if_pos hj,if_pos hj];exact⟨_,rfl⟩
 ·rw[if_neg hj,if_neg hj];exact⟨_,rfl⟩
theorem Hv:j7 X (.builtin "ord") (λxs H Q=>∃x,xs= [.str x]/\x.length=1/\Q (.int (x.cps.getD 0 0:Nat)) H):=by
 intro ag s σ H xs us Q I r h
 obtain⟨x,rfl,hz,q⟩:=h
 obtain⟨u,rfl,t,rfl⟩:=vals1 r
 exact ord_of_one hz ⟨.int _,H,I.tok _,⟨_,rfl⟩,q⟩
end
structure Fi(h:Heap)(x dx C:Addr)(mA:Str->Option Value):Prop where
 obj:h.get? x=some (W.instObj C dx)
 ns:h.Ns1 dx mA
 ne:dx≠x
theorem Fj{h:Heap}{dx:Addr}{mA:Str->Option Value}(n:h.Ns1 dx mA):∃od,h.get? dx=some od/\∀name,W.lookIn name od=some (mA name):=by
 obtain⟨o,es,ep,ho,hd,hk,_,hm⟩:=n
 refine⟨o,ho,λname=> ?_⟩
 have e:=hm name
 unfold nsFind findBy at e
 rw[<-Array.find?_toList] at e
 unfold W.lookIn
 rw[hd]
 dsimp only
 split
 ·rename_i y q
  rw[q] at e
  exact congrArg some e
 ·rename_i q
  rw[q] at e
  have a:es.toList.any (·.refKey)=false:=by
   rw[List.any_eq_false]
   intro y hy
   obtain⟨z,t,Wf⟩:=hk y (Array.mem_toList_iff.mp hy)
   simp[DictEntry.refKey,Wf]
  have a':¬es.toList.any (·.refKey)=true:=by rw[a];exact Bool.false_ne_true
  rw[if_neg a']
  exact congrArg some e
theorem Fi.look{h:Heap}{x dx C:Addr}{mA:Str->Option Value}(I:Fi h x dx C mA):∃od,W.InstAt h x (W.instObj C dx) C (some od)/\∀name,W.lookIn name od=some (mA name):=
 let⟨od,ho,hl⟩:=Fj I.ns
 ⟨od,⟨I.obj,rfl,rfl,ho⟩,hl⟩
section
variable{prog:Program}{w:World}{A:Around}{E:Value->Shared->Prop}{s:Shared}{K:W.Frag}{x dx C f:Addr}{mA:Str->Option Value}{name:Str}{v:Value}
theorem get_map{expr:Bool}{Q:Value->Shared->Prop}(X:K.In s.heap)(I:Fi s.heap x dx C mA)(hg:W.plainGet K C name=true)(hh:W.hasDictIn K C=true)
 (ha:W.findIn K (.ref C) name=some none)(hv:mA name=some v)(Vd:W.handedIn v=true)(h:Q v { s with toks:=s.toks+1 }):
 wpAny (model prog w) A (getAttr (.ref x) name expr) Q E s:=by
 obtain⟨od,J,hl⟩:=I.look
 exact W.get_value X J (W.plainGet_of hg).1 (W.findObj_own hh ha rfl (by rw[hl,hv])) Vd h
theorem Lg{ns:List Str}{Q:Unit->Shared->Prop}(X:K.In s.heap)(I:Fi s.heap x dx C mA)
 (hs:W.findIn K (.ref C) "__setattr__"=some (some (.builtin "object.__setattr__")))(hp:W.plainOver K C=true)(ht:W.takerIn K C name=some none)(hh:W.hasDictIn K C=true)
 (hw:PySem.Within mA ns)(hsz:ns.length<=sizeLine)
 (h:∀h',Fi h' x dx C (λy=>if y=name then some v else mA y)->Heap.SameBut dx s.heap h'->Q () { s with heap:=h',toks:=s.toks+2 }):
 wpAny (model prog w) A (setAttr (.ref x) name v) Q E s:=by
 obtain⟨od,J,hl⟩:=I.look
 refine W.set_plain X J hs (W.osa_open (s:= { s with toks:=s.toks+1 }) (r:=none) X J hp ht λb=> ?_)
 obtain⟨cd,hc,U6⟩:=W.any_some hh
 have hx:s.heap.get? x=some ⟨.ref C,some dx,.plain,#[]⟩:=I.obj
 refine wpAny_bind (wpAny_pure (wpAny_bind (wpAny_bind (wpAny_loadPart hx (wpAny_bind (W.Looks.here (s:= { s with toks:=s.toks+1 }) (W.looks_clsIn X hc) ?_))))))
 rw[U6]
 refine wpAny_pure (a:=some dx) (wpAny_bind (wpAny_pure (wpAny_bind ?_)))
 refine wpAny_nsSet1 (s:= { s with toks:=s.toks+1 }) I.ns λh' YG YH=> ?_
 obtain⟨oD,esD,epD,ZW,ZX,ZY⟩:=YG.count (PySem.Within.cons name v hw)
 refine wpAny_bind (wpAny_lookBehind ZW (by rw[ZX];exact pastItsLine_dict (Nat.le_trans ZY (by rw[List.length_cons];omega))) ?_)
 exact wpAny_pure (h _ ⟨(YH.2 _ (Ne.symm I.ne)).trans I.obj,YG,I.ne⟩ YH)
theorem Hw{R:Result->Shared->Prop}{vs:List Value}{kw:List (Str×Value)}(X:K.In s.heap)(hm:W.makesIn K C=true)
 (hi:W.findIn K (.ref C) "__init__"=some (some (.ref f)))(hf:W.typeIn K (.ref f)=some (.type "function"))
 (h:codeAny (model prog w) (A.under (.builtin "type.__call__" ⟨.ref C::vs,kw⟩)) (.call (.ref f) ⟨.ref (s.heap.objs.size+1)::vs,kw⟩) (W.InitBack (s.heap.objs.size+1) R)
   { s with heap:=(s.heap.push W.emptyDict).push (W.instObj C s.heap.objs.size) }):
 codeAny (model prog w) A (.call (.ref C) ⟨vs,kw⟩) R s:=by
 obtain⟨hh,g,d,t,os⟩:=s
 exact W.make_core (W.makes_of X hm) (W.looks_findIn X hi) (λself=>W.bind_fn X self hf) (.inl rfl) h
end
def cY(f:Str)(v:V):List (Str×V)->List (Str×V)
 | []=> [(f,v)]
 | (g,x)::r=>if g=f then(g,v)::r else(g,x)::cY f v r
theorem qM(f g:Str)(v:V):∀fs:List (Str×V),(cY f v fs).lookup g=if g=f then some v else fs.lookup g
 | []=>by
   show List.lookup g [(f,v)]=_
   by_cases h:g=f
   ·have hb:(g==f)=true:=beq_iff_eq.mpr h
    simp only[List.lookup,hb,if_pos h]
   ·have hb:(g==f)=false:=beq_eq_false_iff_ne.mpr h
    simp only[List.lookup,hb,if_neg h]
 | (k,x)::r=>by
   have ih:=qM f g v r
   rw[show cY f v ((k,x)::r)=(if k=f then(k,v)::r else(k,x)::cY f v r) from rfl]
   by_cases hk:k=f
   ·rw[if_pos hk]
    by_cases h:g=k
    ·have hb:(g==k)=true:=beq_iff_eq.mpr h
     simp only[List.lookup,hb,if_pos (h.trans hk)]
    ·have hb:(g==k)=false:=beq_eq_false_iff_ne.mpr h
     simp only[List.lookup,hb,if_neg (λe:g=f=>h (e.trans hk.symm))]
   ·rw[if_neg hk]
    by_cases h:g=k
    ·have hb:(g==k)=true:=beq_iff_eq.mpr h
     simp only[List.lookup,hb,if_neg (λe:g=f=>hk (h.symm.trans e))]
    ·have hb:(g==k)=false:=beq_eq_false_iff_ne.mpr h
     simp only[List.lookup,hb]
     exact ih
theorem p6(f:Str)(v:V):∀fs:List (Str×V),f∈(cY f v fs).map (·.1)/\∀g,g∈fs.map (·.1)->g∈(cY f v fs).map (·.1)
 | []=>⟨by simp[cY],λg h=>by simp at h⟩
 | (k,x)::r=>by
   obtain⟨i1,i2⟩:=p6 f v r
   rw[show cY f v ((k,x)::r)=(if k=f then(k,v)::r else(k,x)::cY f v r) from rfl]
   by_cases hk:k=f
   ·rw[if_pos hk]
    subst hk
    exact⟨by simp,λg h=>by simpa using h⟩
   ·rw[if_neg hk]
    refine⟨?_,λg h=> ?_⟩
    ·rw[List.map_cons]
     exact List.mem_cons_of_mem _ i1
    ·rw[List.map_cons] at h ⊢
     rcases List.mem_cons.mp h with e|e
     ·exact List.mem_cons.mpr (.inl e)
     ·exact List.mem_cons_of_mem _ (i2 g e)
theorem qN(f:Str)(v:V):∀fs:List (Str×V),(cY f v fs).length<=fs.length+1
 | []=>by simp[cY]
 | (k,x)::r=>by
   have ih:=qN f v r
   rw[show cY f v ((k,x)::r)=(if k=f then(k,v)::r else(k,x)::cY f v r) from rfl]
   by_cases hk:k=f
   ·rw[if_pos hk,List.length_cons,List.length_cons];omega
   ·rw[if_neg hk,List.length_cons,List.length_cons];omega
theorem Bj.some_of{v:V}{o:Option Value}(r:Bj (some v) o):∃u,o=some u/\RelV v u:=by
 cases o with
 |none=>exact(show False from r).elim
 |some u=>exact⟨u,rfl,r⟩
theorem Fl{v:V}{u:Value}(r:RelV v u):W.handedIn u=true:=by
 cases v with
 |non=>cases(show u=Value.none from r);rfl
 |bl b=>cases(show u=Value.bool b from r);rfl
 |int i=>obtain⟨t,e⟩:=(show ∃t,u=Value.int i t from r);cases e;rfl
 |str x=>obtain⟨t,e⟩:=(show ∃t,u=Value.str x t from r);cases e;rfl
 |y2 b=>obtain⟨t,e⟩:=(show ∃t,u=Value.bytes b t from r);cases e;rfl
 |Sl b=>obtain⟨t,e⟩:=(show ∃t,u=Value.float b t from r);cases e;rfl
 |ref a=>cases(show u=Value.ref a from r);rfl
 |ty n=>cases(show u=Value.type n from r);rfl
section
variable{P:Program}{w:World}{H H':Hp}{h h':Heap}{a C dx:Addr}{fs ZK:List (Str×V)}
theorem wV(cW:om P w H h)(e:H a=some (.ins C dx fs)):∃mA,Fi h a dx C mA/\(∀f,Bj (fs.lookup f) (mA f))/\PySem.Within mA (fs.map (·.1))/\fs.length<=1000/\H dx=some (.own a):=by
 obtain⟨d,z,ne,ob,mA,n,r,q⟩:=(show fX P w H h a (.ins C dx fs) from cW a _ e)
 exact⟨mA,⟨ob,n,ne⟩,r,q,z,d⟩
end
structure wW(K:W.Frag)(C:Addr):Prop where
 pg:W.plainGet K C Str.empty=true
 hd:W.hasDictIn K C=true
 po:W.plainOver K C=true
 sa:W.findIn K (.ref C) "__setattr__"=some (some (.builtin "object.__setattr__"))
theorem wW.get{K:W.Frag}{C:Addr}(c:wW K C)(f:Str):W.plainGet K C f=true:=c.pg
def bX(K:W.Frag)(C:Addr)(f:Str):Prop:=W.findIn K (.ref C) f=some none
theorem bX.Tt{K:W.Frag}{C:Addr}{f:Str}(n:bX K C f):W.takerIn K C f=some none:=by
 unfold W.takerIn
 rw[show W.findIn K (.ref C) f=some none from n]
 rfl
section
variable{X:Cx}{ag:List (Addr×Obj)}{σ:St}{H:Hp}{s:Shared}{a C dx:Addr}{fs:List (Str×V)}{f:Str}{v:V}{A:Around}{E:Value->Shared->Prop}
theorem Bo{b:Bool}{Q:Value->Shared->Prop}(I:Inv X ag σ H s)(e:H a=some (.ins C dx fs))(c:wW X.K C)(n:bX X.K C f)(l:fs.lookup f=some v)
 (h:∀u s',Inv X ag σ H s'->RelV v u->Q u s'):wpAny (model X.prog X.w) A (getAttr (.ref a) f b) Q E s:=by
 obtain⟨mA,O,r,_,_,_⟩:=wV I.cW e
 obtain⟨u,hu,ru⟩:=Bj.some_of (v:=v) (o:=mA f) (by rw[<-l];exact r f)
 exact get_map I.E8 O (c.get f) c.hd n hu (Fl ru) (h u _ (I.tok _) ru)
theorem Bp{y:V}{u:Value}{Q:Unit->Shared->Prop}(I:Inv X ag σ H s)(e:H a=some (.ins C dx fs))(c:wW X.K C)(n:bX X.K C f)(hl:fs.length<1000)(ry:RelV y u)
 (h:∀s',Inv X ag σ (upd H a (.ins C dx (cY f y fs))) s'->Q () s'):wpAny (model X.prog X.w) A (setAttr (.ref a) f u) Q E s:=by
 obtain⟨mA,O,r,wi,_,ho⟩:=wV I.cW e
 have hz:(fs.map (·.1)).length<=sizeLine:=by rw[List.length_map,sizeLine_eq];omega
 refine Lg I.E8 O c.sa c.po n.Tt c.hd wi hz λh' O' sb=>h _ ?_
 have hd:∃o,h'.get? dx=some o:=let⟨o,_,_,e',_⟩:=O'.ns;⟨o,e'⟩
 refine I.write (x:=a) (e:=dx) (by rw[e];exact True.intro) (.inr ho) (λb q hb z=>(sb.2 b hb).trans z) hd ?_
 refine⟨by rw[aj O.ne];exact ho,?_,O.ne,O'.obj,_,O'.ns,λg=> ?_,λg hg=> ?_⟩
 ·have:=qN f y fs;omega
 ·show Bj ((cY f y fs).lookup g) (if g=f then some u else mA g)
  rw[qM]
  by_cases q:g=f
  ·rw[if_pos q,if_pos q];exact ry
  ·rw[if_neg q,if_neg q];exact r g
 ·by_cases q:g=f
  ·rw[q];exact(p6 f y fs).1
  ·refine(p6 f y fs).2 g (wi g λz=>hg ?_)
   show(if g=f then some u else mA g)=none
   rw[if_neg q];exact z
theorem Inv.made(I:Inv X ag σ H s):Inv X ag σ (upd (upd H s.heap.objs.size (.own (s.heap.objs.size+1))) (s.heap.objs.size+1) (.ins C s.heap.objs.size []))
 { s with heap:=(s.heap.push W.emptyDict).push (W.instObj C s.heap.objs.size) }:=by
 have e1:(s.heap.push W.emptyDict).get? s.heap.objs.size=some W.emptyDict:=Heap.get?_push_size s.heap rfl
 have e2:((s.heap.push W.emptyDict).push (W.instObj C s.heap.objs.size)).get? (s.heap.objs.size+1)=some (W.instObj C s.heap.objs.size):=by
  have:=Heap.get?_push_size (s.heap.push W.emptyDict) (o:=W.instObj C s.heap.objs.size) rfl
  rwa[Heap.size_push] at this
 have e3:(s.heap.push W.emptyDict).Ns s.heap.objs.size (λ_=>none):=⟨W.emptyDict,#[],_,e1,rfl,(λe he=>absurd he (by simp)),λ_=>rfl⟩
 have I1:=I.laid (a:=s.heap.objs.size) (o:=.own (s.heap.objs.size+1)) (h':=s.heap.push W.emptyDict) (t':=s.toks) (λb u q=>Heap.get?_push_of_some _ q) (Nat.le_refl _) ⟨_,e1⟩
 refine I1.laid (a:=s.heap.objs.size+1) (o:=.ins C s.heap.objs.size []) (t':=s.toks) (λb u q=>Heap.get?_push_of_some _ q) (Nat.le_of_eq (Heap.size_push _ _)) ?_
 have ne:s.heap.objs.size≠s.heap.objs.size+1:=Nat.ne_of_lt (Nat.lt_succ_self _)
 refine⟨by rw[aj ne,ak],Nat.zero_le _,ne,e2,λ_=>none,(Heap.Ns1.of_empty e3).at λo q=>Heap.get?_push_of_some _ q,λ_=>True.intro,λy hy=>absurd rfl hy⟩
theorem Lh{prog:Program}{w:World}{env:Env}{e:Expr}{f:Str}{pos:Pos}{s:Shared}{Q:Value->Shared->Prop}(hb:attributeBase e f env (eval e env)=eval e env)
 (h:wpAny (model prog w) A (eval e env) (λo cX=>wpAny (model prog w) A (getAttr o f true) Q E cX) E s):wpAny (model prog w) A (eval (.Attribute e f pos) env) Q E s:=
 Attribute_any_ h (by rw[arm_eval_Attribute,hb])
end
def Wg(K:W.Frag)(ta:TE)(f:Str):TE:=λσ H Q=>ta σ H λx H1=>∃a C dx fs v,x=.ref a/\H1 a=some (.ins C dx fs)/\wW K C/\bX K C f/\fs.lookup f=some v/\Q v H1
def Wh(K:W.Frag)(ta tv:TE)(f:Str):TS:=λD σ H=>tv σ H λy H1=>ta σ H1 λx H2=>∃a C dx fs,x=.ref a/\H2 a=some (.ins C dx fs)/\wW K C/\bX K C f/\fs.length<1000/\
 D.nx σ (upd H2 a (.ins C dx (cY f y fs)))
section
variable{X:Cx}{o e value:Expr}{f:Str}{pos pos' mG:Pos}{ta tv:TE}
theorem Pj(he:PE X e ta)(hb:attributeBase e f X.env (eval e X.env)=eval e X.env):PE X (.Attribute e f pos) (Wg X.K ta f):=by
 intro ag s σ H Q I h
 refine Lh hb (dJ (he ag s σ H _ I h) λu s1 ⟨x,H1,I1,rx,a,C,dx,fs,v,ex,ea,c,n,l,q⟩=> ?_)
 subst ex
 obtain rfl:u=Value.ref a:=rx
 exact Bo I1 ea c n l λu' s2 I2 ru=>⟨v,H1,I2,ru,q⟩
theorem Hx(ha:PE X o ta)(hv:PE X value tv)(hs:swapsWith value (some (.Attribute o f pos')) pos.line X.env=pure false):PS X (.Assign [.Attribute o f pos'] value pos) (Wh X.K ta tv f):=by
 intro ag s σ H D I h
 refine plainObj_wpAny_Assign_Attribute (dJ (hv ag s σ H _ I h) λu s1 ⟨y,H1,I1,ry,q⟩=>dJ (ha ag s1 σ H1 _ I1 q) λov s2 ⟨x,H2,I2,rx,a,C,dx,fs,ex,ea,c,n,l,q2⟩=> ?_) hs
 subst ex
 obtain rfl:ov=Value.ref a:=rx
 exact Bp I2 ea c n l ry λs3 I3=>⟨σ,_,I3,q2⟩
end
section
variable{X:Cx}{ag:List (Addr×Obj)}{σ:St}{H:Hp}{s:Shared}{A:Around}{E:Value->Shared->Prop}{Q:Value->Shared->Prop}{c:Value}{b:Bool}
end
structure dC(k:Nat)(A:Around):Prop where
 hd:A.handled=none
 dp:A.depth+3 * k+5<recursionLimit
 un:A.units+16 * k+200<cLine
theorem dC.mono{j k:Nat}{A:Around}(r:dC k A)(h:j<=k):dC j A:=⟨r.hd,by have:=r.dp;omega,by have:=r.un;omega⟩
theorem dC.deeper{k:Nat}{A:Around}(r:dC (k+1) A)(env:Env):dC k (A.deeper env):=
 ⟨r.hd,by have:=r.dp;show A.depth+1+3 * k+5<_;omega,by have:=r.un;show A.units+3+16 * k+200<_;omega⟩
theorem Bq{A:Around}{C:Addr}{us:List Value}{kw:List (Str×Value)}:(A.under (.builtin "type.__call__" ⟨.ref C::us,kw⟩)).depth=A.depth+1:=by
 first|rfl|simp[Around.under,Code.weight,Code.isCreation,Code.isGuard,Code.isCaller,Code.frames,Code.isFrame,guardIds]
theorem Br{A:Around}{C:Addr}{us:List Value}{kw:List (Str×Value)}:(A.under (.builtin "type.__call__" ⟨.ref C::us,kw⟩)).units=A.units+1:=by
 first|rfl|simp[Around.under,Code.cUnits,Code.frames,Code.isFrame]
theorem dC.make{k:Nat}{A:Around}(r:dC (k+1) A)(C:Addr)(us:List Value)(kw:List (Str×Value)):dC k (A.under (.builtin "type.__call__" ⟨.ref C::us,kw⟩)):=
 ⟨r.hd,by have:=r.dp;rw[Bq];omega,by have:=r.un;rw[Br];omega⟩
theorem dC.depth{k:Nat}{A:Around}(r:dC k A):A.depth<recursionLimit:=by have:=r.dp;omega
theorem dC.units{k:Nat}{A:Around}(r:dC k A):A.units+64<cLine:=by have:=r.un;omega
def Tv:TA:=λ_ H Q=>Q [] H
def Tw(ta:TE)(tr:TA):TA:=λσ H Q=>ta σ H λx H1=>tr σ H1 λxs H2=>Q (x::xs) H2
section
variable{X:Cx}{e:Expr}{es:List Expr}{te:TE}{t:TA}{pos:Pos}
theorem du:PA X [] Tv:=λ_ _ _ _ H Q I h=>Calls.spliced_nil ⟨[],H,I,.nil,h⟩
theorem bJ(ha:PE X e te)(hr:PA X es t)(hs:starEach (e::es) X.env=(false,eval e X.env)::starEach es X.env:=by rfl):PA X (e::es) (Tw te t):=by
 intro pos ag s σ H Q I h
 rw[hs]
 show wpAny _ _ (spliced ((false,eval e X.env)::backTo pos (starEach es X.env))) _ _ s
 refine Calls.spliced_cons (dJ (ha ag s σ H _ I h) λu s1 ⟨x,H1,I1,r1,q1⟩=> ?_)
 exact dJ (hr pos ag s1 σ H1 _ I1 q1) λus s2 ⟨xs,H2,I2,r2,q2⟩=>⟨x::xs,H2,I2,.cons r1 r2,q2⟩
def Wi(t:TA):TE:=λσ H Q=>t σ H λxs H1=>xs.length<=sizeLine/\∀p,H1 p=none->Q (.ref p) (upd H1 p (.tup xs))
def Wj(t:TA):TE:=λσ H Q=>t σ H λxs H1=>xs.length<=sizeLine/\∀p,H1 p=none->Q (.ref p) (upd H1 p (.lst xs))
theorem Pk{x1}(h:PA X es t):PE X (.Tuple es x1 pos) (Wi t):=by
 intro ag s σ H Q I hq
 refine wpAny_Tuple_spliced (dJ (h pos ag s σ H _ I hq) λus s1 ⟨xs,H1,I1,r,z,q⟩=>⟨by rw[<-r.length];exact z,?_⟩)
 have hf:H1 s1.heap.objs.size=none:=I1.cW.fresh (Nat.le_refl _)
 refine⟨.ref s1.heap.objs.size,upd H1 s1.heap.objs.size (.tup xs),I1.laid (t':=s1.toks) (λb u e=>Heap.get?_push_of_some _ e) (Nat.le_refl _) ?_,rfl,q _ hf⟩
 exact⟨z,us,r,⟨_,Heap.get?_push_size _ rfl,rfl,_,rfl⟩⟩
theorem nD(h:PA X es t):PE X (.List es pos) (Wj t):=by
 intro ag s σ H Q I hq
 refine wpAny_List_spliced (dJ (h pos ag s σ H _ I hq) λus s1 ⟨xs,H1,I1,r,z,q⟩=>⟨by rw[<-r.length];exact z,?_⟩)
 have hf:H1 s1.heap.objs.size=none:=I1.cW.fresh (Nat.le_refl _)
 refine⟨.ref s1.heap.objs.size,upd H1 s1.heap.objs.size (.lst xs),I1.laid (t':=s1.toks) (λb u e=>Heap.get?_push_of_some _ e) (Nat.le_refl _) ?_,rfl,q _ hf⟩
 exact⟨z,us,0,r,Heap.get?_push_size _ rfl⟩
end
abbrev Sp:=List V->Hp->VK->XK->Prop
abbrev G8:=List Env->Hp->Shared->XK->Value->Shared->Prop
structure Bs(P:Program)(w:World)(K:W.Frag)(mg:Str->Option Value)(ae:Heap)(A:Around)(aq:List Env)(s:Shared)(H:Hp):Prop where
 frames:A.frames=some aq
 mod:Mod K mg ae
 bs:∀b o,ae.get? b=some o->s.heap.get? b=some o/\H b=none
 K3:ae.objs.size<=s.heap.objs.size
 rQ:s.heap.FunFrames ae aq
 OG:∀b∈Hg aq,H b=none
 cW:om P w H s.heap
 bare:AllBare s.gens
def CE(aq:List Env)(P:Program)(w:World)(H:Hp)(s:Shared)(Q:VK)(u:Value)(s':Shared):Prop:=
 ∃v H',s'.os=s.os/\AllBare s'.gens/\Un (Hg aq) [] H H' s.heap s'.heap/\om P w H' s'.heap/\RelV v u/\Q v H'
def CR(CX:G8)(aq:List Env)(P:Program)(w:World)(H:Hp)(s:Shared)(Q:VK)(E:XK)(r:Result)(s':Shared):Prop:=
 match r with
 | .ok (.ret u)=>CE aq P w H s Q u s'
 | .ok _=>False
 | .error e=>CX aq H s E e s'
structure bD(P:Program)(w:World)(K:W.Frag)(mg:Str->Option Value)(ae:Heap)(CX:G8)(k:Nat)(f:Addr)(fd:FuncData)(ps:List Str)(sp:Sp):Prop where
 len:∀vs H Q E,sp vs H Q E->vs.length=ps.length
 run:∀(A:Around)(aq:List Env)(s:Shared)(H:Hp)(args:Args)(us:List Value)(vs:List V)(Q:VK)(E:XK),dC k A->Bs P w K mg ae A aq s H->BindsTo s fd args (ps.zip us)->Vals vs us->sp vs H Q E->
  codeAny (model P w) A (.call (.ref f) args) (CR CX aq P w H s Q E) s
theorem Bs.make{P:Program}{w:World}{K:W.Frag}{mg:Str->Option Value}{ae:Heap}{A:Around}{aq:List Env}{s:Shared}{H:Hp}(e:Bs P w K mg ae A aq s H)(C:Addr)(us:List Value)(kw:List (Str×Value)):
 Bs P w K mg ae (A.under (.builtin "type.__call__" ⟨.ref C::us,kw⟩)) aq s H:=⟨by first|exact e.frames| (simpa [Around.under,Code.envs,Code.isFrame,pushEnvs] using e.frames),e.mod,e.bs,e.K3,e.rQ,e.OG,e.cW,e.bare⟩
section
variable{X:Cx}{ag:List (Addr×Obj)}{σ:St}{H:Hp}{s s':Shared}
theorem Inv.Tz(I:Inv X ag σ H s):Bs X.prog X.w X.K X.mg X.ae X.A X.stack s H:=
 ⟨I.ok.frames,I.ok.mod,I.bs,Nat.le_trans I.ok.K3 I.sz,I.stack,I.DN,I.cW,I.bare⟩
theorem Inv.after{Q:VK}{u:Value}(I:Inv X ag σ H s)(h:CE X.stack X.prog X.w H s Q u s'):EP X ag σ Q u s':=by
 obtain⟨v,H',os,bare,un,cW,r,q⟩:=h
 obtain⟨hh,g,d,t,ZZ⟩:=s'
 obtain rfl:ZZ=s.os:=os
 exact⟨v,H',I.call (h':=hh) (g':=g) (d':=d) (t':=t) (ch:= []) un cW bare (λb z=>absurd z (by simp)),r,q⟩
end
def TB(sp:Sp)(zh:List V)(E:XK)(t:TA):TE:=λσ H Q=>t σ H λvs H1=>sp (vs++zh) H1 Q E
def NV(C:Addr)(sp:Sp)(zh:List V)(E:XK)(t:TA):TE:=λσ H Q=>t σ H λvs H1=>∀x dx,H1 x=none->H1 dx=none->dx≠x->
 sp (.ref x::(vs++zh)) (upd (upd H1 dx (.own x)) x (.ins C dx [])) (λv H2=>v=.non/\Q (.ref x) H2) E
def Binds(K:W.Frag)(fd:FuncData)(ps:List Str)(ds:List Value):Prop:=
 ∀(s:Shared)(us:List Value),K.In s.heap->(us++ds).length=ps.length->BindsTo s fd ⟨us, []⟩ (ps.zip (us++ds))
theorem Binds.all{K:W.Frag}{fd:FuncData}{ps:List Str}(h:∀us:List Value,us.length=ps.length->bindArgs fd ⟨us, []⟩=pure (ps.zip us)):Binds K fd ps []:=λs us _ hl=>by
 rw[List.append_nil] at hl ⊢
 exact .of_eq (h us hl)
def Passes(CX:G8)(X:Cx)(E:XK):Prop:=∀(ag:List (Addr×Obj))(σ:St)(H:Hp)(s:Shared)(e:Value)(s':Shared),Inv X ag σ H s->CX X.stack H s E e s'->X.xe e s'
section
variable{X:Cx}{CX:G8}{k:Nat}{f C:Addr}{fd:FuncData}{ps:List Str}{sp:Sp}{zh:List V}{ds:List Value}{E:XK}{x m:Str}{p pos apos:Pos}{e o:Expr}{es:List Expr}{ta:TE}{t:TA}
theorem Pl{ag:List (Addr×Obj)}{σ:St}{H:Hp}{s:Shared}{Q:VK}{us:List Value}{vs:List V}(F:bD X.prog X.w X.K X.mg X.ae CX k f fd ps sp)(hr:dC k X.A)(hb:Binds X.K fd ps ds)(hd:Vals zh ds)(hx:Passes CX X E)
 (I:Inv X ag σ H s)(r:Vals vs us)(h:sp (vs++zh) H Q E):wpAny (model X.prog X.w) X.A (call (.ref f) us) (EP X ag σ Q) X.xe s:=by
 have r2:Vals (vs++zh) (us++ds):=r.append hd
 have hl:(us++ds).length=ps.length:=by rw[<-r2.length];exact F.len _ _ _ _ h
 refine wpAny_call (codeAny_mono (F.run X.A X.stack s H ⟨us, []⟩ (us++ds) (vs++zh) Q E hr I.Tz (hb s us I.E8 hl) r2 h) λr s' hq=> ?_)
 cases r with
 |error e=>exact hx ag σ H s e s' I hq
 |ok fl=>
  cases fl with
  |ret u=>exact I.after hq
  |next=>exact False.elim hq
  |brk=>exact False.elim hq
  |cont=>exact False.elim hq
theorem jr(F:bD X.prog X.w X.K X.mg X.ae CX k f fd ps sp)(hr:dC k X.A)(hg:Gl X x)(hm:X.mg x=some (.ref f))(hk:W.keepIn X.K (.ref f)=true)(hb:Binds X.K fd ps ds)(hd:Vals zh ds)(hx:Passes CX X E)
 (ha:PA X (e::es) t)(tK:(x==("__debug__":Str))=false:=by decide)(he:starEach (e::es) X.env=(false,eval e X.env)::starEach es X.env:=by rfl)(hpl:(backTo pos (starEach es X.env)).any (·.1)=false:=by rfl):
 PE X (.Call (.Name x p) (e::es) [] pos) (TB sp zh E t):=by
 intro ag s σ H Q I h
 refine wpAny_Call_Name_kw (sL I hg hm ?_ tK)
 refine W.callWith_K (h₀:=X.ae) I.ok.mod.Rz hk (dJ (ha pos ag s σ H _ I h) λus s1 ⟨vs,H1,I1,r,q⟩=>⟨I1.E8,?_⟩) he hpl
 exact Pl F hr hb hd hx I1 r q
structure Mk(K:W.Frag)(C f:Addr):Prop where
 makes:W.makesIn K C=true
 init:W.findIn K (.ref C) "__init__"=some (some (.ref f))
 fn:W.isFn K (.ref f)=true
 kp:W.keepIn K (.ref C)=true
theorem zi{ag:List (Addr×Obj)}{σ:St}{H:Hp}{s:Shared}{Q:VK}{us:List Value}{vs:List V}(M:Mk X.K C f)(F:bD X.prog X.w X.K X.mg X.ae CX k f fd ps sp)(hr:dC (k+1) X.A)(hb:Binds X.K fd ps ds)(hd:Vals zh ds)
 (hx:Passes CX X E)(I:Inv X ag σ H s)(r:Vals vs us)
 (h:∀x dx,H x=none->H dx=none->dx≠x->sp (.ref x::(vs++zh)) (upd (upd H dx (.own x)) x (.ins C dx [])) (λv H2=>v=.non/\Q (.ref x) H2) E):
 wpAny (model X.prog X.w) X.A (call (.ref C) us) (EP X ag σ Q) X.xe s:=by
 have hq:=h (s.heap.objs.size+1) s.heap.objs.size (I.cW.fresh (Nat.le_succ _)) (I.cW.fresh (Nat.le_refl _)) (Nat.ne_of_lt (Nat.lt_succ_self _))
 have I2:=Inv.made (C:=C) I
 have r2:Vals (V.ref (s.heap.objs.size+1)::(vs++zh)) (Value.ref (s.heap.objs.size+1)::(us++ds)):=.cons rfl (r.append hd)
 have hl:(Value.ref (s.heap.objs.size+1)::us++ds).length=ps.length:=by
  have e:=r2.length
  rw[F.len _ _ _ _ hq] at e
  exact e.symm
 refine wpAny_call (Hw (f:=f) I.E8 M.makes M.init (beq_iff_eq.mp M.fn) (codeAny_mono (F.run _ X.stack _ _ ⟨Value.ref (s.heap.objs.size+1)::us, []⟩ (Value.ref (s.heap.objs.size+1)::(us++ds)) _ _ E (hr.make C us [])
  (I2.Tz.make C us []) (hb _ (Value.ref (s.heap.objs.size+1)::us) I2.E8 hl) r2 hq) λr s' Fm=> ?_))
 cases r with
 |error e=>exact hx ag σ _ _ e s' I2 Fm
 |ok fl=>
  cases fl with
  |ret u=>
   obtain⟨v,H',I3,rv,ev,q3⟩:=I2.after Fm
   subst ev
   exact⟨rv,⟨V.ref (s.heap.objs.size+1),H',I3,rfl,q3⟩⟩
  |next=>exact False.elim Fm
  |brk=>exact False.elim Fm
  |cont=>exact False.elim Fm
theorem DV(M:Mk X.K C f)(F:bD X.prog X.w X.K X.mg X.ae CX k f fd ps sp)(hr:dC (k+1) X.A)(hg:Gl X x)(hm:X.mg x=some (.ref C))(hb:Binds X.K fd ps ds)(hd:Vals zh ds)(hx:Passes CX X E)
 (ha:PA X (e::es) t)(tK:(x==("__debug__":Str))=false:=by decide)(he:starEach (e::es) X.env=(false,eval e X.env)::starEach es X.env:=by rfl)(hpl:(backTo pos (starEach es X.env)).any (·.1)=false:=by rfl):
 PE X (.Call (.Name x p) (e::es) [] pos) (NV C sp zh E t):=by
 intro ag s σ H Q I h
 refine wpAny_Call_Name_kw (sL I hg hm ?_ tK)
 refine W.callWith_K (h₀:=X.ae) I.ok.mod.Rz M.kp (dJ (ha pos ag s σ H _ I h) λus s1 ⟨vs,H1,I1,r,q⟩=>⟨I1.E8,?_⟩) he hpl
 exact zi M F hr hb hd hx I1 r q
theorem Hy(M:Mk X.K C f)(F:bD X.prog X.w X.K X.mg X.ae CX k f fd ps sp)(hr:dC (k+1) X.A)(hg:Gl X x)(hm:X.mg x=some (.ref C))(hb:Binds X.K fd ps ds)(hd:Vals zh ds)(hx:Passes CX X E)
 (tK:(x==("__debug__":Str))=false:=by decide):PE X (.Call (.Name x p) [] [] pos) (NV C sp zh E Tv):=by
 intro ag s σ H Q I h
 refine wpAny_Call_Name_kw (sL I hg hm ?_ tK)
 exact W.callWith_K0 I.E8 M.kp (zi (us:= []) M F hr hb hd hx I .nil h)
end
section
variable{X:Cx}{CX:G8}{k:Nat}{f C:Addr}{fd:FuncData}{ps ks:List Str}{sp:Sp}{E:XK}{x m:Str}{p pos apos Z0:Pos}{e o:Expr}{es:List Expr}{kws:List Keyword}{te ta:TE}{t tk:TA}{nm:Option Str}
variable{g:List Value->List Value->List Value}{gV:List V->List V->List V}
end
structure ao(N P:List Str)(sc:Scope):Prop where
 kind:sc.kind=.function
 co:sc.isCoroutine=false
 gen:sc.isGenerator=false
 nd:N.Nodup
 pre:N.take P.length=P
 par:∀x∈P,sc.names.lookup x=some .local\/sc.names.lookup x=some .cell
 Pn:∀y∈sc.names,y.2≠.free
theorem vO{kindOf:Str->Option NameKind}{x:Str}:∀{binds:List (Str×Value)}{m:Str->Option Value},(∀v,(x,v)∉binds)->bindL kindOf binds m x=m x
 | [],_,_=>rfl
 | (n,v)::r,m,h=>by
   unfold bindL
   rw[vO λw hw=>h w (List.mem_cons_of_mem _ hw)]
   split
   ·have:x≠n:=by rintro rfl;exact h v List.mem_cons_self
    simp[this]
   ·rfl
theorem vP{kindOf:Str->Option NameKind}{x:Str}:∀{binds:List (Str×Value)}{m:Str->Option Value},(∀v,(x,v)∉binds)->bindC kindOf binds m x=m x
 | [],_,_=>rfl
 | (n,v)::r,m,h=>by
   unfold bindC
   rw[vP λw hw=>h w (List.mem_cons_of_mem _ hw)]
   split
   ·rfl
   ·have:x≠n:=by rintro rfl;exact h v List.mem_cons_self
    simp[this]
theorem vQ{kindOf:Str->Option NameKind}{x:Str}{v:Value}:∀{P:List Str}{vs:List Value}{i:Nat}{m:Str->Option Value},P.Nodup->P[i]? =some x->vs[i]? =some v->kindOf x=some .local->
 bindL kindOf (P.zip vs) m x=some v
 | [],_,_,_,_,h,_,_=>by simp at h
 |_::_, [],_,_,_,_,h,_=>by simp at h
 |p::P,w::vs,0,m,nd,h1,h2,hk=>by
  simp at h1 h2;subst h1;subst h2
  show bindL kindOf ((p,w)::P.zip vs) m p=_
  unfold bindL
  rw[vO λv hv=>(List.nodup_cons.mp nd).1 (List.of_mem_zip hv).1,if_pos hk]
  simp
 |p::P,w::vs,i+1,m,nd,h1,h2,hk=>by
  show bindL kindOf ((p,w)::P.zip vs) m x=_
  unfold bindL
  exact vQ (i:=i) (List.nodup_cons.mp nd).2 (by simpa using h1) (by simpa using h2) hk
theorem vR{kindOf:Str->Option NameKind}{x:Str}{v:Value}:∀{P:List Str}{vs:List Value}{i:Nat}{m:Str->Option Value},P.Nodup->P[i]? =some x->vs[i]? =some v->kindOf x≠some .local->
 bindC kindOf (P.zip vs) m x=some v
 | [],_,_,_,_,h,_,_=>by simp at h
 |_::_, [],_,_,_,_,h,_=>by simp at h
 |p::P,w::vs,0,m,nd,h1,h2,hk=>by
  simp at h1 h2;subst h1;subst h2
  show bindC kindOf ((p,w)::P.zip vs) m p=_
  unfold bindC
  rw[vP λv hv=>(List.nodup_cons.mp nd).1 (List.of_mem_zip hv).1,if_neg hk]
  simp
 |p::P,w::vs,i+1,m,nd,h1,h2,hk=>by
  show bindC kindOf ((p,w)::P.zip vs) m x=_
  unfold bindC
  exact vR (i:=i) (List.nodup_cons.mp nd).2 (by simpa using h1) (by simpa using h2) hk
def start(N:List Str)(vs:List V):St:=vs.map some++List.replicate (N.length - vs.length) none
def Bt(CX:G8)(P:Program)(w:World)(K:W.Frag)(mg:Str->Option Value)(ae:Heap)(N:List Str)(qual:Str)(scope:Scope)(f:Addr)(cd:Value)(A:Around)(aq:List Env)(s:Shared)(H:Hp)(E:XK):Cx where
 prog:=P
 w:=w
 K:=K
 mg:=mg
 ae:=ae
 A:=A.deeper (envOfC qual scope s.heap.objs.size f cd)
 N:=N
 vI:=s
 Sw:=H
 env:=envOfC qual scope s.heap.objs.size f cd
 aq:=aq
 stack:=envOfC qual scope s.heap.objs.size f cd::aq
 ex:= []
 calm:=true
 fn:=λ_=>true
 pn:= []
 xe:=λe s'=>wpAny (model P w) (A.deeper (envOfC qual scope s.heap.objs.size f cd)) (leaving (envOfC qual scope s.heap.objs.size f cd) e) (λ_ Wk=>CX aq H s E e Wk) (λe' Wk=>CX aq H s E e' Wk) s'
theorem zj{sc:Scope}{n:Nat}{x:Str}(h:sc.names.lookup x=some .cell):∃c,(cellsFrom n sc.names []).lookup x=some c:=by
 have q:=W.cellsFrom_some sc.names n [] (.inl h)
 exact Option.isSome_iff_exists.mp q
theorem Fn{CX:G8}{P:Program}{w:World}{K:W.Frag}{mg:Str->Option Value}{ae:Heap}{N ps:List Str}{qual:Str}{scope:Scope}{f:Addr}{cd:Value}{A:Around}{aq:List Env}{s s1:Shared}{H:Hp}{E:XK}{us:List Value}{vs:List V}
 (S:ao N ps scope)(hd:A.handled=none)(e0:Bs P w K mg ae A aq s H)(hl:vs.length=ps.length)(r:Vals vs us)
 (x:InCallC s s.heap.objs.size (bindL (envOfC qual scope s.heap.objs.size f cd).kindOf (ps.zip us) λ_=>none) (cellsFrom (s.heap.objs.size+1) scope.names []) (bindC (envOfC qual scope s.heap.objs.size f cd).kindOf (ps.zip us) λ_=>none) s1):
 Inv (Bt CX P w K mg ae N qual scope f cd A aq s H E) [] (start N vs) H s1:=by
 have hpl:ps.length<=N.length:=by have:=congrArg List.length S.pre;rw[List.length_take] at this;omega
 obtain⟨h1,tk,rfl,hk⟩:=x.done
 have RG:∀b:Addr,b∉(Bt CX P w K mg ae N qual scope f cd A aq s H E).ex:=λb z=>absurd (show b∈([]:List Addr) from z) (by simp)
 refine⟨⟨e0.mod,S.kind,rfl,rfl,Nat.le_refl _,λy z c h1 h2=> ?_,λy hy=> ?_,λy c _ h=> ?_,λ_=>hd,Around.frames_deeper e0.frames,.inr ⟨rfl,rfl⟩,λb z=>absurd z (RG b),e0.bs,e0.K3,λb _ _=>RG b,λb z=>absurd z (RG b),e0.rQ,e0.OG⟩,
  rfl,e0.bare,Un.kept hk,⟨_,x.toInCall.ns,λi y v h1 h2 h3=> ?_⟩,λy c h=>⟨_,x.cell y c h⟩,e0.cW.fresh (Nat.le_refl _),λy c h=> ?_,λp hp=>absurd (show p∈([]:List (Addr×Obj)) from hp) (by simp),e0.cW.kept hk,?_⟩
 ·exact name_of_addr x.apart (PySem.mem_of_lookup h1) (PySem.mem_of_lookup h2)
 ·have hy:scope.names.lookup y=some .cell\/scope.names.lookup y=some .free:=hy
  rcases hy with hy|hy
  ·exact zj hy
  ·exact absurd rfl (S.Pn _ (PySem.mem_of_lookup hy))
 ·exact Nat.le_of_lt (x.above y c (PySem.mem_of_lookup h))
 ·have hi:i<vs.length:=by
   unfold start at h2
   by_cases hi:i<vs.length
   ·exact hi
   ·rw[List.getElem?_append_right (by simpa using hi)] at h2
    rw[List.getElem?_replicate] at h2
    split at h2<;>cases h2
  have ha:vs[i]? =some v:=by
   unfold start at h2
   rw[List.getElem?_append_left (by simpa using hi),List.getElem?_map] at h2
   cases e:vs[i]? with
   |none=>rw[e] at h2;cases h2
   |some a=>rw[e] at h2;cases h2;rfl
  obtain⟨u,hu,rv⟩:=r.get ha
  have hp:ps[i]? =some y:=by
   rw[<-S.pre,List.getElem?_take_of_lt (by omega)];exact h1
  have YJ:ps.Nodup:=by rw[<-S.pre];exact S.nd.sublist (List.take_sublist _ _)
  refine⟨u,rv,?_⟩
  rcases S.par y (List.mem_of_getElem? hp) with k|k
  ·exact .inl ⟨k,vQ YJ hp hu k⟩
  ·obtain⟨c,e⟩:=zj (n:=s.heap.objs.size+1) k
   refine .inr ⟨.inl k,c,e,?_⟩
   have q:=x.cell y c e
   rw[vR YJ hp hu (by show scope.names.lookup y≠_;rw[k];decide)] at q
   exact q
 ·exact e0.cW.fresh (Nat.le_of_lt (x.above y c (PySem.mem_of_lookup h)))
 ·unfold start
  show _=N.length
  rw[List.length_append,List.length_map,List.length_replicate]
  omega
theorem TC{CX:G8}{P:Program}{w:World}{K:W.Frag}{mg:Str->Option Value}{ae:Heap}{k:Nat}{f:Addr}{name qual:Str}{params:Arguments}{body:List Stmt}{scope:Scope}{dV kV doc pm aK ct oc:Value}{an od:Option Addr}
 {Bu:Array (Option Value)}{N ps:List Str}{sp:Sp}(lk:K.lookup f=some ⟨oc,od,.func (W.fnOf name qual params body scope dV kV doc pm an aK ct),Bu⟩)(KN:W.codeIn K aK qual=true)(S:ao N ps scope)
 (len:∀vs H Q E,sp vs H Q E->vs.length=ps.length)
 (Hz:∀(A:Around)(aq:List Env)(s:Shared)(H:Hp)(vs:List V)(Q:VK)(E:XK),dC k (A.deeper (envOfC qual scope s.heap.objs.size f aK))->sp vs H Q E->
   ∃t,Bl (Bt CX P w K mg ae N qual scope f aK A aq s H E) body t/\t { nx:=λ_ H'=>Q .non H',rt:=Q } (start N vs) H):
 bD P w K mg ae CX (k+1) f (W.fnOf name qual params body scope dV kV doc pm an aK ct) ps sp:=by
 refine⟨len,λA aq s H args us vs Q E hr e0 hb r qO=> ?_⟩
 have hl:=len _ _ _ _ qO
 have KX:K.In s.heap:=e0.mod.Rz.keeps λb o e=>(e0.bs b o e).1
 have lim:s.heap.NoLimit:=e0.mod.nolimit.keeps λb o e=>(e0.bs b o e).1
 have TF:∀y∈ps.zip us,scope.names.lookup y.1=some .local\/(scope.names.lookup y.1=some .cell/\((cellsFrom (s.heap.objs.size+1) scope.names []).lookup y.1).isSome=true):=λ⟨n,v⟩ hy=>by
  rcases S.par n (List.of_mem_zip hy).1 with q|q
  ·exact .inl q
  ·exact .inr ⟨q,W.cellsFrom_some _ _ _ (.inl q)⟩
 refine codeAny_call_function hr.depth (KX _ _ lk) rfl S.co S.gen rfl (W.codeRec_of KX KN) (hb _ _ _ _ ?_)
 refine wpAny_newFunctionEnv_cells S.kind TF λenv he s1 x=> ?_
 subst he
 refine⟨lim.keeps x.toInCall.keep,codeAny_func ?_⟩
 obtain⟨t,ht,hq⟩:=Hz A aq s H vs Q E (hr.deeper _) qO
 have I:Inv (Bt CX P w K mg ae N qual scope f aK A aq s H E) [] (start N vs) H s1:=Fn S hr.hd e0 hl r x
 refine wpAny_mono (ht [] s1 (start N vs) H _ I hq) (λfl s' hs=> ?_) λe s' hs=>hs
 have fin:∀{aO:St}{H':Hp}{v:V}{u:Value},Inv (Bt CX P w K mg ae N qual scope f aK A aq s H E) [] aO H' s'->RelV v u->Q v H'->CE aq P w H s Q u s':=
  λ{aO H' v u} J rv q=>⟨v,H',J.os,J.bare,J.ae,J.cW,rv,q⟩
 cases fl with
 |ret u=>
  obtain⟨v,aO,H',J,rv,q⟩:=hs
  exact fin J rv q
 |next=>
  obtain⟨aO,H',J,q⟩:=hs
  exact fin (v:=V.non) (u:=Value.none) J rfl q
 |brk=>
  obtain⟨_,_,_,q⟩:=hs
  exact False.elim q
 |cont=>
  obtain⟨_,_,_,q⟩:=hs
  exact False.elim q
section
variable{X:Cx}{x:Str}{p pos:Pos}{e:Expr}{es:List Expr}{t:TA}{id T:String}{r:List V->Hp->VK->Prop}
def YK(r:List V->Hp->VK->Prop)(t:TA):TE:=λσ H Q=>t σ H λvs H1=>r vs H1 Q
theorem HB(hc:j7 X (.builtin id) r)(hg:Gl X x)(hm:X.mg x=none)(hv:bootBuiltins x=some (.builtin id))(ha:PA X (e::es) t)(hn:x≠"__name__":=by decide)(tK:(x==("__debug__":Str))=false:=by decide)
 (he:starEach (e::es) X.env=(false,eval e X.env)::starEach es X.env:=by rfl)(hpl:(backTo pos (starEach es X.env)).any (·.1)=false:=by rfl):PE X (.Call (.Name x p) (e::es) [] pos) (YK r t):=by
 intro ag s σ H Q I h
 refine wpAny_Call_Name_kw (wQ I hg hm hv ?_ hn tK)
 exact PyProof.Rows.callWith_builtin1 (dJ (ha pos ag s σ H _ I h) λus s1 ⟨vs,H1,I1,r1,q1⟩=>hc ag s1 σ H1 vs us Q I1 r1 q1) he hpl
theorem Fo(hc:j7 X (.type T) r)(hg:Gl X x)(hm:X.mg x=none)(hv:bootBuiltins x=some (.type T))(ha:PA X (e::es) t)(hn:x≠"__name__":=by decide)(tK:(x==("__debug__":Str))=false:=by decide)
 (he:starEach (e::es) X.env=(false,eval e X.env)::starEach es X.env:=by rfl)(hpl:(backTo pos (starEach es X.env)).any (·.1)=false:=by rfl):PE X (.Call (.Name x p) (e::es) [] pos) (YK r t):=by
 intro ag s σ H Q I h
 refine wpAny_Call_Name_kw (wQ I hg hm hv ?_ hn tK)
 exact PyProof.Rows.callWith_type1 (dJ (ha pos ag s σ H _ I h) λus s1 ⟨vs,H1,I1,r1,q1⟩=>hc ag s1 σ H1 vs us Q I1 r1 q1) he hpl
end
end L2
namespace HT
open PySem PyProof.Rows
section
open PySem.SeqAt
open PySem.AutoSeq1 (wpAny_loadPart')
open PySem.MeetsSeq PySem.MeetsSeq2 PySem.MeetsSeq3
end
section
variable{prog:Program}{w:World}{A:Around}{E:Value->Shared->Prop}{s:Shared}
def gu(n d:Nat):Option Int->Nat
 |none=>d
 |some v=>if v<0 then(v+(n:Int)).toNat else min v.toNat n
theorem sO(n d k:Nat):gu n d (some (k:Int))=min k n:=by
 show(if (k:Int)<0 then((k:Int)+(n:Int)).toNat else min (k:Int).toNat n)=min k n
 rw[if_neg (by omega),Int.toNat_natCast]
theorem HC(n d:Nat)(hd:d<=n)(o:Option Int):gu n d o<=n:=by
 cases o with
 |none=>exact hd
 |some v=>
  show(if v<0 then(v+(n:Int)).toNat else min v.toNat n)<=n
  by_cases hv:v<0
  ·rw[if_pos hv];omega
  ·rw[if_neg hv];exact Nat.min_le_right _ _
end
end HT
namespace L2
open PySem PySem.Spec PyProof.Rows
abbrev TO:=St->Hp->(Option Int->Hp->Prop)->Prop
def PO(X:Cx)(e:Option Expr)(t:TO):Prop:=
 ∀(ag:List (Addr×Obj))(s:Shared)(σ:St)(H:Hp)(Q:Option Int->Hp->Prop),Inv X ag σ H s->t σ H Q->
  wpAny (model X.prog X.w) X.A (evalPart e X.env) (λu s'=>∃o H',Inv X ag σ H' s'/\IsPart u o/\Q o H') X.xe s
def TH(t:TE):TO:=λσ H Q=>t σ H λx H1=>∃i,x=.int i/\Q (some i) H1
section
variable{X:Cx}{e:Expr}{te:TE}{lo hi:Option Expr}{tl th:TO}{pos p2:Pos}
theorem sP(h:PE X e te):PO X (some e) (TH te):=by
 intro ag s σ H Q I hw
 rw[evalPart_some]
 refine dJ (h ag s σ H _ I hw) λu s1 ⟨x,H1,I1,r1,q1⟩=> ?_
 obtain⟨i,rfl,q⟩:=q1
 obtain⟨t,rfl⟩:=r1
 exact⟨some i,H1,I1,.int i t,q⟩
def Wl(X:Cx)(r:V->Option Int->Option Int->Hp->VK->Prop):Prop:=
 ∀(ag:List (Addr×Obj))(s:Shared)(σ:St)(H:Hp)(x:V)(v vl vu:Value)(lo hi:Option Int)(sl:Addr)(Q:VK),Inv X ag σ H s->RelV x v->s.heap.IsSliceOf sl vl vu .none->IsPart vl lo->IsPart vu hi->r x lo hi H Q->
  ∃T id,typeLookup (.type T) "__getitem__"=pure (some (.builtin id))/\s.TypeIs v T/\wpAny (model X.prog X.w) X.A (getItem v (.ref sl)) (EP X ag σ Q) X.xe s
def Z1(r:V->Option Int->Option Int->Hp->VK->Prop)(te:TE)(tl th:TO):TE:=λσ H Q=>te σ H λx H1=>tl σ H1 λl H2=>th σ H2 λu H3=>r x l u H3 Q
theorem zk{r:V->Option Int->Option Int->Hp->VK->Prop}(hr:Wl X r)(he:PE X e te)(hl:PO X lo tl)(hu:PO X hi th):PE X (.Subscript e (.Slice lo hi none p2) pos) (Z1 r te tl th):=by
 intro ag s σ H Q I h
 refine Subscript_ (dJ (he ag s σ H _ I h) λv s1 ⟨x,H1,I1,r1,q1⟩=> ?_)
 refine wpAny_Slice (dJ (hl ag s1 σ H1 _ I1 q1) λvl s2 ⟨l,H2,I2,pl,q2⟩=>dJ (hu ag s2 σ H2 _ I2 q2) λvu s3 ⟨u,H3,I3,pu,q3⟩=> ?_)
 rw[evalPart_none]
 refine wpAny_pure ?_
 have I4:Inv X ag σ H3 { s3 with heap:=s3.heap.push { cls:=.type "slice",data:=.fields #[vl,vu,.none] } }:=I3.kept (t':=s3.toks) λb ob q=>Heap.get?_push_of_some _ q
 obtain⟨T,id,hT,ht,hg⟩:=hr ag { s3 with heap:=s3.heap.push { cls:=.type "slice",data:=.fields #[vl,vu,.none] } } σ H3 x v vl vu l u s3.heap.objs.size Q I4 r1 (Heap.IsSliceOf.new ..) pl pu q3
 show wpAny (model X.prog X.w) X.A (subscriptTail e (.Slice lo hi none p2) v (.ref s3.heap.objs.size)) (EP X ag σ Q) X.xe { s3 with heap:=s3.heap.push { cls:=.type "slice",data:=.fields #[vl,vu,.none] } }
 exact tail_any (ops:= [.ref s3.heap.objs.size,v]) ht hT hg (by with_unfolding_all rfl)
def va(xs:List V)(lo hi:Option Int):List V:=(xs.drop (HT.gu xs.length 0 lo)).take (HT.gu xs.length xs.length hi - HT.gu xs.length 0 lo)
theorem zl(xs:List V)(lo hi:Option Int):(va xs lo hi).length<=xs.length:=by
 unfold va
 rw[List.length_take,List.length_drop]
 omega
end
def KQ(n:Nat)(i:Int):Option Nat:=if 0<=i then(if i<n then some i.toNat else none) else if -(n:Int)<=i then some (i+n).toNat else none
def qP{α:Type}(xs:List α)(i:Int):Option α:=(KQ xs.length i).bind λj=>xs[j]?
theorem DW{n:Nat}{i:Int}{j:Nat}(h:KQ n i=some j):seqIndex? i n=some j/\j<n/\-(n:Int)<=i/\i<n:=by
 unfold KQ at h
 by_cases h0:0<=i
 ·rw[if_pos h0] at h
  by_cases h1:i<n
  ·rw[if_pos h1] at h
   have e:i.toNat=j:=Option.some.inj h
   exact⟨by rw[seqIndex_of h0 h1,e],by omega,by omega,h1⟩
  ·rw[if_neg h1] at h;cases h
 ·rw[if_neg h0] at h
  by_cases h1: -(n:Int)<=i
  ·rw[if_pos h1] at h
   have e:(i+n).toNat=j:=Option.some.inj h
   exact⟨by rw[seqIndex_neg (by omega) h1,e],by omega,h1,by omega⟩
  ·rw[if_neg h1] at h;cases h
theorem DX{α:Type}{xs:List α}{i:Int}{v:α}(h:qP xs i=some v):∃j,seqIndex? i xs.length=some j/\xs[j]? =some v/\j<xs.length/\-(xs.length:Int)<=i/\i<xs.length:=by
 unfold qP at h
 cases e:KQ xs.length i with
 |none=>rw[e] at h;cases h
 |some j=>
  rw[e] at h
  obtain⟨h1,h2,h3,h4⟩:=DW e
  exact⟨j,h1,h,h2,h3,h4⟩
theorem cZ{α:Type}{xs:List α}{j:Nat}{v:α}(h:xs[j]? =some v):qP xs (j:Int)=some v:=by
 have hj:j<xs.length:=(List.getElem?_eq_some_iff.mp h).1
 have e:KQ xs.length (j:Int)=some j:=by
  unfold KQ
  rw[if_pos (by omega),if_pos (by omega)];simp
 unfold qP;rw[e];exact h
def wX(b:Expr):Prop:=∀o i,subscripted b false o i=operate [o,i] (getItem o i)
def Wm(X:Cx)(r:R2):Prop:=
 ∀(value slice:Expr)(ag:List (Addr×Obj))(s:Shared)(σ:St)(H:Hp)(x y:V)(v u:Value)(Q:VK),Inv X ag σ H s->RelV x v->RelV y u->r x y H Q->
  subscripted slice false v u=operate [v,u] (getItem v u)->wpAny (model X.prog X.w) X.A (subscriptTail value slice v u) (EP X ag σ Q) X.xe s
def HD(X:Cx)(id:String)(r:V->List V->Hp->VK->Prop):Prop:=
 ∀(ag:List (Addr×Obj))(s:Shared)(σ:St)(H:Hp)(x:V)(xs:List V)(v:Value)(us:List Value)(Q:VK),Inv X ag σ H s->RelV x v->Vals xs us->r x xs H Q->
  wpAny (model X.prog X.w) X.A (call (.builtin id) (v::us)) (EP X ag σ Q) X.xe s
section
variable{X:Cx}{a b:Expr}{ta tb:TE}{pos:Pos}
theorem NW{r:R2}(hr:Wm X r)(ha:PE X a ta)(hb:PE X b tb)(hs:wX b):PE X (.Subscript a b pos) (RD r ta tb):=by
 intro ag s σ H Q I h
 exact Subscript_ (K9 ha hb I h λv u s2 x y H2 I2 rx ry q=>hr a b ag s2 σ H2 x y v u Q I2 rx ry q (hs _ _))
def Wn(K:W.Frag):R2:=λx y H Q=>∃p xs i v,x=.ref p/\y=.int i/\aF K H p xs/\qP xs i=some v/\Q v H
def Wo(K:W.Frag):R2:=λx y H Q=>∃p xs i v,x=.ref p/\y=.int i/\pZ K H p xs/\qP xs i=some v/\Q v H
theorem Li:Wm X (Wn X.K):=by
 intro value slice ag s σ H x y v u Q I rx ry h hs
 obtain⟨p,xs,i,z,rfl,rfl,hq,he,q⟩:=h
 cases rx
 obtain⟨t,rfl⟩:=ry
 obtain⟨its,r,pl,hz⟩:=I.list hq
 obtain⟨j,h1,h2,h3,h4,h5⟩:=DX he
 obtain⟨w,ew,TJ⟩:=r.get h2
 have hl:=r.length
 have hn:=tI
 have fin:EP X ag σ Q w s:=⟨z,H,I,TJ,q⟩
 by_cases h0:0<=i
 ·have hj:i.toNat=j:=by
   rw[seqIndex_of h0 h5] at h1
   exact Option.some.inj h1
  exact item_listR pl.isList h0 (by omega) (by rw[hj];simpa using ew) fin hs
 ·have hj:(i+(its.toArray.size:Int)).toNat=j:=by
   rw[seqIndex_neg (by omega) h4] at h1
   rw[List.size_toArray,<-hl]
   exact Option.some.inj h1
  exact subscriptTail_builtinR (x:=w) pl.isList.typeIs slot_list_getitem.lookup
   (wpAny_getItem_list_neg (Q:=λr s'=>r=w/\EP X ag σ Q r s') pl.isList (by omega) (by rw[List.size_toArray]<;>omega) (by omega) (by rw[hj];simpa using ew) ⟨rfl,fin⟩) hs
theorem Pp:Wm X (Wo X.K):=by
 intro value slice ag s σ H x y v u Q I rx ry h hs
 obtain⟨p,xs,i,z,rfl,rfl,hq,he,q⟩:=h
 cases rx
 obtain⟨t,rfl⟩:=ry
 obtain⟨its,r,pl,hz⟩:=I.tuple hq
 obtain⟨j,h1,h2,h3,h4,h5⟩:=DX he
 obtain⟨w,ew,TJ⟩:=r.get h2
 have hl:=r.length
 have hn:=tI
 have fin:EP X ag σ Q w s:=⟨z,H,I,TJ,q⟩
 exact subscriptTail_builtinR (x:=w) pl.typeIs slot_tuple_getitem.lookup
  (getItem_tuple (j:=j) (Q:=λr s'=>r=w/\EP X ag σ Q r s') pl (by omega) (by omega) (by rw[List.size_toArray,<-hl];exact h1) (by simpa using ew) ⟨rfl,fin⟩) hs
theorem Bv(its:List Value)(n j:Nat)(u:Value):Obj.mapSeq (·.setIfInBounds j u) { cls:=.type "list",data:=.seq its.toArray n }= { cls:=.type "list",data:=.seq (its.set j u).toArray n }:=by
 simp[Obj.mapSeq]
theorem Inv.lst{ag:List (Addr×Obj)}{σ:St}{H:Hp}{s:Shared}{p:Addr}{xs:List V}(I:Inv X ag σ H s)(h:H p=some (.lst xs)):
 ∃(its:List Value)(n:Nat),Vals xs its/\s.heap.get? p=some { cls:=.type "list",data:=.seq its.toArray n }/\xs.length<=sizeLine:=by
 obtain⟨z,its,n,r,e⟩:=I.cW p _ h
 exact⟨its,n,r,e,z⟩
theorem Inv.Pr{ag:List (Addr×Obj)}{σ:St}{H:Hp}{s:Shared}{p:Addr}{xs ys:List V}{its its':List Value}{n n':Nat}{f:Obj->Obj}(I:Inv X ag σ H s)(h:H p=some (.lst xs))
 (ho:s.heap.get? p=some { cls:=.type "list",data:=.seq its.toArray n })(hf:f { cls:=.type "list",data:=.seq its.toArray n }= { cls:=.type "list",data:=.seq its'.toArray n' })(r:Vals ys its')(hz:ys.length<=sizeLine)(t:Nat):
 Inv X ag σ (upd H p (.lst ys)) { s with heap:=s.heap.update p f,toks:=t }:=by
 have e:(s.heap.update p f).get? p=some { cls:=.type "list",data:=.seq its'.toArray n' }:=by
  rw[Heap.get?_update_self f ho (by rw[hf]<;>rfl),hf]
 refine I.write (x:=p) (e:=p) (by rw[h];trivial) (.inl rfl) (λb u hb q=>(Heap.get?_update_other _ _ (Ne.symm hb)).trans q) ⟨_,e⟩ ?_
 exact⟨hz,its',n',r,e⟩
def TK:V->V->V->Hp->(Hp->Prop)->Prop:=λo i v H Q=>∃p xs k j,o=.ref p/\i=.int k/\H p=some (.lst xs)/\KQ xs.length k=some j/\Q (upd H p (.lst (xs.set j v)))
theorem set_list:Ta X TK:=by
 intro ag s σ H o i v ov iv u Q I ro ri rv h
 obtain⟨p,xs,k,j,rfl,rfl,hp,hj,q⟩:=h
 cases ro
 obtain⟨t,rfl⟩:=ri
 obtain⟨its,n,r,ho,hz⟩:=I.lst hp
 obtain⟨h1,h2,h3,h4⟩:=DW hj
 have hl:=r.length
 have hn:=tI
 have I':Inv X ag σ (upd H p (.lst (xs.set j v))) { s with heap:=s.heap.update p (Obj.mapSeq (·.setIfInBounds j u)) }:=
  I.Pr hp ho (Bv its n j u) (r.set rv j) (by rw[List.length_set];exact hz) s.toks
 by_cases h0:0<=k
 ·have hk:k.toNat=j:=by
   rw[seqIndex_of h0 h4] at h1
   exact Option.some.inj h1
  exact W.ki_setAt ho h0 (by omega) (by rw[List.size_toArray,<-hl];exact h4) (by rw[hk];exact⟨_,I',q⟩)
 ·have hk:(k+(its.toArray.size:Int)).toNat=j:=by
   rw[seqIndex_neg (by omega) h3] at h1
   rw[List.size_toArray,<-hl]
   exact Option.some.inj h1
  exact W.ki_setBack ho (by omega) (by rw[List.size_toArray,<-hl];exact h3) (by omega) (by rw[hk];exact⟨_,I',q⟩)
theorem wY(lo hi:Option Int)(n:Nat):(sliceBounds lo hi none n).1=((HT.gu n 0 lo:Nat):Int)/\(sliceBounds lo hi none n).2.1=((HT.gu n n hi:Nat):Int)/\(sliceBounds lo hi none n).2.2=1:=by
 refine⟨?_,?_,rfl⟩
 ·cases lo with
  |none=>simp[sliceBounds,HT.gu]
  |some i=>
   simp only[sliceBounds,HT.gu,Option.getD_none,show(1:Int) > 0 by decide,if_true]
   by_cases h:i<0
   ·simp only[h,if_true]<;>omega
   ·simp only[h,if_false]<;>omega
 ·cases hi with
  |none=>simp[sliceBounds,HT.gu]
  |some i=>
   simp only[sliceBounds,HT.gu,Option.getD_none,show(1:Int) > 0 by decide,if_true]
   by_cases h:i<0
   ·simp only[h,if_true]<;>omega
   ·simp only[h,if_false]<;>omega
theorem vb(its:List Value)(lo hi:Option Int):slicePick its.toArray lo hi none=((its.drop (HT.gu its.length 0 lo)).take (HT.gu its.length its.length hi - HT.gu its.length 0 lo)).toArray:=by
 obtain⟨h1,h2,h3⟩:=wY lo hi its.toArray.size
 unfold slicePick
 rw[h1,h2,h3]
 simp only[sliceRange_one,pick_run,List.size_toArray]<;>rfl
def Wq(K:W.Frag):V->Option Int->Option Int->Hp->VK->Prop:=λx lo hi H Q=>∃a xs,x=.ref a/\aF K H a xs/\∀p,H p=none->Q (.ref p) (upd H p (.lst (va xs lo hi)))
theorem Lj:Wl X (Wq X.K):=by
 intro ag s σ H x v vl vu lo hi sl Q I rx hs pl pu h
 obtain⟨a,xs,rfl,hx,q⟩:=h
 cases rx
 obtain⟨its,r,ht,hz⟩:=I.list hx
 have hlen:=r.length
 refine⟨"list",_,slot_list_getitem.lookup,ht.isList.typeIs,?_⟩
 refine wpAny_getItem_list_slice ht.isList hs pl pu .none (by simp) ?_ (by rw[List.size_toArray]<;>omega)
 rw[vb,<-hlen]
 refine⟨.ref s.heap.objs.size,_,I.laid (t':=s.toks) (o:=.lst (va xs lo hi)) (λb ob q=>Heap.get?_push_of_some _ q) (Nat.le_refl _) ?_,rfl,q _ (I.cW.fresh (Nat.le_refl _))⟩
 exact⟨Nat.le_trans (zl xs lo hi) hz,_,0,(r.drop (HT.gu xs.length 0 lo)).take (HT.gu xs.length xs.length hi - HT.gu xs.length 0 lo),Heap.get?_push_size _ rfl⟩
def eG:V->Bool
 | .non=>true
 | .bl _=>true
 | .int _=>true
 | .str _=>true
 |_=>false
def G9:V->V->Bool
 | .non,.non=>true
 | .bl a,.bl b=>a==b
 | .bl a,.int b=>(if a then 1 else 0)==b
 | .int a,.bl b=>a==(if b then 1 else 0)
 | .int a,.int b=>a==b
 | .str a,.str b=>a==b
 |_,_=>false
theorem Pt{A:Around}{s:Shared}{y x:V}{u v:Value}(ry:RelV y u)(rx:RelV x v)(fy:eG y=true)(fx:eG x=true):SeqAt.EqAt A s u v (G9 y x):=by
 cases y with
 |non=>
  cases ry
  cases x with
  |non=>cases rx;exact SeqAt.EqAt.same _
  |bl b=>cases rx;exact SeqAt.EqAt.none_bool b
  |int b=>obtain⟨t,rfl⟩:=rx;exact SeqAt.EqAt.none_int b t
  |str b=>obtain⟨t,rfl⟩:=rx;exact SeqAt.EqAt.none_str b t
  |_=>exact absurd (show false=true from fx) Bool.false_ne_true
 |bl a=>
  cases ry
  cases x with
  |non=>cases rx;exact SeqAt.EqAt.bool_none a
  |bl b=>cases rx;exact SeqAt.EqAt.bool_bool a b
  |int b=>obtain⟨t,rfl⟩:=rx;exact SeqAt.EqAt.bool_int a b t
  |str b=>obtain⟨t,rfl⟩:=rx;exact SeqAt.EqAt.bool_str a b t
  |_=>exact absurd (show false=true from fx) Bool.false_ne_true
 |int a=>
  obtain⟨t',rfl⟩:=ry
  cases x with
  |non=>cases rx;exact SeqAt.EqAt.int_none a t'
  |bl b=>cases rx;exact SeqAt.EqAt.int_bool a t' b
  |int b=>obtain⟨t,rfl⟩:=rx;exact SeqAt.EqAt.int_int a t' b t
  |str b=>obtain⟨t,rfl⟩:=rx;exact SeqAt.EqAt.int_str a t' b t
  |_=>exact absurd (show false=true from fx) Bool.false_ne_true
 |str a=>
  obtain⟨t',rfl⟩:=ry
  cases x with
  |non=>cases rx;exact SeqAt.EqAt.str_none a t'
  |bl b=>cases rx;exact SeqAt.EqAt.str_bool a t' b
  |int b=>obtain⟨t,rfl⟩:=rx;exact SeqAt.EqAt.str_int a t' b t
  |str b=>obtain⟨t,rfl⟩:=rx;exact SeqAt.EqAt.str_str a t' b t
  |_=>exact absurd (show false=true from fx) Bool.false_ne_true
 |_=>exact absurd (show false=true from fy) Bool.false_ne_true
def Bf(x:V)(u:Value):Bool:=match u with
 | .none=>G9 .non x
 | .bool b=>G9 (.bl b) x
 | .int i _=>G9 (.int i) x
 | .str z _=>G9 (.str z) x
 |_=>false
theorem wZ{x y:V}{u:Value}(r:RelV y u)(f:eG y=true):Bf x u=G9 y x:=by
 cases y with
 |non=>cases r;rfl
 |bl b=>cases r;rfl
 |int i=>obtain⟨t,rfl⟩:=r;rfl
 |str z=>obtain⟨t,rfl⟩:=r;rfl
 |_=>exact absurd (show false=true from f) Bool.false_ne_true
theorem ou{x:V}:∀{xs:List V}{us:List Value},Vals xs us->xs.all eG=true->us.any (Bf x)=xs.any λy=>G9 y x
 |_,_,.nil,_=>rfl
 |y::xs,u::us,.cons r t,f=>by
  rw[List.all_cons,Bool.and_eq_true] at f
  rw[List.any_cons,List.any_cons,wZ r f.1,ou t f.2]
theorem iT{A:Around}{s:Shared}{x:V}{v:Value}(rx:RelV x v)(fx:eG x=true):∀{xs:List V}{us:List Value},Vals xs us->xs.all eG=true->∀u∈us,SeqAt.EqAt A s u v (Bf x u)
 |_,_,.nil,_=>λu hu=>by cases hu
 |y::xs,u::us,.cons r t,f=>λu' hu=>by
  rw[List.all_cons,Bool.and_eq_true] at f
  rcases List.mem_cons.mp hu with rfl|hu
  ·rw[wZ r f.1];exact Pt r rx f.1 fx
  ·exact iT rx fx t f.2 u' hu
def HF(x:V)(xs:List V):Bool:=xs.any λy=>G9 y x
def YL(K:W.Frag)(neg:Bool):R2:=λx y H Q=>∃p xs,y=.ref p/\(aF K H p xs\/pZ K H p xs)/\eG x=true/\xs.all eG=true/\Q (.bl (if neg then !HF x xs else HF x xs)) H
theorem p7:oq X (compareOp .In) (YL X.K false):=by
 intro ag s σ H x y v u Q I rx ry h
 obtain⟨p,xs,rfl,hq,fx,fs,q⟩:=h
 cases ry
 rcases hq with hq|hq
 ·obtain⟨its,r,pl,hz⟩:=I.list hq
  refine SeqAt.in_listAt (Bf x) pl.isList (λw hw=>iT rx fx r fs w (by simpa using hw)) ⟨.bl _,H,I,rfl,?_⟩
  rw[show its.toArray.any (Bf x)=its.any (Bf x) by simp,ou r fs]
  exact q
 ·obtain⟨its,r,pl,hz⟩:=I.tuple hq
  refine SeqAt.in_tupleAt (Bf x) pl (λw hw=>iT rx fx r fs w (by simpa using hw)) ⟨.bl _,H,I,rfl,?_⟩
  rw[show its.toArray.any (Bf x)=its.any (Bf x) by simp,ou r fs]
  exact q
theorem oA:oq X (compareOp .NotIn) (YL X.K true):=by
 intro ag s σ H x y v u Q I rx ry h
 obtain⟨p,xs,rfl,hq,fx,fs,q⟩:=h
 cases ry
 rcases hq with hq|hq
 ·obtain⟨its,r,pl,hz⟩:=I.list hq
  refine SeqAt.notIn_listAt (Bf x) pl.isList (λw hw=>iT rx fx r fs w (by simpa using hw)) ⟨.bl _,H,I,rfl,?_⟩
  rw[show its.toArray.any (Bf x)=its.any (Bf x) by simp,ou r fs]
  exact q
 ·obtain⟨its,r,pl,hz⟩:=I.tuple hq
  refine SeqAt.notIn_tupleAt (Bf x) pl (λw hw=>iT rx fx r fs w (by simpa using hw)) ⟨.bl _,H,I,rfl,?_⟩
  rw[show its.toArray.any (Bf x)=its.any (Bf x) by simp,ou r fs]
  exact q
theorem xa:j7 X (.builtin "len") (λxs H Q=>∃p ys,xs= [.ref p]/\(aF X.K H p ys\/pZ X.K H p ys)/\Q (.int ys.length) H):=by
 intro ag s σ H xs us Q I r h
 obtain⟨p,ys,rfl,hq,q⟩:=h
 obtain⟨u,rfl,rx⟩:=vals1 r
 cases rx
 have hn:=tI
 rcases hq with hq|hq
 ·obtain⟨its,r',pl,hz⟩:=I.list hq
  have hlen:=r'.length
  exact Calls.call_len_list pl.isList (by simp only[List.size_toArray]<;>omega) ⟨.int ys.length,H,I.tok _,⟨s.toks+1,by rw[List.size_toArray,hlen]⟩,q⟩
 ·obtain⟨its,r',pl,hz⟩:=I.tuple hq
  have hlen:=r'.length
  exact len_tuple pl (by simp only[List.size_toArray]<;>omega) ⟨.int ys.length,H,I.tok _,⟨s.toks+1,by rw[List.size_toArray,hlen]⟩,q⟩
theorem xc:j7 X (.builtin "len") (λxs H Q=>∃z,xs= [.str z]/\z.length<=sizeLine/\Q (.int z.length) H):=by
 intro ag s σ H xs us Q I r h
 obtain⟨z,rfl,hz,q⟩:=h
 obtain⟨u,rfl,t,rfl⟩:=vals1 r
 have hn:=tI
 exact len_str (by omega) ⟨.int z.length,H,I.tok _,⟨_,rfl⟩,q⟩
def Wr(K:W.Frag)(T:String)(x:V)(H:Hp):Prop:=match x with
 | .str _=>T="str"
 | .int _=>T="int"
 | .ref p=>(T="list"/\∃xs,aF K H p xs)\/(T="tuple"/\∃o,K.lookup p=some o/\o.cls=.type "tuple"/\o.dict=none)\/
    (T="dict"/\((∃wL,H p=some (.dK wL))\/∃wL,H p=some (.dT wL)))\/(T="set"/\∃S n,H p=some (.set S n))
 |_=>False
theorem HG{ag:List (Addr×Obj)}{σ:St}{H:Hp}{s:Shared}{T:String}{x:V}{v:Value}(I:Inv X ag σ H s)(r:RelV x v)(ty:Wr X.K T x H):
 s.TypeIs v T/\∀a,v=.ref a->∃ob,s.heap.get? a=some ob/\ob.dict=none:=by
 cases x with
 |str z=>
  obtain⟨t,rfl⟩:=r
  cases(show T="str" from ty)
  exact⟨typeIs_str s z t,λ_ e=>nomatch e⟩
 |int i=>
  obtain⟨t,rfl⟩:=r
  cases(show T="int" from ty)
  exact⟨typeIs_int s i t,λ_ e=>nomatch e⟩
 |ref p=>
  cases r
  rcases ty with⟨rfl,xs,hq⟩|⟨rfl,o,hk,hc,hd⟩|⟨rfl,hk⟩|⟨rfl,S,n,hk⟩
  ·obtain⟨its,_,pl,_⟩:=I.list hq
   refine⟨pl.isList.typeIs,λa e=> ?_⟩
   cases e
   obtain⟨o,n,e,c,hd,_⟩:=pl
   exact⟨o,e,hd⟩
  ·refine⟨⟨o,I.E8 p o hk,hc⟩,λa e=> ?_⟩
   cases e
   exact⟨o,I.E8 _ o hk,hd⟩
  ·have z:∃o,s.heap.get? p=some o/\o.ExactDict:=by
    rcases hk with⟨wL,hk⟩|⟨wL,hk⟩
    ·obtain⟨_,_,_,_,o,_,_,e,ex,_⟩:=I.cW p _ hk
     exact⟨o,e,ex⟩
    ·obtain⟨_,_,_,_,o,_,_,e,ex,_⟩:=I.cW p _ hk
     exact⟨o,e,ex⟩
   obtain⟨o,e,ex⟩:=z
   refine⟨⟨o,e,ex.1⟩,λa e2=> ?_⟩
   cases e2
   exact⟨o,e,ex.2.1⟩
  ·obtain⟨o,_,_,_,e,ex,_⟩:=I.cW p _ hk
   refine⟨⟨o,e,ex.1⟩,λa e2=> ?_⟩
   cases e2
   exact⟨o,e,ex.2.1⟩
 |_=>exact False.elim ty
def Ws(K:W.Frag)(T:String)(r:V->List V->Hp->VK->Prop)(to:TE):TE:=λσ H Q=>to σ H λx H1=>Wr K T x H1/\r x [] H1 Q
def Z2(K:W.Frag)(T:String)(r:V->List V->Hp->VK->Prop)(to:TE)(t:TA):TE:=λσ H Q=>to σ H λx H1=>Wr K T x H1/\t σ H1 λxs H2=>r x xs H2 Q
variable{o e:Expr}{es:List Expr}{to:TE}{t:TA}{name:Str}{apos tL:Pos}{T id:String}{r:V->List V->Hp->VK->Prop}
theorem Pu(pa:PlainAttrs T)(slot:Slot T name id)(NX:typeOf (.builtin id)=pure (.type "method_descriptor"))(hm:HD X id r)(ho:PE X o to)
 (cC:attributeBase o name X.env (eval o X.env)=eval o X.env:=by rfl)(hline:(apos.endLine==tL.line)=true:=by rfl):PE X (.Call (.Attribute o name apos) [] [] tL) (Ws X.K T r to):=by
 intro ag s σ H Q I h
 refine wpAny_Call_method0_late cC hline (dJ (ho ag s σ H _ I h) λv s1 ⟨x,H1,I1,r1,ty,q1⟩=> ?_)
 obtain⟨h1,h2⟩:=HG I1 r1 ty
 exact⟨T,id,pa,slot,NX,h1,h2,Calls.callWith_builtin rfl (PySem.evalArgs_none (hm ag s1 σ H1 x [] v [] Q I1 r1 .nil q1))⟩
theorem zm(pa:PlainAttrs T)(slot:Slot T name id)(NX:typeOf (.builtin id)=pure (.type "method_descriptor"))(hm:HD X id r)(ho:PE X o to)(ha:PA X (e::es) t)
 (cC:attributeBase o name X.env (eval o X.env)=eval o X.env:=by rfl)
 (nE:((backTo tL (starEach (e::es) X.env)).all (λx=> !x.1)&&(backToKw tL (keywordEach [] X.env)).all (λx=>x.1.isSome)
   &&decide ((e::es).length+([]:List Keyword).length+(if ([]:List Keyword).isEmpty then 0 else 1)<30))=true:=by rfl)
 (hline:(apos.endLine==tL.line)=true:=by rfl)(hs:starEach (e::es) X.env=(false,eval e X.env)::starEach es X.env:=by rfl)(Pw:(backTo tL (starEach es X.env)).any (·.1)=false:=by rfl):
 PE X (.Call (.Attribute o name apos) (e::es) [] tL) (Z2 X.K T r to t):=by
 intro ag s σ H Q I h
 refine wpAny_Call_method_late cC nE hline rfl (dJ (ho ag s σ H _ I h) λv s1 ⟨x,H1,I1,r1,ty,q1⟩=> ?_)
 obtain⟨h1,h2⟩:=HG I1 r1 ty
 refine⟨T,id,pa,slot,NX,h1,h2,?_⟩
 have hA:=ha tL ag s1 σ H1 _ I1 q1
 rw[hs] at hA ⊢
 refine Calls.callWith_builtin (by show(false||(backTo tL (starEach es X.env)).any (·.1))=false;rw[Pw]<;>rfl) (Calls.evalArgs_plain ?_)
 exact dJ hA λus s2 ⟨vs,H2,I2,r2,q2⟩=>hm ag s2 σ H2 x vs v us Q I2 r1 r2 q2
end
def Ve(X:Cx)(id:String)(r:V->List V->Hp->VK->Prop):Prop:=
 ∀(ag:List (Addr×Obj))(s:Shared)(σ:St)(H:Hp)(x:V)(xs:List V)(v:Value)(us:List Value)(Q:VK),Inv X ag σ H s->RelV x v->Vals xs us->r x xs H Q->
  wpAny (model X.prog X.w) X.A (call (.builtin id) (v::us)) (EP X ag σ Q) X.xe s
theorem Vals.one:∀{x:V}{us:List Value},Vals [x] us->∃u,us= [u]/\RelV x u
 |_,_,.cons r .nil=>⟨_,rfl,r⟩
theorem Vals.zero:∀{us:List Value},Vals [] us->us= []
 |_,.nil=>rfl
theorem Vals.dropLast{xs:List V}{us:List Value}(h:Vals xs us):Vals xs.dropLast us.dropLast:=by
 induction h with
 |nil=>exact .nil
 |cons r t ih=>
  cases t with
  |nil=>exact .nil
  |cons q t'=>exact .cons r ih
theorem Vals.eraseIdx:∀{xs:List V}{us:List Value}(i:Nat),Vals xs us->Vals (xs.eraseIdx i) (us.eraseIdx i)
 |_,_,_,.nil=>.nil
 |_,_,0,.cons _ t=>t
 |_,_,i+1,.cons r t=>.cons r (Vals.eraseIdx i t)
theorem Vals.rep{xs:List V}{us:List Value}(h:Vals xs us):∀k:Nat,Vals (List.replicate k xs).flatten (List.replicate k us).flatten
 | 0=>.nil
 |k+1=>by
  rw[List.replicate_succ,List.replicate_succ,List.flatten_cons,List.flatten_cons]
  exact Vals.append h (Vals.rep h k)
theorem Bw{α:Type}(l:List α):l.eraseIdx (l.length - 1)=l.dropLast:=by
 induction l with
 |nil=>rfl
 |cons a r ih=>
  cases r with
  |nil=>rfl
  |cons b r=>
   have e:(a::b::r).length - 1=((b::r).length - 1)+1:=by
    have h1:(a::b::r).length=r.length+2:=rfl
    have h2:(b::r).length=r.length+1:=rfl
    omega
   rw[e,List.eraseIdx_cons_succ,ih]
   all_goals rfl
theorem vS{α:Type}:∀(l:List α)(i:Nat),(l.eraseIdx i).length<=l.length
 | [],_=>Nat.le_refl _
 |_::_,0=>Nat.le_succ _
 |_::r,i+1=>Nat.succ_le_succ (vS r i)
theorem foldl_rep(its:List Value):∀(k:Nat)(acc:List Value),
 List.foldl (λx1 x2=>x1++x2) acc.toArray (List.replicate k its.toArray)=(acc++(List.replicate k its).flatten).toArray
 | 0,acc=>by simp
 |k+1,acc=>by
  have e:acc.toArray++its.toArray=(acc++its).toArray:=by simp
  have e2:(acc++its)++(List.replicate k its).flatten=acc++(List.replicate (k+1) its).flatten:=by
   rw[List.replicate_succ,List.flatten_cons,List.append_assoc]
  rw[<-e2,<-foldl_rep its k (acc++its),<-e,List.replicate_succ,List.foldl_cons]
section
variable{X:Cx}{ag:List (Addr×Obj)}{σ:St}{H:Hp}{s:Shared}{l b:Addr}{xs ys zs:List V}
theorem Inv.Lk{its its':List Value}{n:Nat}{f:Array Value->Array Value}{t':Nat}(I:Inv X ag σ H s)(hH:H l=some (.lst xs))
 (e:s.heap.get? l=some { cls:=.type "list",data:=.seq its.toArray n })(hf:f its.toArray=its'.toArray)(hv:Vals ys its')(hz:ys.length<=sizeLine):
 Inv X ag σ (upd H l (.lst ys)) { s with heap:=s.heap.update l (Obj.mapSeq f),toks:=t' }:=by
 have q:=PySem.IsL.update e f
 rw[hf] at q
 refine I.write (x:=l) (e:=l) (by rw[hH];exact trivial) (.inl rfl) (λb' u hb hu=>(Heap.get?_update_other s.heap (Obj.mapSeq f) (Ne.symm hb)).trans hu) ⟨_,q⟩ ?_
 exact⟨hz,its',_,hv,q⟩
theorem Inv.TN{its:List Value}{t':Nat}(I:Inv X ag σ H s)(hv:Vals ys its)(hz:ys.length<=sizeLine):
 Inv X ag σ (upd H s.heap.objs.size (.lst ys)) { s with heap:=s.heap.push { cls:=.type "list",data:=.seq its.toArray },toks:=t' }:=
 I.laid (λ_ _ q=>Heap.get?_push_of_some _ q) (Nat.le_refl _) ⟨hz,its,0,hv,Heap.get?_push_size _ rfl⟩
theorem Inv.fresh(I:Inv X ag σ H s):H s.heap.objs.size=none:=I.cW.fresh (Nat.le_refl _)
theorem Inv.zo(I:Inv X ag σ H s)(hH:H l=some (.lst xs)):xs.length<=sizeLine/\∃(its:List Value)(n:Nat),Vals xs its/\xs.length=its.length/\s.heap.get? l=some { cls:=.type "list",data:=.seq its.toArray n }:=by
 obtain⟨z,its,n,r,e⟩:=I.cW l _ hH
 exact⟨z,its,n,r,r.length,e⟩
theorem zp{n:Nat}(h:n<=sizeLine):Builtin.List.listTooLong n=false:=by
 unfold Builtin.List.listTooLong
 exact decide_eq_false (by omega)
end
section
variable{X:Cx}
def Ln:V->List V->Hp->VK->Prop:=λx vs H Q=>∃l xs y,x=.ref l/\vs= [y]/\H l=some (.lst xs)/\xs.length<sizeLine/\Q .non (upd H l (.lst (xs++ [y])))
theorem Fp:Ve X "list.append" Ln:=by
 intro ag s σ H x vs v us Q I rx rv h
 obtain⟨l,xs,y,rfl,rfl,hH,hz,q⟩:=h
 cases rx
 obtain⟨u,rfl,ru⟩:=rv.one
 obtain⟨z,its,n,r,hl,e⟩:=I.zo hH
 refine call_meets F.slot_list_append ⟨_,e,rfl⟩ F.entry_list_append (F.args_list_append_2 _ _) (PySem.list_append l its.toArray n u (by rw[List.size_toArray];omega)) ⟨e,?_⟩
 refine⟨.non,_,I.Lk (its':=its++ [u]) hH e (by simp) (r.append (.cons ru .nil)) ?_,rfl,q⟩
 rw[List.length_append,List.length_singleton]
 omega
def Lp:V->List V->Hp->VK->Prop:=λx vs H Q=>∃l b xs zs,x=.ref l/\vs= [.ref b]/\H l=some (.lst xs)/\H b=some (.lst zs)/\xs.length+zs.length<=sizeLine/\Q .non (upd H l (.lst (xs++zs)))
theorem Fq:Ve X "list.extend" Lp:=by
 intro ag s σ H x vs v us Q I rx rv h
 obtain⟨l,b,xs,zs,rfl,rfl,hH,hB,hz,q⟩:=h
 cases rx
 obtain⟨u,rfl,ru⟩:=rv.one
 cases ru
 obtain⟨z,its,n,r,hl,e⟩:=I.zo hH
 obtain⟨z2,Bx,n2,r2,Lq,e2⟩:=I.zo hB
 have hsz:its.toArray.size+Bx.toArray.size<=sizeLine:=by rw[List.size_toArray,List.size_toArray];omega
 have HJ:¬(!its.toArray.isEmpty&&Builtin.List.listTooLong (its.toArray.size+Bx.toArray.size))=true:=by
  rw[zp hsz,Bool.and_false]
  exact Bool.false_ne_true
 refine call_meets F.slot_list_extend ⟨_,e,rfl⟩ F.entry_list_extend (F.args_list_extend_2 _ _)
  (AutoSeq1.list_extend_list_list_0 l its.toArray n b Bx.toArray n2 HJ (by rw[List.size_toArray];omega) (by omega)) ⟨e,e2,?_⟩
 refine⟨.non,_,I.Lk (its':=its++Bx) hH e (by simp) (r.append r2) ?_,rfl,q⟩
 rw[List.length_append]
 omega
def Wt:V->List V->Hp->VK->Prop:=λx vs H Q=>∃l xs y,x=.ref l/\vs= []/\H l=some (.lst xs)/\xs[xs.length - 1]? =some y/\Q y (upd H l (.lst xs.dropLast))
theorem Px:Ve X "list.pop" Wt:=by
 intro ag s σ H x vs v us Q I rx rv h
 obtain⟨l,xs,y,rfl,rfl,hH,hy,q⟩:=h
 cases rx
 have Z3:=rv.zero
 subst Z3
 obtain⟨z,its,n,r,hl,e⟩:=I.zo hH
 obtain⟨u,hu,ru⟩:=r.get hy
 have pY:its.toArray[its.toArray.size - 1]? =some u:=by
  show its.toArray[its.length - 1]? =some u
  rw[<-Array.getElem?_toList,<-hl]
  exact hu
 refine call_meets F.slot_list_pop ⟨_,e,rfl⟩ F.entry_list_pop (F.args_list_pop_1 _) (MeetsSeq.list_pop_last l its.toArray n u pY (by rw[List.size_toArray];omega)) ⟨e,?_⟩
 refine⟨y,_,I.Lk (its':=its.dropLast) hH e ?_ r.dropLast ?_,ru,q⟩
 ·show its.toArray.eraseIdxIfInBounds (its.toArray.size - 1)=its.dropLast.toArray
  rw[List.size_toArray,List.eraseIdxIfInBounds_toArray,Bw]
 ·rw[List.length_dropLast]
  omega
def Wu:R2:=λx y H Q=>∃l b xs zs,x=.ref l/\y=.ref b/\H l=some (.lst xs)/\H b=some (.lst zs)/\xs.length+zs.length<=sizeLine/\∀p,H p=none->Q (.ref p) (upd H p (.lst (xs++zs)))
theorem HK:oq X (binaryOp .Add) Wu:=by
 intro ag s σ H x y v u Q I rx ry h
 obtain⟨l,b,xs,zs,rfl,rfl,hH,hB,hz,q⟩:=h
 cases rx
 cases ry
 obtain⟨z,its,n,r,hl,e⟩:=I.zo hH
 obtain⟨z2,Bx,n2,r2,Lq,e2⟩:=I.zo hB
 refine PySem.P.add_list e e2 ?_ (by rw[List.size_toArray,List.size_toArray];omega)
 have ea:its.toArray++Bx.toArray=(its++Bx).toArray:=by simp
 rw[ea]
 exact⟨.ref _,_,I.TN (t':=s.toks) (r.append r2) (by rw[List.length_append];omega),rfl,q _ I.fresh⟩
def Wv:R2:=λx y H Q=>∃l k xs,x=.ref l/\y=.int k/\H l=some (.lst xs)/\-(2 ^ 63)<=k/\k<2 ^ 63/\xs.length * k.toNat<=sizeLine/\
 ∀p,H p=none->Q (.ref p) (upd H p (.lst (List.replicate k.toNat xs).flatten))
theorem len_rep{α:Type}(xs:List α)(k:Nat):(List.replicate k xs).flatten.length=k * xs.length:=by
 induction k with
 |zero=>simp
 |succ k ih=>rw[List.replicate_succ,List.flatten_cons,List.length_append,ih,Nat.succ_mul,Nat.add_comm]
theorem Py:oq X (binaryOp .Mult) Wv:=by
 intro ag s σ H x y v u Q I rx ry h
 obtain⟨l,k,xs,rfl,rfl,hH,h1,h2,hz,q⟩:=h
 cases rx
 obtain⟨t,rfl⟩:=ry
 obtain⟨z,its,n,r,hl,e⟩:=I.zo hH
 have hlen:its.toArray.size * k.toNat<=sizeLine:=by rw[List.size_toArray,<-hl];exact hz
 have Ww:¬its.toArray.size * k.toNat > (2 ^ 63 - 1) / 8:=by
  have:(sizeLine:Nat)<=(2 ^ 63 - 1) / 8:=by decide
  omega
 have Wx:¬(!Builtin.List.listFitsIndex k)=true:=by
  rw[fitsIndex_both h1 h2]
  exact Bool.false_ne_true
 have HJ:¬Builtin.List.listTooLong (its.toArray.size * k.toNat)=true:=by
  rw[zp hlen]
  exact Bool.false_ne_true
 have Wy:List.foldl (λx1 x2=>x1++x2) #[] (List.replicate (if its.toArray.isEmpty=true then 0 else k.toNat) its.toArray)=(List.replicate k.toNat its).flatten.toArray:=by
  have f0:∀m:Nat,List.foldl (λx1 x2=>x1++x2) #[] (List.replicate m its.toArray)=(List.replicate m its).flatten.toArray:=λm=>by
   have:=foldl_rep its m []
   rw[List.nil_append] at this
   exact this
  rw[f0]
  cases its with
  |nil=>simp
  |cons a r'=>rw[if_neg (by simp)]
 refine wpAny_binaryOp_repeat_ref (T:="list") (U:="int") (by decide) ⟨_,e,rfl⟩ (λs'=>typeIs_int s' k t) noFill_list_mul F.fills_int_mul F.slot_int_rmul repeat_list F.slot_int_index.lookup
  (call_meets F.slot_int_rmul (typeIs_int s k t) F.entry_int_rmul (F.args_int_rmul_2 _ _) (int___rmul___int_list k t l its.toArray n)
    ⟨e,rfl,⟨_,e,rfl⟩,call_meets F.slot_list_mul ⟨_,e,rfl⟩ F.entry_list_mul (F.args_list_mul_2 _ _) (AutoListH.list___mul___list_int_3 l its.toArray n k t Wx Ww HJ) ⟨e,?_⟩⟩)
 rw[Wy]
 exact⟨.ref _,_,I.TN (t':=s.toks) (r.rep k.toNat) (by rw[len_rep,Nat.mul_comm];exact hz),rfl,q _ I.fresh⟩
end
section
variable{prog:Program}{w:World}{A:Around}{E:Value->Shared->Prop}{s:Shared}
end
section
variable{X:Cx}
end
theorem Vals.ints:∀{ns:List Int}{us:List Value},Vals (ns.map V.int) us->IntsAre us ns
 | [],us,h=>by
   rw[List.map_nil] at h
   cases h
   exact IntsAre.nil
 |n::ns,us,h=>by
  rw[List.map_cons] at h
  cases h with
  |cons r t=>
   obtain⟨k,rfl⟩:=r
   exact IntsAre.cons n k (Vals.ints t)
theorem Vals.Wz:∀{bs:List Bool}{us:List Value},Vals (bs.map V.bl) us->us=bs.map Value.bool
 | [],us,h=>by
   rw[List.map_nil] at h
   cases h
   rfl
 |b::bs,us,h=>by
  rw[List.map_cons] at h
  cases h with
  |cons r t=>
   cases r
   rw[Vals.Wz t,List.map_cons]
theorem Vals.Pz{a:Addr}{us:List Value}(r:Vals [V.ref a] us):us= [Value.ref a]:=by
 cases r with
 |cons r t=>
  cases t
  cases r
  rfl
section
variable{prog:Program}{w:World}{A:Around}{E:Value->Shared->Prop}{s:Shared}{l:Addr}{its:List Value}{ns:List Int}{Q:Value->Shared->Prop}
theorem Lr(hh:A.handled=none)(hl:s.heap.IsList l its.toArray)(hi:IntsAre its ns)(hW:0<ns.length)
 (h:∀h' tk M t',(∀b o,s.heap.get? b=some o->h'.get? b=some o)->M∈ns->(∀a,a∈ns->a<=M)->Q (.int M t') { s with heap:=h',toks:=tk }):wpAny (model prog w) A (call (.builtin "max") [.ref l]) Q E s:=by
 obtain⟨xs,e⟩:=hi.allInts.items
 have hn:numsOf (intItems xs).toList=ns:=by rw[<-e];exact hi.numsOf
 rw[nums_intItems] at hn
 subst hn
 rw[e] at hl
 have hsz:0<xs.size:=by simpa using hW
 refine PySem.max_intList hh hl hsz λv h' tk hv hk=> ?_
 obtain⟨t,rfl⟩:=intItems_at hv
 obtain⟨h1,h2⟩:=argBest_gt (numAt xs) (xs.size - 1)
 refine h h' tk _ t hk ?_ λa ha=> ?_
 ·rw[numAt_eq];exact PySem.getD_mem (by rw[List.length_map,Array.length_toList];omega)
 ·obtain⟨j,hj,rfl⟩:=mem_getD ha
  rw[List.length_map,Array.length_toList] at hj
  rw[<-numAt_eq];exact h2 j (by omega)
end
section
variable{X:Cx}
def WB(K:W.Frag):List V->Hp->VK->Prop:=λvs H Q=>∃(a:Addr)(ns:List Int),vs= [V.ref a]/\aF K H a (ns.map V.int)/\0<ns.length/\∀m,m∈ns->(∀y,y∈ns->y<=m)->Q (.int m) H
theorem PB(hc:X.calm=true):j7 X (.builtin "max") (WB X.K):=by
 intro ag s σ H vs us Q I r h
 obtain⟨a,ns,rfl,hs,hW,q⟩:=h
 obtain⟨its,rv,hl,_⟩:=I.list hs
 rw[Vals.Pz r]
 exact Lr (I.ok.hd hc) hl.isList rv.ints hW λh' tk m t' hk h1 h2=>⟨.int _,H,I.kept hk,⟨_,rfl⟩,q m h1 h2⟩
def PC(K:W.Frag):V->List V->Hp->VK->Prop:=λx xs H Q=>∃(a:Addr)(ys:List V)(y:V)(j:Nat)(z:V),x=V.ref a/\xs= [y]/\aF K H a ys/\eG y=true/\ys.all eG=true/\ys[j]? =some z/\G9 z y=true/\
 (∀(m:Nat)(z':V),m<j->ys[m]? =some z'->G9 z' y=false)/\Q (.int (j:Nat)) H
theorem DY{ys:List V}(f:ys.all eG=true){j:Nat}{z:V}(h:ys[j]? =some z):eG z=true:=List.all_eq_true.mp f z (List.mem_of_getElem? h)
theorem HL:HD X "list.index" (PC X.K):=by
 intro ag s σ H x xs v us Q I rx WC h
 obtain⟨a,ys,y,j,z,rfl,rfl,hs,fy,WD,hz,Z4,By,q⟩:=h
 cases rx
 cases WC with
 |cons ry rt=>
  rename_i uy ut
  cases rt
  obtain⟨its,rv,⟨⟨cls,dd,data,sl⟩,n,ho,hc,Ls,hd⟩,hlen⟩:=I.list hs
  simp only at hc hd
  subst hc hd
  obtain⟨u,hu,ru⟩:=rv.get hz
  obtain⟨RH,WG⟩:=List.getElem?_eq_some_iff.mp hu
  have Z5:=rv.length
  have hj:j<its.toArray.size:=by simpa using RH
  have NZ:=sizeLine_eq
  refine call_meets PySem.F.slot_list_index ⟨_,ho,rfl⟩ PySem.F.entry_list_index (PySem.F.args_list_index_2 _ _)
   (SeqAt.list_indexAt a its.toArray n dd sl uy (Bf y) j hj (by omega) ?_ ?_) ⟨ho,λu' Ha=>iT ry fy rv WD u' (by simpa using Ha),?_⟩
  ·have e1:its.toArray[j]=u:=by simpa using WG
   rw[e1,wZ ru (DY WD hz)]
   exact Z4
  ·intro m hm TQ
   have Z6:m<its.length:=by simpa using hm
   have WH:m<ys.length:=by omega
   have pY:ys[m]? =some ys[m]:=List.getElem?_eq_getElem WH
   obtain⟨u2,TV,WK⟩:=rv.get pY
   obtain⟨_,WL⟩:=List.getElem?_eq_some_iff.mp TV
   have e1:its.toArray[m]=u2:=by simpa using WL
   rw[e1,wZ WK (DY WD pY)]
   exact By m _ TQ pY
  ·exact⟨.int (j:Nat),H,I.tok _,⟨_,rfl⟩,q⟩
end
theorem zq{prog:Program}{w:World}{A:Around}{E:Value->Shared->Prop}{s:Shared}{l:Addr}{items:Array Value}{Q:Value->Shared->Prop}(hl:s.heap.IsList l items)
 (h:∀mF:Shared,mF= { s with heap:=s.heap.push { cls:=.type "list_iterator",data:=.fields #[.ref l,.int 0 0] } }->
   (mF.heap.IsListIter s.heap.objs.size l 0/\mF.heap.IsList l items)->l≠s.heap.objs.size->Q (.ref s.heap.objs.size) mF):wpAny (model prog w) A (pyIter (.ref l)) Q E s:=by
 have gJ:l<s.heap.objs.size:=by obtain⟨_,e,_⟩:=hl;exact Heap.lt_size e
 exact wpAny_pyIter_list hl (h _ rfl ⟨⟨_,Heap.get?_push_size _ rfl,rfl,rfl⟩,hl.push _⟩ (Nat.ne_of_lt gJ))
theorem qQ{prog:Program}{w:World}{A:Around}{bs:List Bool}{its:List Value}(e:its=bs.map Value.bool):
 TruthOf prog w A (λi v=>its.toArray[i]? =some v) (λi=>bs.getD i false):=λi v s Q E hv hq=>by
 have Vd:its[i]? =some v:=by simpa using hv
 rw[e,List.getElem?_map] at Vd
 obtain⟨b,hb,rfl⟩:=Option.map_eq_some_iff.mp Vd
 have hg:bs.getD i false=b:=by rw[List.getD_eq_getElem?_getD,hb]<;>rfl
 have Fm:Q (bs.getD i false) s:=hq
 rw[hg] at Fm
 exact wpAny_truthy_bool Fm
theorem any_range:∀bs:List Bool,(List.range bs.length).any (λi=>bs.getD i false)=bs.any id
 | []=>rfl
 |b::bs=>by
  rw[List.length_cons,List.range_succ_eq_map,List.any_cons,List.any_map,List.any_cons,<-any_range bs]
  all_goals rfl
theorem all_range:∀bs:List Bool,(List.range bs.length).all (λi=>bs.getD i false)=bs.all id
 | []=>rfl
 |b::bs=>by
  rw[List.length_cons,List.range_succ_eq_map,List.all_cons,List.all_map,List.all_cons,<-all_range bs]
  all_goals rfl
section
variable{X:Cx}
def WM(K:W.Frag):List V->Hp->VK->Prop:=λvs H Q=>∃(a:Addr)(bs:List Bool),vs= [V.ref a]/\aF K H a (bs.map V.bl)/\Q (.bl (bs.any id)) H
def WN(K:W.Frag):List V->Hp->VK->Prop:=λvs H Q=>∃(a:Addr)(bs:List Bool),vs= [V.ref a]/\aF K H a (bs.map V.bl)/\Q (.bl (bs.all id)) H
theorem PD(hc:X.calm=true):j7 X (.builtin "any") (WM X.K):=by
 intro ag s σ H vs us Q I r h
 obtain⟨a,bs,rfl,hs,q⟩:=h
 obtain⟨its,rv,hl,_⟩:=I.list hs
 rw[Vals.Pz r]
 have hb:=rv.Wz
 refine call_any_walk (zq hl.isList λmF e2 st hW=> ?_)
 subst e2
 refine⟨_,_,_,_,_,_,_,rfl,Walks.list (A:=X.A.in1) (I.ok.hd hc) _ a hW its.toArray,st,qQ hb,λh' tk hk=> ?_⟩
 refine⟨.bl _,H,I.kept λb o eo=>hk b o (λxf=> ?_) (Heap.get?_push_of_some _ eo),?_,q⟩
 ·rcases List.mem_cons.mp xf with e1|xf
  ·exact absurd (e1▸Heap.lt_size eo) (Nat.lt_irrefl _)
  ·cases xf
 ·show Value.bool _=Value.bool _
  rw[<-any_range,hb,List.size_toArray,List.length_map]
theorem PF(hc:X.calm=true):j7 X (.builtin "all") (WN X.K):=by
 intro ag s σ H vs us Q I r h
 obtain⟨a,bs,rfl,hs,q⟩:=h
 obtain⟨its,rv,hl,_⟩:=I.list hs
 rw[Vals.Pz r]
 have hb:=rv.Wz
 refine call_all_walk (zq hl.isList λmF e2 st hW=> ?_)
 subst e2
 refine⟨_,_,_,_,_,_,_,rfl,Walks.list (A:=X.A.in1) (I.ok.hd hc) _ a hW its.toArray,st,qQ hb,λh' tk hk=> ?_⟩
 refine⟨.bl _,H,I.kept λb o eo=>hk b o (λxf=> ?_) (Heap.get?_push_of_some _ eo),?_,q⟩
 ·rcases List.mem_cons.mp xf with e1|xf
  ·exact absurd (e1▸Heap.lt_size eo) (Nat.lt_irrefl _)
  ·cases xf
 ·show Value.bool _=Value.bool _
  rw[<-all_range,hb,List.size_toArray,List.length_map]
end
mutual
inductive Dp(K:W.Frag)(H:Hp):V->PyData->Prop
 |non:Dp K H .non .none
 |bl (b:Bool):Dp K H (.bl b) (.bool b)
 |int (i:Int):Dp K H (.int i) (.int i)
 |str (x:Str):Dp K H (.str x) (.str x)
 |lst {a:Addr} {xs:List V} {ds:List PyData}:aF K H a xs->tM K H xs ds->Dp K H (.ref a) (.list ds)
 |tup {a:Addr} {xs:List V} {ds:List PyData}:pZ K H a xs->tM K H xs ds->Dp K H (.ref a) (.tuple ds)
inductive tM(K:W.Frag)(H:Hp):List V->List PyData->Prop
 |nil:tM K H [] []
 |cons {v:V} {vs:List V} {d:PyData} {ds:List PyData}:Dp K H v d->tM K H vs ds->tM K H (v::vs) (d::ds)
end
section
variable{X:Cx}{ag:List (Addr×Obj)}{σ:St}{H:Hp}{s:Shared}
mutual
theorem Dp.reads(I:Inv X ag σ H s):∀(d:PyData)(v:V)(u:Value),Dp X.K H v d->RelV v u->∃as,Reads s.heap u d as
 | .none,_,_,h,r=>by
   cases h
   cases r
   exact⟨_,Reads.none⟩
 | .bool b,_,_,h,r=>by
   cases h
   cases r
   exact⟨_,Reads.bool b⟩
 | .int i,_,_,h,r=>by
   cases h
   obtain⟨t,rfl⟩:=r
   exact⟨_,Reads.int i t⟩
 | .str x,_,_,h,r=>by
   cases h
   obtain⟨t,rfl⟩:=r
   exact⟨_,Reads.str x t⟩
 | .list ds,_,_,h,r=>by
   cases h with
   |lst hs ha=>
    cases r
    obtain⟨its,rv,⟨o,n,ho,hc,_,hd⟩,_⟩:=I.list hs
    obtain⟨as,hr⟩:=Dp.readsAll I ds _ its ha rv
    exact⟨_,Reads.list ho hc hd hr⟩
 | .tuple ds,_,_,h,r=>by
   cases h with
   |tup hs ha=>
    cases r
    obtain⟨its,rv,⟨o,ho,hc,n,hd⟩,_⟩:=I.tuple hs
    obtain⟨as,hr⟩:=Dp.readsAll I ds _ its ha rv
    exact⟨_,Reads.tuple ho hc hd hr⟩
 | .dict _,_,_,h,_=>by cases h
theorem Dp.readsAll(I:Inv X ag σ H s):∀(ds:List PyData)(vs:List V)(us:List Value),tM X.K H vs ds->Vals vs us->∃as,ReadsAll s.heap us ds as
 | [],_,_,h,r=>by
   cases h
   cases r
   exact⟨_,ReadsAll.nil⟩
 |d::ds,_,_,h,r=>by
  cases h with
  |cons h1 h2=>
   cases r with
   |cons r1 r2=>
    obtain⟨as,q1⟩:=Dp.reads I d _ _ h1 r1
    obtain⟨bs,q2⟩:=Dp.readsAll I ds _ _ h2 r2
    exact⟨_,ReadsAll.cons q1 q2⟩
end
end
section
variable{X:Cx}
def WO(K:W.Frag):R2:=λx y H Q=>∃d e,Dp K H x d/\Dp K H y e/\SeqAt.shaped d=true/\SeqAt.shaped e=true/\Q (.bl (PyData.eqv d e)) H
theorem PH(hu:X.A.units+64<cLine):oq X (compareOp .Eq) (WO X.K):=by
 intro ag s σ H x y v u Q I rx ry h
 obtain⟨d,e,hd,he,sd,se,q⟩:=h
 obtain⟨as,r1⟩:=Dp.reads I d x v hd rx
 obtain⟨bs,r2⟩:=Dp.reads I e y u he ry
 exact SeqAt.compareEq_shaped r1 r2 sd se hu ⟨.bl _,H,I,rfl,q⟩
end
abbrev HM(h:Heap)(c:Addr)(v:Option Value):Prop:=h.IsCell c v
def WQ(scope sc:Scope):Scope:=
 { scope with names:=scope.names.map λ(n,k)=>if (k==.free&&sc.kind==.function&&sc.names.lookup n==some .cell) then(n,.cell) else(n,k) }
def b8(cells:List (Str×Addr)):List (Str×NameKind)->List (Str×Addr)->List (Str×Addr)
 | [],acc=>acc
 | (n,k)::r,acc=>if k==.free then b8 cells r ((n,(cells.lookup n).getD 0)::acc) else b8 cells r acc
theorem oB(env:Env)(f:Str×NameKind->List (Str×Addr)->Sem (ForInStep (List (Str×Addr))))
 (hf:∀n k c,f (n,k) c=if k==.free then(do let a <-cellOf env n;pure (.yield ((n,a)::c))) else pure (.yield c)):
 ∀(names:List (Str×NameKind))(acc:List (Str×Addr)),(∀y∈names,y.2=.free->∃c,env.cells.lookup y.1=some c)->forIn names acc f=pure (b8 env.cells names acc)
 | [],acc,_=>by rw[List.forIn_nil];rfl
 | (n,k)::r,acc,h=>by
   rw[List.forIn_cons,hf]
   have ih:=λacc=>oB env f hf r acc λy hy=>h y (List.mem_cons_of_mem _ hy)
   unfold b8
   by_cases hk:(k==NameKind.free)=true
   ·rw[if_pos hk,if_pos hk]
    obtain⟨c,hc⟩:=h (n,k) List.mem_cons_self (by simpa using hk)
    have e:cellOf env n=pure c:=by unfold cellOf;rw[hc]
    rw[e]
    have e2:(env.cells.lookup n).getD 0=c:=by rw[hc];rfl
    rw[e2]
    exact ih _
   ·rw[if_neg hk,if_neg hk]
    exact ih _
theorem Bz{scope:Scope}{env:Env}(h:∀y∈scope.names,y.2=.free->∃c,env.cells.lookup y.1=some c):closureFor scope env=pure (b8 env.cells scope.names []):=by
 simp only[closureFor]
 rw[oB env _ (λn k c=>rfl) scope.names [] h]
 rfl
theorem mem_lookup{α:Type}:∀{l:List (Str×α)}{n:Str}{c:α},(n,c)∈l->∃c',l.lookup n=some c'
 | (k,v)::r,n,c,h=>by
   rw[List.lookup_cons]
   cases hb:n==k with
   |true=>exact⟨_,rfl⟩
   |false=>
    rcases List.mem_cons.mp h with e|h
    ·cases e;simp at hb
    ·exact mem_lookup h
theorem hZ{cells:List (Str×Addr)}:∀{names:List (Str×NameKind)}{acc:List (Str×Addr)}{n:Str}{c:Addr},(n,c)∈b8 cells names acc->(n,c)∈acc\/((n,.free)∈names/\c=(cells.lookup n).getD 0)
 | [],_,_,_,h=>.inl h
 | (m,k)::r,acc,n,c,h=>by
   unfold b8 at h
   split at h
   ·rename_i hk
    have hk:k=.free:=by simpa using hk
    rcases hZ h with h|⟨h1,h2⟩
    ·rcases List.mem_cons.mp h with e|h
     ·cases e;exact .inr ⟨hk▸List.mem_cons_self,rfl⟩
     ·exact .inl h
    ·exact .inr ⟨List.mem_cons_of_mem _ h1,h2⟩
   ·rcases hZ h with h|⟨h1,h2⟩
    ·exact .inl h
    ·exact .inr ⟨List.mem_cons_of_mem _ h1,h2⟩
theorem kP{cells:List (Str×Addr)}:∀{names:List (Str×NameKind)}{acc:List (Str×Addr)}{p:Str×Addr},p∈acc->p∈b8 cells names acc
 | [],_,_,h=>h
 | (m,k)::r,acc,p,h=>by
   unfold b8
   split
   ·exact kP (List.mem_cons_of_mem _ h)
   ·exact kP h
theorem kQ{cells:List (Str×Addr)}:∀{names:List (Str×NameKind)}{acc:List (Str×Addr)}{n:Str},(n,.free)∈names->(n,(cells.lookup n).getD 0)∈b8 cells names acc
 | (m,k)::r,acc,n,h=>by
   unfold b8
   rcases List.mem_cons.mp h with e|h
   ·cases e
    exact kP List.mem_cons_self
   ·split
    ·exact kQ h
    ·exact kQ h
theorem iU:∀{names:List (Str×NameKind)}{h:Heap}{acc:List (Str×Addr)}{x:Str}{c:Addr},(x,c)∈cellsFrom h.objs.size names acc->
 (x,c)∈acc\/((x,.cell)∈names/\h.objs.size<=c/\HM (pushCells h names) c none)
 | [],_,_,_,_,h=>.inl h
 | (n,k)::r,h,acc,x,c,hm=>by
   unfold cellsFrom at hm
   unfold pushCells
   split at hm
   ·rename_i hk
    rw[if_pos hk]
    have hk:k=.cell:=by simpa using hk
    rw[<-Heap.size_push h { cls:=.type "cell",data:=.cell none }] at hm
    rcases iU hm with hm|⟨h1,h2,h3⟩
    ·rcases List.mem_cons.mp hm with e|hm
     ·cases e
      exact .inr ⟨hk▸List.mem_cons_self,Nat.le_refl _,_,pushCells_keeps r _ _ _ (Heap.get?_push_size _ rfl),rfl⟩
     ·exact .inl hm
    ·rw[Heap.size_push] at h2
     exact .inr ⟨List.mem_cons_of_mem _ h1,Nat.le_of_succ_le h2,h3⟩
   ·rename_i hk
    rw[if_neg hk]
    rcases iU hm with hm|⟨h1,h2,h3⟩
    ·exact .inl hm
    ·exact .inr ⟨List.mem_cons_of_mem _ h1,h2,h3⟩
theorem lU:∀{names:List (Str×NameKind)}{n:Nat}{acc:List (Str×Addr)}{p:Str×Addr},p∈acc->p∈cellsFrom n names acc
 | [],_,_,_,h=>h
 | (m,k)::r,n,acc,p,h=>by
   unfold cellsFrom
   split
   ·exact lU (List.mem_cons_of_mem _ h)
   ·exact lU h
theorem p8:∀{names:List (Str×NameKind)}{n:Nat}{acc:List (Str×Addr)}{x:Str},(x,.cell)∈names->∃c,(x,c)∈cellsFrom n names acc
 | (m,k)::r,n,acc,x,h=>by
   unfold cellsFrom
   rcases List.mem_cons.mp h with e|h
   ·cases e
    exact⟨n,lU List.mem_cons_self⟩
   ·split
    ·exact p8 h
    ·exact p8 h
theorem p9:∀{names:List (Str×NameKind)}{h:Heap}{acc:List (Str×Addr)}{x y:Str}{c:Addr},(∀p∈acc,p.2<h.objs.size)->(∀x y c,(x,c)∈acc->(y,c)∈acc->x=y)->
 (x,c)∈cellsFrom h.objs.size names acc->(y,c)∈cellsFrom h.objs.size names acc->x=y
 | [],_,_,_,_,_,_,hi,h1,h2=>hi _ _ _ h1 h2
 | (n,k)::r,h,acc,x,y,c,hl,hi,h1,h2=>by
   unfold cellsFrom at h1 h2
   split at h1
   ·rename_i hk
    rw[if_pos hk] at h2
    rw[<-Heap.size_push h { cls:=.type "cell",data:=.cell none }] at h1 h2
    refine p9 (h:=h.push _) (λp hp=> ?_) (λx y c a b=> ?_) h1 h2
    ·rw[Heap.size_push]
     rcases List.mem_cons.mp hp with rfl|hp
     ·exact Nat.lt_succ_self _
     ·exact Nat.lt_succ_of_lt (hl p hp)
    ·rcases List.mem_cons.mp a with e|a<;>rcases List.mem_cons.mp b with e'|b
     ·cases e;cases e';rfl
     ·cases e;exact absurd (hl _ b) (Nat.lt_irrefl _)
     ·cases e';exact absurd (hl _ a) (Nat.lt_irrefl _)
     ·exact hi _ _ _ a b
   ·rename_i hk
    rw[if_neg hk] at h2
    exact p9 hl hi h1 h2
theorem zr{M:Model}{A:Around}{E:Value->Shared->Prop}{s:Shared}{scope:Scope}{globals:Addr}{closure:List (Str×Addr)}{qual:Str}{func:Option Addr}{code:Value}{around:Env}{builtins:Addr}{Q:Env->Shared->Prop}
 (h:Q (newEnv scope s.heap.objs.size globals (cellsFrom (s.heap.objs.size+1) scope.names closure) qual func code (some around) builtins)
   { s with heap:=pushCells (s.heap.push { cls:=.type "dict",data:=.dict #[] }) scope.names }):
 wpAny M A (newFunctionEnv scope globals closure [] qual func code (some around) builtins) Q E s:=by
 simp only[newFunctionEnv,Option.isSome_some,if_true]
 refine wpAny_bind (wpAny_alloc ?_)
 refine wpAny_bind (wpAny_layCells _ (λn k c=>rfl) scope.names closure _ _ ?_)
 rw[show({ s with heap:=s.heap.push { cls:=.type "dict",data:=.dict #[] } }:Shared).heap.objs.size=s.heap.objs.size+1 from Heap.size_push ..]
 rw[List.forIn_nil]
 exact wpAny_bind (wpAny_pure (wpAny_pure h))
theorem kU{sc:Scope}:∀{names:List (Str×NameKind)}{x:Str}{k:NameKind},
 (names.map λ(n,k)=>if (k==NameKind.free&&sc.kind==.function&&sc.names.lookup n==some .cell) then(n,NameKind.cell) else(n,k)).lookup x=some k->
 ∃k',names.lookup x=some k'/\(k=k'\/(k'=.free/\k=.cell))
 | [],_,_,h=>by simp at h
 | (n,HN)::r,x,k,h=>by
   have ih:= @kU sc r x k
   have h':List.lookup x ((if (HN==NameKind.free&&sc.kind==.function&&sc.names.lookup n==some .cell)=true then(n,NameKind.cell) else(n,HN))::(r.map _))=some k:=h
   cases hx:x==n with
   |true=>
    simp only[List.lookup_cons,hx]
    by_cases hc:(HN==NameKind.free&&sc.kind==.function&&sc.names.lookup n==some .cell)=true
    ·rw[if_pos hc] at h'
     simp only[List.lookup_cons,hx] at h'
     cases h'
     simp only[Bool.and_eq_true,beq_iff_eq] at hc
     exact⟨HN,rfl,.inr ⟨hc.1.1,rfl⟩⟩
    ·rw[if_neg hc] at h'
     simp only[List.lookup_cons,hx] at h'
     cases h'
     exact⟨_,rfl,.inl rfl⟩
   |false=>
    simp only[List.lookup_cons,hx]
    by_cases hc:(HN==NameKind.free&&sc.kind==.function&&sc.names.lookup n==some .cell)=true
    ·rw[if_pos hc] at h'
     simp only[List.lookup_cons,hx] at h'
     exact ih h'
    ·rw[if_neg hc] at h'
     simp only[List.lookup_cons,hx] at h'
     exact ih h'
structure mK(N:List Str)(sc scope:Scope)(own:List (Str×Nat)):Prop where
 kind:scope.kind=.function
 uniq:∀y∈scope.names,scope.names.lookup y.1=some y.2
 ix:∀p∈own,N[p.2]? =some p.1
 free:∀y∈scope.names,y.2=.free->sc.names.lookup y.1=some .cell\/sc.names.lookup y.1=some .free
 own:∀y∈scope.names,y.2=.local\/y.2=.cell->y.1∈own.map (·.1)\/y.1∉N
def wipe(σ:St):List Nat->St
 | []=>σ
 |v::vs=>(wipe σ vs).set v none
theorem kW(σ:St):∀vs:List Nat,(wipe σ vs).length=σ.length
 | []=>rfl
 |v::vs=>by unfold wipe;rw[List.length_set,kW σ vs]
theorem qa{σ:St}{i:Nat}{x:V}:∀{vs:List Nat},(wipe σ vs)[i]? =some (some x)->σ[i]? =some (some x)/\i∉vs
 | [],h=>⟨h,by simp⟩
 |v::vs,h=>by
  unfold wipe at h
  by_cases hi:v=i
  ·subst hi
   by_cases hv:v<(wipe σ vs).length
   ·rw[List.getElem?_set_self hv] at h;cases h
   ·rw[List.getElem?_eq_none (by simpa using hv)] at h;cases h
  ·rw[List.getElem?_set_ne hi] at h
   obtain⟨h1,h2⟩:=qa h
   exact⟨h1,by simp only[List.mem_cons,not_or];exact⟨λe=>hi e.symm,h2⟩⟩
abbrev Cx.iN(X:Cx)(s:Shared)(H:Hp)(scope:Scope)(eR:Env)(fp:List Addr):Cx:= { X with vI:=s,Sw:=H,env:=eR,aq:=X.stack,ex:=fp,fn:=λx=>scope.names.lookup x==some .cell,pn:= [],xe:=λ_ _=>False }
section
variable{X:Cx}{ag:List (Addr×Obj)}{σ:St}{H:Hp}{s:Shared}
theorem zt{scope:Scope}{own:List (Str×Nat)}{fp:List Addr}(I:Inv X ag σ H s)(ok:mK X.N X.env.scope scope own)(hN:X.N.Nodup)(RJ:∀b∈fp,tG X ag H b/\b<s.heap.objs.size):
 Inv (X.iN s H scope (compEnvC scope (cellsFrom (s.heap.objs.size+1) scope.names (b8 X.env.cells scope.names [])) s.heap.objs.size X.env) fp) [] (wipe σ (own.map (·.2))) H { s with heap:=pushCells (s.heap.push { cls:=.type "dict",data:=.dict #[] }) scope.names }:=by
 have vK:∀y∈scope.names,y.2=.free->∃c,X.env.cells.lookup y.1=some c:=λy hy e=>by
  rcases ok.free y hy e with k|k
  ·exact I.ok.has _ (.inl k)
  ·exact I.ok.has _ (.inr k)
 generalize zu:compEnvC scope (cellsFrom (s.heap.objs.size+1) scope.names (b8 X.env.cells scope.names [])) s.heap.objs.size X.env=eR
 have kp:∀b o,s.heap.get? b=some o->(pushCells (s.heap.push { cls:=.type "dict",data:=.dict #[] }) scope.names).get? b=some o:=λb o e=>pushCells_keeps _ _ _ _ (Heap.get?_push_of_some _ e)
 have hL:eR.locals=s.heap.objs.size:=by rw[<-zu];rfl
 have PJ:eR.cells=cellsFrom (s.heap.objs.size+1) scope.names (b8 X.env.cells scope.names []):=by rw[<-zu];rfl
 have WR:eR.scope=WQ scope X.env.scope:=by rw[<-zu];rfl
 rw[<-Heap.size_push s.heap { cls:=.type "dict",data:=.dict #[] }] at PJ
 have cm:∀{y c},(y,c)∈b8 X.env.cells scope.names []->X.env.cells.lookup y=some c/\c<s.heap.objs.size:=λ{y c} hm=>by
  rcases hZ hm with hm|⟨h1,rfl⟩
  ·cases hm
  ·obtain⟨c,hc⟩:=vK _ h1 rfl
   rw[hc]
   obtain⟨w,z⟩:=I.cell _ _ hc
   exact⟨rfl,z.lt⟩
 have mem:∀{y c},eR.cells.lookup y=some c->(X.env.cells.lookup y=some c/\c<s.heap.objs.size)\/(s.heap.objs.size+1<=c/\HM (pushCells (s.heap.push { cls:=.type "dict",data:=.dict #[] }) scope.names) c none):=λ{y c} e=>by
  rw[PJ] at e
  rcases iU (PySem.mem_of_lookup e) with hm|⟨_,h2,h3⟩
  ·exact .inl (cm hm)
  ·rw[Heap.size_push] at h2;exact .inr ⟨h2,h3⟩
 have look:∀{y},scope.names.lookup y=some .free->∃c,eR.cells.lookup y=some c/\X.env.cells.lookup y=some c:=λ{y} hl=>by
  have hy:(y,NameKind.free)∈scope.names:=PySem.mem_of_lookup hl
  obtain⟨c',e'⟩:=mem_lookup (lU (names:=scope.names) (n:=(s.heap.push { cls:=.type "dict",data:=.dict #[] }).objs.size) (kQ (cells:=X.env.cells) (acc:= []) hy))
  rw[<-PJ] at e'
  refine⟨c',e',?_⟩
  rw[PJ] at e'
  rcases iU (PySem.mem_of_lookup e') with hm|⟨h1,_,_⟩
  ·exact(cm hm).1
  ·have:=ok.uniq _ h1
   rw[hl] at this;cases this
 have Z7:(X.iN s H scope eR fp).Ok:=by
  refine⟨I.ok.mod,by show eR.scope.kind=_;rw[WR];exact ok.kind,by show eR.globals=_;rw[<-zu];exact I.ok.glob,by show eR.builtins=_;rw[<-zu];exact I.ok.blt,by show s.heap.objs.size<=eR.locals;rw[hL];exact Nat.le_refl _,
   λy z c e1 e2=> ?_,λy hy=> ?_,λy c z e=> ?_,I.ok.hd,I.ok.frames,.inl rfl,λb hb=>⟨?_,λy c e z=> ?_⟩,I.bs,Nat.le_trans I.ok.K3 I.sz,λb o e hb=> ?_,λb hb z=> ?_,I.stack,I.DN⟩
  ·have e1:eR.cells.lookup y=some c:=e1
   have e2:eR.cells.lookup z=some c:=e2
   rw[PJ] at e1 e2
   refine p9 (λp hp=> ?_) (λy z c a b=>I.ok.inj y z c (cm a).1 (cm b).1) (PySem.mem_of_lookup e1) (PySem.mem_of_lookup e2)
   rw[Heap.size_push]
   exact Nat.lt_succ_of_lt (cm (y:=p.1) (c:=p.2) hp).2
  ·show ∃c,eR.cells.lookup y=some c
   have key:∀k,eR.kindOf y=some k->(k=.cell\/k=.free)->∃c,eR.cells.lookup y=some c:=λk hk Lv=>by
    unfold Env.kindOf at hk
    rw[WR] at hk
    obtain⟨k',e,r⟩:=kU hk
    have:k'=.cell\/k'=.free:=by
     rcases r with rfl|⟨rfl,_⟩
     ·exact Lv
     ·exact .inr rfl
    rcases this with rfl|rfl
    ·obtain⟨c,hm⟩:=p8 (n:=(s.heap.push { cls:=.type "dict",data:=.dict #[] }).objs.size) (acc:=b8 X.env.cells scope.names []) (PySem.mem_of_lookup e)
     obtain⟨c',e'⟩:=mem_lookup hm
     exact⟨c',by rw[PJ];exact e'⟩
    ·obtain⟨c,h1,_⟩:=look e
     exact⟨c,h1⟩
   rcases hy with hy|hy
   ·exact key _ hy (.inl rfl)
   ·exact key _ hy (.inr rfl)
  ·have z:(scope.names.lookup y==some NameKind.cell)=true:=z
   have z:scope.names.lookup y=some .cell:=by simpa using z
   have e:eR.cells.lookup y=some c:=e
   rw[PJ] at e
   rcases iU (PySem.mem_of_lookup e) with hm|⟨_,h2,_⟩
   ·rcases hZ hm with hm|⟨h1,_⟩
    ·cases hm
    ·have q:=ok.uniq _ h1
     rw[z] at q;cases q
   ·rw[Heap.size_push] at h2
    exact Nat.le_of_succ_le h2
  ·show b≠eR.locals
   rw[hL];exact Nat.ne_of_lt (RJ b hb).2
  ·have e:eR.cells.lookup y=some c:=e
   rcases mem e with⟨h1,_⟩|⟨h1,_⟩
   ·exact(RJ b hb).1.2.2.2.2.1 y c h1 z
   ·have h2:s.heap.objs.size+1<=b:=by rw[<-z];exact h1
    exact absurd (Nat.lt_of_lt_of_le (RJ b hb).2 (Nat.le_of_succ_le h2)) (Nat.lt_irrefl _)
  ·rcases(RJ b hb).1.2.2.2.1 with z|z
   ·exact I.ok.Hh b o e z
   ·exact absurd (Nat.lt_of_lt_of_le (Heap.lt_size e) (Nat.le_trans I.ok.K3 z)) (Nat.lt_irrefl _)
  ·rcases List.mem_cons.mp (I.Bk b z) with z|z
   ·exact(RJ b hb).1.2.1 z
   ·exact(RJ b hb).1.2.2.1 z
 refine⟨Z7,rfl,I.bare,Un.kept kp,⟨λ_=>none,?_,λi y av e1 e2 e3=> ?_⟩,λy c e=> ?_,?_,λy c e=> ?_,λp hp=> ?_,I.cW.kept kp,by rw[kW];exact I.len⟩
 ·show Heap.Ns _ eR.locals _
  rw[hL]
  exact Heap.Ns.keeps (Heap.Ns.new ..) λb o e=>pushCells_keeps _ _ _ _ e
 ·obtain⟨e2,hW⟩:=qa e2
  have PK:scope.names.lookup y=some .free/\(eR.kindOf y=some .cell\/eR.kindOf y=some .free):=by
   have key:∀k,eR.scope.names.lookup y=some k->k=.local\/k=.cell\/k=.free->scope.names.lookup y=some .free/\(eR.kindOf y=some .cell\/eR.kindOf y=some .free):=λk hk Lv=>by
    have YM:=hk
    rw[WR] at hk
    obtain⟨k',e,r⟩:=kU hk
    have no:¬(k'=.local\/k'=.cell):=λhh=>by
     rcases ok.own _ (PySem.mem_of_lookup e) hh with e'|e'
     ·obtain⟨p,hp,Z8⟩:=List.mem_map.mp e'
      have e3:=ok.ix p hp
      have:p.1=y:=Z8
      rw[this] at e3
      exact hW (List.mem_map.mpr ⟨p,hp,tF hN e3 e1⟩)
     ·exact e' (List.mem_of_getElem? e1)
    rcases r with rfl|⟨rfl,rfl⟩
    ·rcases Lv with rfl|rfl|rfl
     ·exact absurd (.inl rfl) no
     ·exact absurd (.inr rfl) no
     ·exact⟨e,.inr YM⟩
    ·exact⟨e,.inl YM⟩
   have e3:Sx eR.scope y:=e3
   rcases e3 with e3|e3|e3
   ·exact key _ e3 (.inl rfl)
   ·exact key _ e3 (.inr (.inl rfl))
   ·exact key _ e3 (.inr (.inr rfl))
  obtain⟨m,hn,hl⟩:=I.loc
  have WT:Sx X.env.scope y:=(ok.free _ (PySem.mem_of_lookup PK.1) rfl).elim (λk=>.inr (.inl k)) (λk=>.inr (.inr k))
  obtain⟨w,r,q⟩:=hl i y av e1 e2 WT
  refine⟨w,r,.inr ⟨PK.2,?_⟩⟩
  obtain⟨c,h1,h2⟩:=look PK.1
  rcases q with⟨k,_⟩|⟨_,c',e',z⟩
  ·have k:X.env.scope.names.lookup y=some .local:=k
   rcases ok.free _ (PySem.mem_of_lookup PK.1) rfl with k'|k'<;>rw[show X.env.scope.names.lookup y=_ from k'] at k<;>cases k
  ·rw[h2] at e';cases e'
   exact⟨c,h1,z.keeps kp⟩
 ·have e:eR.cells.lookup y=some c:=e
  rcases mem e with⟨h1,_⟩|⟨_,z⟩
  ·obtain⟨w,z⟩:=I.cell y c h1
   exact⟨w,z.keeps kp⟩
  ·exact⟨_,z⟩
 ·show H eR.locals=none
  rw[hL];exact I.cW.fresh (Nat.le_refl _)
 ·have e:eR.cells.lookup y=some c:=e
  rcases mem e with⟨h1,_⟩|⟨h1,_⟩
  ·exact I.kN y c h1
  ·exact I.cW.fresh (Nat.le_of_succ_le h1)
 ·exact absurd (show p∈([]:List (Addr×Obj))++ [] from hp) (by simp)
theorem PL{E:Value->Shared->Prop}{D:Addr}{xs:List V}{y:V}{v:Value}{Q:Value->Shared->Prop}(I:Inv X ag σ H s)(hD:H D=some (.lst xs))(hz:xs.length<sizeLine)(r:RelV y v)
 (h:∀s',Inv X ag σ (upd H D (.lst (xs++ [y]))) s'->Q .none s'):wpAny (model X.prog X.w) X.A (call (.builtin "list.append") [.ref D,v]) Q E s:=by
 obtain⟨Bg,its,n,ri,e⟩:=I.cW D _ hD
 have hl:=ri.length
 refine append_at (hsz:=by rw[List.size_toArray];omega) e λh' sb DM=> ?_
 refine h { s with heap:=h' } (I.write (t':=s.toks) (by rw[hD];trivial) (.inl rfl) (λb u hb q=>(sb.2 b hb).trans q) ⟨_,DM⟩ ⟨by rw[List.length_append];exact hz,its++ [v],n+1,ri.append (.cons r .nil),?_⟩)
 rw[DM]
 simp
def RK(X:Cx)(ifs:List Expr)(t:TT):Prop:=
 ∀(ag:List (Addr×Obj))(s:Shared)(σ:St)(H:Hp)(Q:Bool->Hp->Prop),Inv X ag σ H s->t σ H Q->
  wpAny (model X.prog X.w) X.A (forIn ifs true λc r=>if r=true then do let ok <-isTrue c X.env (eval c X.env);pure (ForInStep.yield ok) else pure (ForInStep.yield r)) (TP X ag σ Q) X.xe s
def WU:TT:=λ_ H Q=>Q true H
theorem Lx:RK X [] WU:=λ_ _ _ H _ I h=>wpAny_tests_nil ⟨H,I,h⟩
theorem Ly{c:Expr}{t:TT}(h:PT X c t):RK X [c] t:=λag s σ H Q I hw=>wpAny_tests_one (h ag s σ H Q I hw)
end
theorem Fs{α:Type}{t:Sem α}{Q Q':α->Shared->Prop}{M:Model}{A:Around}{E:Value->Shared->Prop}{s:Shared}(h:wpAny M A t Q (λ_ _=>False) s)(hQ:∀a s,Q a s->Q' a s):wpAny M A t Q' E s:=wpAny_mono h hQ λ_ _ z=>False.elim z
theorem xg{prog:Program}{w:World}{A:Around}{R:Result->Shared->Prop}{s:Shared}{elt target iter:Expr}{ifs:List Expr}{scope:Scope}{pos:Pos}{it acc:Value}{env:Env}(I:Nat->Shared->Prop)
 (turn:∀n s,I n s->wpAny (model prog w) A (pyNext it) (λr cX=>match r with
   |none=>R (.ok .next) cX
   |some v=>wpAny (model prog w) A (letOwnedTupleGo target it v) (λ_ N0=>wpAny (model prog w) A (assign target env v) (λ_ mF=>
     wpAny (model prog w) A (forIn ifs true λc r=>if r=true then do let ok <-isTrue c env (eval c env);pure (ForInStep.yield ok) else pure (ForInStep.yield r)) (λok Ft=>
      if ok=true then wpAny (model prog w) A (eval elt env) (λx TX=>
       wpAny (model prog w) A (call (.builtin "list.append") [acc,x]) (λ_ TY=>∃m,m<n/\I m TY) (notedBy (model prog w) A env λe s'=>R (.error e) s') TX) (notedBy (model prog w) A env λe s'=>R (.error e) s') Ft
      else ∃m,m<n/\I m Ft) (notedBy (model prog w) A env λe s'=>R (.error e) s') mF) (notedBy (model prog w) A env λe s'=>R (.error e) s') N0) (notedBy (model prog w) A env λe s'=>R (.error e) s') cX) (notedBy (model prog w) A env λe s'=>R (.error e) s') s)
 (n:Nat)(h:I n s):
 codeAny (model prog w) A (.compLoop (.ListComp elt [⟨target,iter,ifs,0⟩] scope pos) 0 it acc env) R s:=by
 refine codeAny_loop rfl I (λn s hI=> ?_) n h
 show wpAny _ A ((compTurn (.ListComp elt [⟨target,iter,ifs,0⟩] scope pos) 0 it acc env).onRaise (λx=>do noteFrame x env;theTreesLotGoes x)) _ _ s
 refine wpAny_noted ?_
 rw[compTurn_list]
 refine wpAny_bind (wpAny_standAt (wpAny_bind (wpAny_mono (turn n s hI) (λr cX Lz=> ?_) λ_ _ h'=>h')))
 cases r with
 |none=>exact wpAny_pure Lz
 |some v=>
  refine wpAny_bind (wpAny_mono Lz (λ_ N0 T1=> ?_) λ_ _ h'=>h')
  refine wpAny_bind (wpAny_mono T1 (λ_ mF HP=>wpAny_bind (wpAny_mono HP (λok Ft LB=> ?_) λ_ _ h'=>h')) λ_ _ h'=>h')
  cases ok with
  |false=>exact wpAny_pure ⟨rfl,LB⟩
  |true=>
   exact wpAny_bind (wpAny_bind (wpAny_mono LB (λx TX WV=>wpAny_bind (wpAny_mono WV (λ_ TY WW=>wpAny_pure (wpAny_pure ⟨rfl,WW⟩)) λ_ _ h'=>h')) λ_ _ h'=>h'))
section
variable{X:Cx}
def RL(wi:TI)(g:TG)(tt:TT)(te:TE)(vs:List Nat):TE:=λσ H Q=>wi σ H λJ H1=>∀D,H1 D=none->∃W:Nat->Nat->Hp->Prop,(∃m,W 0 m (upd H1 D (.lst [])))/\∀i m H,W i m H->
 (J.stop i H/\Q (.ref D) H)\/(J.go i H/\∃Nx:Hp->Prop,(∀H',Nx H'->∃m',m'<m/\W (i+1) m' H')/\∀x H',J.KP i H x H'->g x (wipe σ vs) H' λeQ H2=>wipe eQ vs=wipe σ vs/\tt eQ H2 λb H3=>
  if b=true then te eQ H3 λy H4=>∃acc,H4 D=some (.lst acc)/\acc.length<sizeLine/\Nx (upd H4 D (.lst (acc++ [y]))) else Nx H3)
theorem DZ{ag:List (Addr×Obj)}{s:Shared}{σ:St}{H:Hp}{Q:VK}{elt tg iter:Expr}{ifs:List Expr}{scope:Scope}{own:List (Str×Nat)}{pos pos':Pos}{wi:TI}{g:TG}{tt:TT}{te:TE}{use:Option (Value->Sem Unit)}{Qf:Value->Shared->Prop}
 (hc:X.calm=true)(hN:X.N.Nodup)(I:Inv X ag σ H s)(hi:PI X tg iter wi)(ok:mK X.N X.env.scope scope own)
 (hg:∀(s:Shared)(H:Hp)(C:Addr)(cl:List (Str×Addr))(fp:List Addr),PG (X.iN s H scope (compEnvC scope cl C X.env) fp) tg g)(ht:∀(s:Shared)(H:Hp)(C:Addr)(cl:List (Str×Addr))(fp:List Addr),RK (X.iN s H scope (compEnvC scope cl C X.env) fp) ifs tt)
 (he:∀(s:Shared)(H:Hp)(C:Addr)(cl:List (Str×Addr))(fp:List Addr),PE (X.iN s H scope (compEnvC scope cl C X.env) fp) elt te)(hs:∀x,foldedSetIterable iter X.env x=pure x)
 (h:RL wi g tt te (own.map (·.2)) σ H Q)
 (Z9:∀D C s' m H',Inv X ag σ H' s'->Q (.ref D) H'->s'.heap.Ns C m->tG X ag H' C->compPost (model X.prog X.w) X.A X.xe use Qf (.ref D) C (.ok .next) s'):
 wpAny (model X.prog X.w) X.A (comprehension (.ListComp elt [⟨tg,iter,ifs,0⟩] scope pos) scope X.env pos' (newList []) false (eval iter X.env) use) Qf X.xe s:=by
 have vK:∀y∈scope.names,y.2=.free->∃c,X.env.cells.lookup y.1=some c:=λy hy e=>by
  rcases ok.free y hy e with k|k
  ·exact I.ok.has _ (.inl k)
  ·exact I.ok.has _ (.inr k)
 refine wpAny_comprehension_free (use:=use) rfl hs (Bz vK) ok.kind (λy hy e=>by rw[ok.uniq y hy,e])
  (dJ (hi ag s σ H _ I h) λxv s1 hx=>dJ hx λWa s2 h2=> ?_)
 obtain⟨it,fp,tn,J,H2,e,I2,T,Va,f2,q⟩:=h2
 subst e
 refine wpAny_newObj_type (zr ?_) (by show 0<=sizeLine;decide)
 generalize hD:s2.heap.objs.size=D
 have Xi:H2 D=none:=I2.cW.fresh (Nat.le_of_eq hD)
 obtain⟨W,⟨m0,w0⟩,turn⟩:=q D Xi
 generalize YN:({ s2 with heap:=s2.heap.push { cls:=.type "list",data:=.seq ([]:List Value).toArray } }:Shared)=s3
 have I3:Inv X ag σ (upd H2 D (.lst [])) s3:=by
  rw[<-YN]
  refine I2.laid (t':=s2.toks) (λb o e=>Heap.get?_push_of_some _ e) (Nat.le_of_eq hD) ⟨Nat.zero_le _, [],0,.nil,?_⟩
  rw[<-hD]
  exact Heap.get?_push_size _ rfl
 have h3:s3.heap=s2.heap.push { cls:=.type "list",data:=.seq ([]:List Value).toArray }:=by rw[<-YN]
 have sz:∀b∈fp,b<s2.heap.objs.size:=λb hb=>by
  obtain⟨o,e,_⟩:=T.obj _ _ Va b hb
  exact Heap.lt_size e
 have f3:∀b∈fp,tG X ag (upd H2 D (.lst [])) b/\b<s3.heap.objs.size:=λb hb=>by
  have gJ:=sz b hb
  refine⟨⟨?_,(f2 b hb).2⟩,by rw[h3,Heap.size_push];exact Nat.lt_succ_of_lt gJ⟩
  rw[aj (by rw[<-hD];exact Nat.ne_of_lt gJ)]
  exact(f2 b hb).1
 have Vb:tn 0 s3.heap:=T.keep _ _ _ Va λb _ o e=>by rw[h3];exact Heap.get?_push_of_some _ e
 have I4:=zt I3 ok hN f3
 have pg:=hg s3 (upd H2 D (.lst [])) s3.heap.objs.size (cellsFrom (s3.heap.objs.size+1) scope.names (b8 X.env.cells scope.names [])) fp
 have pt:=ht s3 (upd H2 D (.lst [])) s3.heap.objs.size (cellsFrom (s3.heap.objs.size+1) scope.names (b8 X.env.cells scope.names [])) fp
 have pe:=he s3 (upd H2 D (.lst [])) s3.heap.objs.size (cellsFrom (s3.heap.objs.size+1) scope.names (b8 X.env.cells scope.names [])) fp
 show codeAny _ _ (.compStart (.ListComp elt [⟨tg,iter,ifs,0⟩] scope pos) 0 (.ref it) (.ref D) (compEnvC scope (cellsFrom (s3.heap.objs.size+1) scope.names (b8 X.env.cells scope.names [])) s3.heap.objs.size X.env)) (compPost (model X.prog X.w) X.A X.xe use Qf (.ref D) s3.heap.objs.size) { s3 with heap:=pushCells (s3.heap.push { cls:=.type "dict",data:=.dict #[] }) scope.names }
 have YQ:∀b∈fp,(upd H2 D (.lst [])) b=none:=λb hb=>(f3 b hb).1.1
 generalize Xj:compEnvC scope (cellsFrom (s3.heap.objs.size+1) scope.names (b8 X.env.cells scope.names [])) s3.heap.objs.size X.env=ce at I4 pg pt pe ⊢
 have cL:ce.locals=s3.heap.objs.size:=by subst Xj;rfl
 generalize hH3:upd H2 D (.lst [])=H3 at I3 I4 pg pt pe w0 YQ f3
 generalize Xk:({ s3 with heap:=pushCells (s3.heap.push { cls:=.type "dict",data:=.dict #[] }) scope.names }:Shared)=s4 at I4 ⊢
 have YR:tn 0 s4.heap:=T.keep _ _ _ Vb λb _ o e=>by rw[<-Xk];exact pushCells_keeps _ _ _ _ (Heap.get?_push_of_some _ e)
 have stat:∀{aO:St}{H':Hp}{s':Shared},Inv (X.iN s3 H3 scope ce fp) [] aO H' s'->(∀b∈fp,H' b=none)->∀b∈fp,tG (X.iN s3 H3 scope ce fp) [] H' b:=λ{aO H' s'} I' hn b hb=>
  ⟨hn b hb,(I'.ok.U5 b hb).1,I'.ok.Hi b hb,.inl hb,λx c e=>(I'.ok.U5 b hb).2 x c e,λp hp=>absurd (show p∈([]:List (Addr×Obj))++ [] from hp) (by simp)⟩
 have loop:codeAny (model X.prog X.w) X.A (.compLoop (.ListComp elt [⟨tg,iter,ifs,0⟩] scope pos) 0 (.ref it) (.ref D) ce) (compPost (model X.prog X.w) X.A X.xe use Qf (.ref D) s3.heap.objs.size) s4:=by
  refine xg (λn s'=>∃i H',Inv (X.iN s3 H3 scope ce fp) [] (wipe σ (own.map (·.2))) H' s'/\tn i s'.heap/\(∀b∈fp,H' b=none)/\W i n H') ?_ m0 ⟨0,H3,I4,YR,YQ,w0⟩
  rintro n s5 ⟨i,H5,I5,RB,n5,w5⟩
  rcases turn i n H5 w5 with⟨stop,qq⟩|⟨go,Nx,Xl,step⟩
  ·have td:=T.done (X.iN s3 H3 scope ce fp) rfl rfl rfl hc i [] s5 _ H5 (λ_ _=>False) I5 (stat I5 n5) RB stop
   refine Fs td λr s6 ⟨hr,I6⟩=> ?_
   subst hr
   have I7:Inv X ag σ H5 s6:=I3.SJ (ch:=fp) I6.os I6.ae I6.cW I6.bare λb hb=>⟨(f3 b hb).1.2.2.2.1,(f3 b hb).1.2.1,(f3 b hb).1.2.2.2.2.1,(f3 b hb).1.2.2.2.2.2⟩
   have nC:H5 s3.heap.objs.size=none:=by
    have z:H5 ce.locals=none:=I6.free
    rw[cL] at z
    exact z
   obtain⟨m,hn,_⟩:=I6.loc
   have hn:s6.heap.Ns ce.locals m:=hn
   rw[cL] at hn
   exact Z9 D s3.heap.objs.size s6 m H5 I7 qq hn (I3.Fb (Nat.le_refl _) nC)
  ·have ti:=T.item (X.iN s3 H3 scope ce fp) rfl rfl rfl hc i [] s5 _ H5 (λ_ _=>False) I5 (stat I5 n5) RB go
   refine Fs ti λr s6 ⟨u,hr,h6⟩=> ?_
   subst hr
   refine Fs h6 λ_ s7 ⟨x,H7,I7,r7,y7,WX,n7⟩=> ?_
   have Xm:=I7.pinned (stat I7 n7) (T.obj _ _ WX)
   refine Fs (pg _ s7 _ H7 x u _ Xm r7 (step x H7 y7)) λ_ s8 ⟨Vf,H8,I8,YS,q8⟩=> ?_
   refine Fs (pt _ s8 Vf H8 _ I8 q8) λb s9 ⟨H9,I9,q9⟩=> ?_
   have fin:∀{s':Shared}{H':Hp},Inv (X.iN s3 H3 scope ce fp) ([]++tH fp s7.heap) Vf H' s'->Nx H'->∃m,m<n/\∃i H',Inv (X.iN s3 H3 scope ce fp) [] (wipe σ (own.map (·.2))) H' s'/\tn i s'.heap/\(∀b∈fp,H' b=none)/\W i m H':=λ{s' H'} I' nx=>by
    obtain⟨m',hm,w'⟩:=Xl H' nx
    have T3:∀b∈fp,∀o,s7.heap.get? b=some o->s'.heap.get? b=some o/\H' b=none:=λb hb o e=>
     let z:=I'.pin (b,o) (List.mem_append_right _ (List.mem_append_right _ (nB hb e)))
     ⟨z.1,z.2.1⟩
    have hl:(wipe σ (own.map (·.2))).length=Vf.length:=by rw[<-YS,kW]
    refine⟨m',hm,i+1,H',(I'.oo (ag:= [])).weak hl (λj v e=> ?_),T.keep _ _ _ WX λb hb o e=>(T3 b hb o e).1,λb hb=> ?_,w'⟩
    ·rw[<-YS] at e
     exact(qa e).1
    ·obtain⟨o,e,_⟩:=T.obj _ _ WX b hb
     exact(T3 b hb o e).2
   cases b with
   |false=>
    simp only[Bool.false_eq_true,if_false] at q9 ⊢
    exact fin I9 q9
   |true=>
    simp only[if_true] at q9 ⊢
    refine Fs (pe _ s9 Vf H9 _ I9 q9) λz s10 ⟨yv,Vg,Xn,Xo,acc,WY,WZ,nx⟩=> ?_
    exact PL (X:=X.iN s3 H3 scope ce fp) Xn WY WZ Xo λs11 Xp=>fin Xp nx
 exact codeAny_compStart_list loop (T.self X.A 0 _ _ _ YR loop)
theorem D0{elt tg iter:Expr}{ifs:List Expr}{scope:Scope}{own:List (Str×Nat)}{pos:Pos}{wi:TI}{g:TG}{tt:TT}{te:TE}(hc:X.calm=true)(hN:X.N.Nodup)(hi:PI X tg iter wi)(ok:mK X.N X.env.scope scope own)
 (hg:∀(s:Shared)(H:Hp)(C:Addr)(cl:List (Str×Addr))(fp:List Addr),PG (X.iN s H scope (compEnvC scope cl C X.env) fp) tg g)(ht:∀(s:Shared)(H:Hp)(C:Addr)(cl:List (Str×Addr))(fp:List Addr),RK (X.iN s H scope (compEnvC scope cl C X.env) fp) ifs tt)
 (he:∀(s:Shared)(H:Hp)(C:Addr)(cl:List (Str×Addr))(fp:List Addr),PE (X.iN s H scope (compEnvC scope cl C X.env) fp) elt te)(hs:∀x,foldedSetIterable iter X.env x=pure x:=by intro _;rfl):
 PE X (.ListComp elt [⟨tg,iter,ifs,0⟩] scope pos) (RL wi g tt te (own.map (·.2))):=by
 intro ag s σ H Q I h
 rw[eval_ListComp]
 refine DZ hc hN I hi ok hg ht he hs h λD C s' m H' I' q hn f=>⟨m,hn,λVh sb=> ?_⟩
 obtain⟨f0,f1,f2,f3,f4,f5⟩:=f
 exact⟨.ref D,H',I'.turned (t':=s'.toks) (λb o hb e=>(sb.2 b hb).trans e) f0 f1 f3 f4 f5,rfl,q⟩
theorem HQ{i:Nat}{y:Str}{py:Pos}{elt tg iter:Expr}{ifs:List Expr}{scope:Scope}{own:List (Str×Nat)}{pos HR:Pos}{wi:TI}{g:TG}{tt:TT}{te:TE}(hc:X.calm=true)(hN:X.N.Nodup)(hy:X.N[i]? =some y)(Vi:X.env.scope.names.lookup y=some .local)
 (W0:swapsWith (.ListComp elt [⟨tg,iter,ifs,0⟩] scope pos) (some (.Name y py)) HR.line X.env=pure true)(hi:PI X tg iter wi)(ok:mK X.N X.env.scope scope own)
 (hg:∀(s:Shared)(H:Hp)(C:Addr)(cl:List (Str×Addr))(fp:List Addr),PG (X.iN s H scope (compEnvC scope cl C X.env) fp) tg g)(ht:∀(s:Shared)(H:Hp)(C:Addr)(cl:List (Str×Addr))(fp:List Addr),RK (X.iN s H scope (compEnvC scope cl C X.env) fp) ifs tt)
 (he:∀(s:Shared)(H:Hp)(C:Addr)(cl:List (Str×Addr))(fp:List Addr),PE (X.iN s H scope (compEnvC scope cl C X.env) fp) elt te)(hs:∀x,foldedSetIterable iter X.env x=pure x:=by intro _;rfl):
 PS X (.Assign [.Name y py] (.ListComp elt [⟨tg,iter,ifs,0⟩] scope pos) HR) (O4 (RL wi g tt te (own.map (·.2))) (gn i)):=by
 intro ag s σ H D I h
 rw[exec_Assign_Name_used _ _ _ _ W0]
 refine wpAny_bind (wpAny_standAt (wpAny_bind ?_))
 show wpAny _ X.A (do let _ <-comprehension (.ListComp elt [⟨tg,iter,ifs,0⟩] scope pos) scope X.env (firstIterPos [⟨tg,iter,ifs,0⟩] pos) (newList []) false (eval iter X.env) (some (assign (.Name y py) X.env))) _ _ s
 have h:RL wi g tt te (own.map (·.2)) σ H (λx H1=>gn i x σ H1 D.nx):=h
 refine wpAny_bind (dJ (DZ (Qf:=λ_ s'=>SP X ag D .next s') hc hN I hi ok hg ht he hs h λL C s' m H' I' q hn f=> ?_) λ_ s' hq=>wpAny_pure (wpAny_pure hq))
 show wpAny _ _ (assign (.Name y py) X.env (.ref L)) _ _ _
 refine wpAny_assign_Name (vJ (v:=V.ref L) I' hN hy (.inl Vi) rfl (λs2 I2 ⟨a,sb,ha⟩=> ?_) (.inr Vi))
 obtain⟨f0,f1,f2,f3,f4,f5⟩:=f
 have Xq:C≠a:=by
  rcases ha with z|z
  ·rw[z];exact f1
  ·exact λe=>f4 y a z e.symm
 refine⟨m,hn.sameBut sb Xq,λh3 sb3=> ?_⟩
 exact⟨_,H',I2.turned (t':=s2.toks) (λb o hb e=>(sb3.2 b hb).trans e) f0 f1 f3 f4 f5,q⟩
theorem LC{elt:Expr}{gs:List Comprehension}{scope:Scope}{pos py:Pos}{y:Str}{l:Nat}{env:Env}(hk:env.scope.kind=.function)(hy:env.scope.names.lookup y=some .local)(hl:(py.line==pos.line)=true)
 (ha:(scope.names.any λ(n,k)=>n==y&&(k==.local||k==.cell))=false):swapsWith (.ListComp elt gs scope pos) (some (.Name y py)) l env=pure true:=by
 have ky:env.kindOf y=some .local:=hy
 have hb:env.blockKind=.function:=by unfold Env.blockKind;rw[hk];rfl
 unfold swapsWith
 simp only[hb,ky,ha,Expr.pos,hl]
 rfl
end
theorem HS{lo:Int}{n:Nat}{g:TG}{tt:TT}{te:TE}{vs:List Nat}{σ:St}{H1:Hp}{D:Addr}{Qd:Hp->Prop}(Pv:Nat->Hp->Prop)(h0:Pv 0 (upd H1 D (.lst [])))
 (hs:∀i H,i<n->Pv i H->g (.int (lo+i)) (wipe σ vs) H λeQ H2=>wipe eQ vs=wipe σ vs/\tt eQ H2 λb H3=>
   if b=true then te eQ H3 λy H4=>∃acc,H4 D=some (.lst acc)/\acc.length<sizeLine/\Pv (i+1) (upd H4 D (.lst (acc++ [y]))) else Pv (i+1) H3)(hd:∀H,Pv n H->Qd H):
 ∃W:Nat->Nat->Hp->Prop,(∃m,W 0 m (upd H1 D (.lst [])))/\∀i m H,W i m H->
  ((K7 lo n).stop i H/\Qd H)\/((K7 lo n).go i H/\∃Nx:Hp->Prop,(∀H',Nx H'->∃m',m'<m/\W (i+1) m' H')/\∀x H',(K7 lo n).KP i H x H'->g x (wipe σ vs) H' λeQ H2=>wipe eQ vs=wipe σ vs/\tt eQ H2 λb H3=>
   if b=true then te eQ H3 λy H4=>∃acc,H4 D=some (.lst acc)/\acc.length<sizeLine/\Nx (upd H4 D (.lst (acc++ [y]))) else Nx H3):=by
 refine⟨λi m H=>m=n - i/\i<=n/\Pv i H,⟨n,by simp,Nat.zero_le _,h0⟩,?_⟩
 rintro i m H ⟨rfl,hi,p⟩
 by_cases gJ:i<n
 ·refine .inr ⟨gJ,Pv (i+1),λH' p'=>⟨n - (i+1),by omega,rfl,gJ,p'⟩,λx H' y=> ?_⟩
  obtain⟨e,y⟩:=y
  subst e y
  exact hs i _ gJ p
 ·have e:i=n:=by omega
  subst e
  exact .inl ⟨Nat.le_refl _,hd H p⟩
theorem D1{K:W.Frag}{a:Addr}{xs:List V}{g:TG}{tt:TT}{te:TE}{vs:List Nat}{σ:St}{H1:Hp}{D:Addr}{Qd:Hp->Prop}(Pv:Nat->Hp->Prop)(h0:Pv 0 (upd H1 D (.lst [])))(hl:∀i H,i<=xs.length->Pv i H->aF K H a xs)
 (hs:∀i x H,xs[i]? =some x->Pv i H->g x (wipe σ vs) H λeQ H2=>wipe eQ vs=wipe σ vs/\tt eQ H2 λb H3=>
   if b=true then te eQ H3 λy H4=>∃acc,H4 D=some (.lst acc)/\acc.length<sizeLine/\Pv (i+1) (upd H4 D (.lst (acc++ [y]))) else Pv (i+1) H3)(hd:∀H,Pv xs.length H->Qd H):
 ∃W:Nat->Nat->Hp->Prop,(∃m,W 0 m (upd H1 D (.lst [])))/\∀i m H,W i m H->
  ((NP K a).stop i H/\Qd H)\/((NP K a).go i H/\∃Nx:Hp->Prop,(∀H',Nx H'->∃m',m'<m/\W (i+1) m' H')/\∀x H',(NP K a).KP i H x H'->g x (wipe σ vs) H' λeQ H2=>wipe eQ vs=wipe σ vs/\tt eQ H2 λb H3=>
   if b=true then te eQ H3 λy H4=>∃acc,H4 D=some (.lst acc)/\acc.length<sizeLine/\Nx (upd H4 D (.lst (acc++ [y]))) else Nx H3):=by
 refine⟨λi m H=>m=xs.length - i/\i<=xs.length/\Pv i H,⟨xs.length,by simp,Nat.zero_le _,h0⟩,?_⟩
 rintro i m H ⟨rfl,hi,p⟩
 have q:=hl i H hi p
 by_cases gJ:i<xs.length
 ·refine .inr ⟨⟨xs,xs[i],q,by simp[gJ]⟩,Pv (i+1),λH' p'=>⟨xs.length - (i+1),by omega,rfl,gJ,p'⟩,λx H' y=> ?_⟩
  obtain⟨e,y⟩:=y
  subst e
  exact hs i x _ (y xs q) p
 ·have e:i=xs.length:=by omega
  subst e
  exact .inl ⟨⟨xs,q,Nat.le_refl _⟩,hd H p⟩
def T4(N:List Str)(sc scope:Scope)(own:List (Str×Nat)):Bool:=
 (match scope.kind with| .function=>true|_=>false)&&(scope.names.all λy=>decide (scope.names.lookup y.1=some y.2))&&(own.all λp=>decide (N[p.2]? =some p.1))&&
  (scope.names.all λy=>match y.2 with
    | .free=>(match sc.names.lookup y.1 with|some .cell=>true|some .free=>true|_=>false)
    | .local=>decide (y.1∈own.map (·.1))||decide (y.1∉N)
    | .cell=>decide (y.1∈own.map (·.1))||decide (y.1∉N)
    |_=>true)
theorem kX{N:List Str}{sc scope:Scope}{own:List (Str×Nat)}(h:T4 N sc scope own=true):mK N sc scope own:=by
 unfold T4 at h
 simp only[Bool.and_eq_true,List.all_eq_true,decide_eq_true_eq] at h
 obtain⟨⟨⟨h1,h2⟩,h3⟩,h4⟩:=h
 refine⟨?_,h2,h3,λy hy e=> ?_,λy hy e=> ?_⟩
 ·split at h1
  ·assumption
  ·cases h1
 ·have q:=h4 y hy
  simp only[e] at q
  split at q<;>first|exact .inl (by assumption)|exact .inr (by assumption)|cases q
 ·have q:=h4 y hy
  rcases e with e|e<;>(simp only[e,Bool.or_eq_true,decide_eq_true_eq] at q;exact q)
section
variable{prog:Program}{w:World}{A:Around}{R:Result->Shared->Prop}{s:Shared}{elt t0 i0 t1 i1:Expr}{aac aad:List Expr}{scope:Scope}{pos:Pos}{it acc:Value}{env:Env}
end
section
variable{X:Cx}
end
section
variable{κ:Type} [DecidableEq κ]
end
section
variable{P:Program}{w:World}{H:Hp}{h:Heap}{a:Addr}
end
section
variable{X:Cx}{ag:List (Addr×Obj)}{σ:St}{H:Hp}{s:Shared}{a:Addr}{y v:V}{u r:Value}{o:Option V}{A:Around}{E:Value->Shared->Prop}
end
section
variable{X:Cx}{ag:List (Addr×Obj)}{σ:St}{H:Hp}{s:Shared}{a:Addr}{wL:List (Key×V)}{k:Key}{u:Value}{A:Around}{E:Value->Shared->Prop}
end
def LD(i:Expr):Prop:=∀ov iv,subscripted i false ov iv=operate [ov,iv] (getItem ov iv)
theorem LG{prog:Program}{w:World}{A:Around}{E:Value->Shared->Prop}{s:Shared}{env:Env}{value slice:Expr}{pos:Pos}{T id:String}{Q:Value->Shared->Prop}
 (hl:typeLookup (.type T) "__getitem__"=pure (some (.builtin id)))(hs:LD slice)
 (h:wpAny (model prog w) A (eval value env) (λo cX=>wpAny (model prog w) A (eval slice env) (λi mF=>mF.TypeIs o T/\wpAny (model prog w) A (getItem o i) Q E mF) E cX) E s):
 wpAny (model prog w) A (eval (.Subscript value slice pos) env) Q E s:=by
 refine Subscript_ (wpAny_mono h (λo cX Lz=>wpAny_mono Lz (λi mF HP=> ?_) λ_ _ x=>x) λ_ _ x=>x)
 obtain⟨hT,HP⟩:=HP
 unfold subscriptTail
 refine wpAny_bind ?_
 rw[getitemInPython_of_ne hT.not_modules]
 refine wpAny_bind (wpAny_specialOf hT hl ?_)
 have fin:wpAny (model prog w) A (subscripted slice false o i) (λr Ft=>wpAny (model prog w) A (letTemporaryGo value o r >>= λ_=>pure r) Q E Ft) E mF:=by
  rw[hs o i]
  exact wpAny_operating (wpAny_mono HP (λr Ft LB=>wpAny_bind (wpAny_letTemporaryGo (wpAny_pure LB))) λ_ _ x=>x)
 first
  |exact wpAny_pure (wpAny_bind fin)
  |exact wpAny_bind (wpAny_pure (wpAny_bind fin))
  |exact wpAny_bind fin
section
variable{X:Cx}{o i e value:Expr}{pos pos' mG:Pos}{td ty tv:TE}
end
section
variable{X:Cx}{pos:Pos}
end
section
variable{X:Cx}{ag:List (Addr×Obj)}{σ:St}{H:Hp}{s:Shared}{a:Addr}{y d:V}{u r:Value}{o:Option V}{A:Around}{E:Value->Shared->Prop}
end
section
variable{X:Cx}{o e f:Expr}{apos tL:Pos}{td ty tx:TE}
end
section
variable{X:Cx}{ag:List (Addr×Obj)}{σ:St}{H:Hp}{s:Shared}{a:Addr}{wL:List (Key×V)}{A:Around}{E:Value->Shared->Prop}
end
section
variable{X:Cx}{ag:List (Addr×Obj)}{σ:St}{H:Hp}{s:Shared}{a:Addr}{y:V}{u:Value}{A:Around}{E:Value->Shared->Prop}
end
section
variable{prog:Program}{w:World}{A:Around}{E:Value->Shared->Prop}
end
section
variable{X:Cx}
end
section
variable{X:Cx}{ag:List (Addr×Obj)}{σ:St}{H:Hp}{s:Shared}{h':Heap}
theorem Inv.Fu{t':Nat}{ch:List Addr}{T:Addr}{ob:HO}(I:Inv X ag σ H s)(k:∀b o,b∉ch->s.heap.get? b=some o->h'.get? b=some o)(hf:∀b∈ch,tG X ag H b)(hT:s.heap.objs.size<=T)
 (new:fX X.prog X.w (upd H T ob) h' T ob):Inv X ag σ (upd H T ob) { s with heap:=h',toks:=t' }:=by
 have hn:H T=none:=I.cW.fresh hT
 have SD:∀b u,H b=some u->b∉ch:=λb u e z=>by
  have q:=(hf b z).1
  rw[q] at e;cases e
 refine I.step (g':=s.gens) (d':=s.drawn) (ch:=ch) (λb hb=>⟨(hf b hb).2.2.2.1,(hf b hb).2.1,(hf b hb).2.2.2.2.1,(hf b hb).2.2.2.2.2⟩) (λb o _ _ hc e _=>k b o hc e) (λb o _ _ hc e _=>⟨o.slots,k b o hc e⟩)
  (λb o _ e n=> ?_) (λb o hc e=>⟨o,k b o hc e⟩) (λb xs e=> ?_) (λb o u e=> ?_) (λb ps e=>⟨#[],?_⟩) (λm hm=> ?_) (λb u e=> ?_) I.bare
 ·rw[aj (Nat.ne_of_lt (Nat.lt_of_lt_of_le (Heap.lt_size e) hT))];exact n
 ·rw[aj (aE e hn)];exact e
 ·rw[aj (aE e hn)];exact e
 ·rw[aj (aE e hn),e];simp
 ·obtain⟨o,es,ep,ho,r⟩:=hm
  exact⟨o,es,ep,k _ o (λz=>(hf _ z).2.1 rfl) ho,r⟩
 ·by_cases hb:b=T
  ·subst hb
   rw[ak] at e
   cases e
   exact new
  ·rw[aj hb] at e
   refine(I.cW b u e).E6 (λc v hc q=>k c v ?_ q) (λc q=>by rw[aj (aE q hn)];exact q) λc xs q=>by rw[aj (aE q hn)];exact q
   rcases hc with z|z
   ·rw[z];exact SD b u e
   ·exact SD c _ z
end
section
variable{X:Cx}
theorem HV{tg:Expr}{ag:List (Addr×Obj)}{σ:St}{H:Hp}{s:Shared}{R:It->Hp->Prop}{J:It}{tn:Nat->Heap->Prop}{tk:Nat}(I:Inv X ag σ H s)(o:Obj)
 (T:Turn X.prog X.w X.K tg J [s.heap.objs.size] s.heap.objs.size tn)(st:tn 0 (s.heap.push o))(q:R J H):V9 X ag σ tg R (.ref s.heap.objs.size) { s with heap:=s.heap.push o,toks:=tk }:=by
 refine⟨s.heap.objs.size, [s.heap.objs.size],tn,J,H,rfl,I.kept λb ob e=>Heap.get?_push_of_some _ e,T,st,λb hb=> ?_,q⟩
 have e:b=s.heap.objs.size:=by simpa using hb
 subst e
 exact I.Fb (Nat.le_refl _) (I.cW.fresh (Nat.le_refl _))
end
section
variable{X:Cx}{tg:Expr}
end
def T5(x:Str):It:=⟨λi _=>i<x.cps.size,λi H v H'=>H'=H/\∃c,x.cps[i]? =some c/\v=.str ⟨#[c]⟩,λi _=>x.cps.size<=i⟩
theorem zv{P:Program}{w:World}{K:W.Frag}{tg:Expr}(it:Addr)(x:Str)(t:Tok)(ty:String)(NX:ty="str_ascii_iterator"\/ty="str_iterator"):
 Turn P w K tg (T5 x) [it] it (λi h=>h.IsStrIter it ty x t i) where
 mem:=by simp
 obj:=λi h st b hb=>by
  have e:b=it:=by simpa using hb
  subst e
  obtain⟨o,e,c,d⟩:=st
  exact⟨o,e,λv z=>by rw[d] at z;cases z⟩
 keep:=λi h h' st k=>let⟨o,ho,r⟩:=st;⟨o,k it (by simp) o ho,r⟩
 item:=by
  intro X hP hw hK hc i ag s σ H E I hf st hg
  subst hP hw hK
  obtain⟨f0,f1,f2,f3,f4,f5⟩:=hf it (by simp)
  have W:Walks X.prog X.w X.A it [it] [it] x.cps.size (SignAt x) (λi h=>h.IsStrIter it ty x t i):=by
   rcases NX with e|e
   ·rw[e];exact Walks.strAscii (I.ok.hd hc) it x t
   ·rw[e];exact Walks.strWide (I.ok.hd hc) it x t
  have By: ["enumerate","zip","dict_itemiterator","dict_reverseitemiterator","odict_iterator","itertools.zip_longest","itertools.pairwise"].contains ty=false:=by
   rcases NX with e|e
   ·rw[e];decide
   ·rw[e];decide
  refine W.item i s _ _ hg st λv h' tk hv Ho kk=> ?_
  obtain⟨c,u,hcx,rfl⟩:=hv
  have I1:Inv X ag σ H { s with heap:=h',toks:=tk }:=I.turned (λb o hb e=>kk b o (by simpa using hb) e) f0 f1 f3 f4 f5
  obtain⟨oi,e,cc,dd⟩:=id Ho
  exact⟨_,rfl,DR (s:= { s with heap:=h',toks:=tk }) e cc dd By ⟨.str ⟨#[c]⟩,H,I1,⟨u,rfl⟩,⟨rfl,c,hcx,rfl⟩,Ho,λb hb=>(hf b hb).1⟩⟩
 done:=by
  intro X hP hw hK hc i ag s σ H E I hf st hg
  subst hP hw hK
  obtain⟨f0,f1,f2,f3,f4,f5⟩:=hf it (by simp)
  have hx:x.cps[i]? =none:=Array.getElem?_eq_none hg
  rcases NX with e|e
  ·rw[e] at st
   exact wpAny_pyNext_ascii_end (I.ok.hd hc) st hx λh' eb=>⟨rfl,I.turned (t':=s.toks) (λb o hb e=>eb b o hb e) f0 f1 f3 f4 f5⟩
  ·rw[e] at st
   exact wpAny_pyNext_wide_end (I.ok.hd hc) st hx λh' eb=>⟨rfl,I.turned (t':=s.toks) (λb o hb e=>eb b o hb e) f0 f1 f3 f4 f5⟩
 self:=λA i s Q E st h=>by
  rcases NX with e|e
  ·rw[e] at st;exact wpAny_pyIter_striter_ascii st h
  ·rw[e] at st;exact wpAny_pyIter_striter_wide st h
def T6(te:TE):TI:=λσ H R=>te σ H λv H1=>∃x,v=.str x/\R (T5 x) H1
theorem PN{X:Cx}{tg e:Expr}{te:TE}(he:PE X e te):PI X tg e (T6 te):=by
 intro ag s σ H R I h
 refine dJ (he ag s σ H _ I h) λv s1 ⟨y,H1,I1,r1,x,ex,q⟩=> ?_
 subst ex
 obtain⟨t,rfl⟩:=r1
 cases ha:x.cps.all (· <128)
 ·exact wpAny_pyIter_wide ha (HV (tk:=s1.toks) I1 _ (zv _ x t "str_iterator" (.inr rfl)) ⟨_,Heap.get?_push_size _ rfl,rfl,rfl⟩ q)
 ·exact wpAny_pyIter_ascii ha (HV (tk:=s1.toks) I1 _ (zv _ x t "str_ascii_iterator" (.inl rfl)) ⟨_,Heap.get?_push_size _ rfl,rfl,rfl⟩ q)
section
variable{prog:Program}{w:World}{A:Around}{E:Value->Shared->Prop}{s:Shared}
end
section
variable{X:Cx}{ag:List (Addr×Obj)}{σ:St}{H:Hp}{s:Shared}{d:Addr}{o:Obj}
end
section
variable{P:Program}{w:World}{K:W.Frag}{tg:Expr}{d:Addr}{o:Obj}{es:Array DictEntry}{ep:Nat}
end
section
variable{X:Cx}{tg e:Expr}{td:TE}{apos tL:Pos}
end
def T7(K:W.Frag)(a:Addr):It:=
 ⟨λi H=>∃(xs:List V)(x:V),aF K H a xs/\xs[i]? =some x,λi H v H'=>∃T x,v=.ref T/\H T=none/\H'=upd H T (.tup [.int (i:Nat),x])/\∀xs,aF K H a xs->xs[i]? =some x,λi H=>∃xs:List V,aF K H a xs/\xs.length<=i⟩
theorem Fv{P:Program}{w:World}{K:W.Frag}{elts:List Expr}{kk:Nat}{mG:Pos}(a e it:Addr):
 Turn P w K (.Tuple elts kk mG) (T7 K a) [e,it] e (λi h=>(∃old,IsEnum h e it ((i:Nat):Int) old)/\h.IsListIter it a i/\e≠it) where
 mem:=by simp
 obj:=λi h st b hb=>by
  obtain⟨⟨old,he⟩,⟨o,ho,hc,hd⟩,_⟩:=st
  have e':b=e\/b=it:=by simpa using hb
  rcases e' with z|z
  ·rw[z];exact⟨_,he,λv q=>nomatch q⟩
  ·rw[z];exact⟨o,ho,λv q=>by rw[hd] at q;cases q⟩
 keep:=λi h h' st k=>let⟨⟨old,he⟩,hi,hW⟩:=st;⟨⟨old,k e (by simp) _ he⟩,hi.at λo q=>k it (by simp) o q,hW⟩
 item:=by
  intro X hP hw hK hc i ag s σ H E I hf st hg
  subst hP hw hK
  obtain⟨⟨old,he⟩,hit,hW⟩:=st
  obtain⟨xs,x,hq,hx⟩:=hg
  obtain⟨its,rv,p,hz⟩:=I.list hq
  obtain⟨u,hu,ru⟩:=rv.get hx
  have YT:e<s.heap.objs.size:=Heap.lt_size he
  have hil:it<s.heap.objs.size:=by obtain⟨_,q,_⟩:=hit;exact Heap.lt_size q
  refine wpAny_pyNext_enum_item he hit p.isList (x:=u) (by simpa using hu) hW λh' ho W3 hT hsz hk=> ?_
  refine⟨_,rfl,wpAny_letOwnedTupleGo_enum (s:= { s with heap:=h',toks:=s.toks+1 }) ho λVh he' sb=> ?_⟩
  have hT2:Vh.get? s.heap.objs.size=some { cls:=.type "tuple",data:=.seq #[.int i s.toks,u] }:=(sb.2 _ (Nat.ne_of_gt YT)).trans hT
  have new:fX X.prog X.w (upd H s.heap.objs.size (.tup [.int (i:Nat),x])) Vh s.heap.objs.size (.tup [.int (i:Nat),x]):=
   ⟨by show 2<=sizeLine;decide, [.int i s.toks,u],.cons ⟨_,rfl⟩ (.cons ru .nil),⟨_,hT2,rfl,_,rfl⟩⟩
  have I1:Inv X ag σ (upd H s.heap.objs.size (.tup [.int (i:Nat),x])) { s with heap:=Vh,toks:=s.toks+1 }:=
   I.Fu (ch:= [e,it]) (λb ob hb q=>(sb.2 b (λz=>hb (by simp[z]))).trans (hk b ob (λz=>hb (by simp[z])) (λz=>hb (by simp[z])) q)) hf (Nat.le_refl _) new
  refine⟨.ref s.heap.objs.size,_,I1,rfl,⟨_,x,rfl,I.cW.fresh (Nat.le_refl _),rfl,λys hy=>by rw[I.y9 hy hq];exact hx⟩,⟨⟨u,?_⟩,W3.at λo q=>(sb.2 it (Ne.symm hW)).trans q,hW⟩,λb hb=> ?_⟩
  ·have e1:((i+1:Nat):Int)=(i:Int)+1:=by omega
   rw[e1];exact he'
  ·have hb':b<s.heap.objs.size:=by
    have e':b=e\/b=it:=by simpa using hb
    rcases e' with z|z
    ·rw[z];exact YT
    ·rw[z];exact hil
   rw[aj (Nat.ne_of_lt hb')]
   exact(hf b hb).1
 done:=by
  intro X hP hw hK hc i ag s σ H E I hf st hg
  subst hP hw hK
  obtain⟨⟨old,he⟩,hit,hW⟩:=st
  obtain⟨xs,hq,hx⟩:=hg
  obtain⟨its,rv,p,hz⟩:=I.list hq
  obtain⟨f0,f1,f2,f3,f4,f5⟩:=hf it (by simp)
  have hl:=rv.length
  exact wpAny_pyNext_enum_end (I.ok.hd hc) he hit p.isList (by simp;omega) λh' eb=>⟨rfl,I.turned (t':=s.toks) (λb o hb q=>eb b o hb q) f0 f1 f3 f4 f5⟩
 self:=λA i s Q E st h=>let⟨⟨_,he⟩,_⟩:=st;wpAny_pyIter_enum he h
def T8(K:W.Frag)(ta:TA):TI:=λσ H R=>ta σ H λvs H1=>∃a xs,vs= [.ref a]/\aF K H1 a xs/\R (T7 K a) H1
theorem LH{X:Cx}{e:Expr}{ta:TA}{p pos mG:Pos}{elts:List Expr}{kk:Nat}(hg:Gl X "enumerate")(hm:X.mg "enumerate"=none)(ha:PA X [e] ta)(hs:starEach [e] X.env= [(false,eval e X.env)]:=by rfl):
 PI X (.Tuple elts kk mG) (.Call (.Name "enumerate" p) [e] [] pos) (T8 X.K ta):=by
 intro ag s σ H R I h
 refine Call_ (wQ I hg hm boot_enumerate (PyProof.Rows.callWith_type1 (dJ (ha pos ag s σ H _ I h) λus s1 ⟨vs,H1,I1,r1,q1⟩=> ?_) hs rfl))
 obtain⟨a,xs,ex,hq,q⟩:=q1
 subst ex
 cases r1 with
 |cons r rr=>
  cases rr
  cases r
  obtain⟨its,rv,p',hz⟩:=I1.list hq
  refine call_enumerate_list p'.isList λh' he hit hsz hk=>wpAny_pyIter_enum he ?_
  have I2:Inv X ag σ H1 { s1 with heap:=h' }:=I1.kept (t':=s1.toks) hk
  refine⟨s1.heap.objs.size+1, [s1.heap.objs.size+1,s1.heap.objs.size],_,_,H1,rfl,I2,Fv a (s1.heap.objs.size+1) s1.heap.objs.size,⟨⟨.none,he⟩,hit,Nat.succ_ne_self _⟩,λb hb=> ?_,q⟩
  have e':b=s1.heap.objs.size+1\/b=s1.heap.objs.size:=by simpa using hb
  have hle:s1.heap.objs.size<=b:=by
   rcases e' with z|z
   ·rw[z];exact Nat.le_add_right _ _
   ·rw[z];exact Nat.le_refl _
  exact I1.Fb hle (I1.cW.fresh hle)
end L2
section
namespace W4
open PySem PyProof.Rows
end W4
end
section
namespace TL
open PySem PySem.Builtin PySem.Builtin.Str PySem.StrLaws
abbrev tl(x:Str):List Nat:=x.cps.toList
theorem BD{x y:Str}(h:tl x=tl y):x=y:=Str.ext' (Array.toList_inj.mp h)
theorem lV(x y:Str):tl (x++y)=tl x++tl y:=by
 show(x++y).cps.toList=_
 rw[Str.cps_append,Array.toList_append]
def kY(S:List Nat):List (List Nat)->List Nat
 | []=> []
 | [p]=>p
 |p::q::r=>p++(S++kY S (q::r))
theorem D2(y:Str):∀parts:List Str,tl (Str.join y parts)=kY (tl y) (parts.map tl)
 | []=>rfl
 | [_]=>rfl
 |x::z::r=>by
  show tl (x++y++Str.join y (z::r))=tl x++(tl y++kY (tl y) ((z::r).map tl))
  rw[lV,lV,D2 y (z::r),List.append_assoc]
theorem join_eq(y:Str)(parts:List Str):Txt.join y parts=Str.join y parts:=glued_eq_join y parts
end TL
end
namespace L2
open PySem PySem.Spec PyProof.Rows
theorem ju:∀{ys:List Str}{us:List Value},Vals (ys.map V.str) us->StrsAre us ys
 | [],_,.nil=>.nil
 |y::ys,_,.cons r t=>by
  obtain⟨k,rfl⟩:=r
  exact .cons y k (ju t)
section
variable{X:Cx}{ag:List (Addr×Obj)}{σ:St}{H:Hp}{s:Shared}{Q:VK}
end
section
variable{X:Cx}
theorem LJ:HD X "str.join" (λx xs H Q=>∃a p,∃ys:List Str,x=.str a/\xs= [.ref p]/\(aF X.K H p (ys.map V.str)\/pZ X.K H p (ys.map V.str))/\
 (ys.map (·.length)).sum+ys.length * a.length<=16777216/\Q (.str (Txt.join a ys)) H):=by
 intro ag s σ H x xs v us Q I rx rs h
 obtain⟨a,p,ys,rfl,rfl,hp,hz,h⟩:=h
 obtain⟨t,rfl⟩:=rx
 cases rs with
 |cons r1 rs=>
  cases rs
  cases r1
  rcases hp with hp|hp
  ·obtain⟨its,r,⟨o,n,ho,hc,_,hd⟩,_⟩:=I.list hp
   exact PyProof.Rows.join_list (items:=its.toArray) ⟨o,ho,hc,n,hd⟩ (by rw[List.toList_toArray];exact ju r) hz λt' k=>⟨.str _,H,I.tok k,⟨t',rfl⟩,h⟩
  ·obtain⟨its,r,ht,_⟩:=I.tuple hp
   exact PyProof.Rows.join_tuple (items:=its.toArray) ht (by rw[List.toList_toArray];exact ju r) hz λt' k=>⟨.str _,H,I.tok k,⟨t',rfl⟩,h⟩
theorem mt0{id:String}{C:Str->Prop}{g:Str->V}(rule:∀(a:Str)(t:Tok)(s:Shared)(Q:Value->Shared->Prop),C a->(∀(u:Value)(k:Nat),RelV (g a) u->Q u { s with toks:=k })->
 wpAny (model X.prog X.w) X.A (call (.builtin id) [.str a t]) Q X.xe s):HD X id (λx xs H Q=>∃a,x=.str a/\xs= []/\C a/\Q (g a) H):=by
 intro ag s σ H x xs v us Q I rx rs h
 obtain⟨a,rfl,rfl,hc,h⟩:=h
 obtain⟨t,rfl⟩:=rx
 cases rs
 exact rule a t s _ hc λu k r=>⟨g a,H,I.tok k,r,h⟩
theorem BE:HD X "str.isdigit" (λx xs H Q=>∃a,x=.str a/\xs= []/\True/\Q (.bl (Txt.isdigit a)) H):=
 mt0 (C:=λ_=>True) (g:=λa=>.bl (Txt.isdigit a)) λ_ _ s _ _ h=>PySem.SC.isdigit (h _ s.toks rfl)
theorem mt1{id:String}{g:Str->Str->V}(rule:∀(a b:Str)(t u:Tok)(s:Shared)(Q:Value->Shared->Prop),(∀(v:Value)(k:Nat),RelV (g a b) v->Q v { s with toks:=k })->
 wpAny (model X.prog X.w) X.A (call (.builtin id) [.str a t,.str b u]) Q X.xe s):HD X id (λx xs H Q=>∃a b,x=.str a/\xs= [.str b]/\Q (g a b) H):=by
 intro ag s σ H x xs v us Q I rx rs h
 obtain⟨a,b,rfl,rfl,h⟩:=h
 obtain⟨t,rfl⟩:=rx
 cases rs with
 |cons r1 rs=>
  cases rs
  obtain⟨u,rfl⟩:=r1
  exact rule a b t u s _ λv k r=>⟨g a b,H,I.tok k,r,h⟩
theorem vd:HD X "str.startswith" (λx xs H Q=>∃a b,x=.str a/\xs= [.str b]/\Q (.bl (Txt.startswith a b)) H):=
 mt1 (g:=λa b=>.bl (Txt.startswith a b)) λ_ _ _ _ s _ h=>PySem.SC.startswith (h _ s.toks rfl)
theorem xh:j7 X (.type "int") (λxs H Q=>∃a n,xs= [.str a]/\PySem.intText? a=some n/\a.length<=640/\Q (.int n) H):=by
 intro ag s σ H xs us Q I rs h
 obtain⟨a,n,rfl,hn,hl,h⟩:=h
 cases rs with
 |cons r1 rs=>
  cases rs
  obtain⟨t,rfl⟩:=r1
  exact W.KIN.call_text hn hl ⟨.int n,H,I.tok _,⟨_,rfl⟩,h⟩
end
section
variable{X:Cx}{o e:Expr}{to te:TE}
def tM0(r:V->List V->Hp->VK->Prop)(to:TE):TE:=λσ H Q=>to σ H λx H1=>(∃a,x=.str a)/\r x [] H1 Q
def YV(r:V->List V->Hp->VK->Prop)(to te:TE):TE:=λσ H Q=>to σ H λx H1=>(∃a,x=.str a)/\te σ H1 λy H2=>r x [y] H2 Q
theorem T9{id:String}{name:Str}{apos pos:Pos}{r:V->List V->Hp->VK->Prop}(slot:Slot "str" name id)(ty:typeOf (.builtin id)=pure (.type "method_descriptor"))(rule:HD X id r)(ho:PE X o to)
 (cC:attributeBase o name X.env (eval o X.env)=eval o X.env:=by rfl)(hline:(apos.endLine==pos.line)=true:=by rfl):PE X (.Call (.Attribute o name apos) [] [] pos) (tM0 r to):=by
 intro ag s σ H Q I h
 refine PySem.Call_method0 cC hline (dJ (ho ag s σ H _ I h) λv s1 ⟨x,H1,I1,r1,q1⟩=> ?_)
 obtain⟨⟨a,rfl⟩,q1⟩:=q1
 obtain⟨t,rfl⟩:=_root_.id r1
 exact⟨"str",_,F.plainAttrs_str,slot,ty,typeIs_str _ _ _,(λ_ e=>nomatch e),Calls.callWith_builtin rfl (PySem.evalArgs_none (rule ag s1 σ H1 _ [] _ [] Q I1 r1 .nil q1))⟩
theorem N1{id:String}{name:Str}{apos pos:Pos}{r:V->List V->Hp->VK->Prop}(slot:Slot "str" name id)(ty:typeOf (.builtin id)=pure (.type "method_descriptor"))(rule:HD X id r)(ho:PE X o to)(he:PE X e te)
 (hs:starEach [e] X.env= [(false,eval e X.env)]:=by rfl)(cC:attributeBase o name X.env (eval o X.env)=eval o X.env:=by rfl)(hline:(apos.endLine==pos.line)=true:=by rfl):
 PE X (.Call (.Attribute o name apos) [e] [] pos) (YV r to te):=by
 intro ag s σ H Q I h
 refine PySem.Call_method1 cC hs hline (dJ (ho ag s σ H _ I h) λv s1 ⟨x,H1,I1,r1,q1⟩=> ?_)
 obtain⟨⟨a,rfl⟩,q1⟩:=q1
 obtain⟨t,rfl⟩:=_root_.id r1
 refine⟨"str",_,F.plainAttrs_str,slot,ty,typeIs_str _ _ _,(λ_ e=>nomatch e),Calls.callWith_builtin rfl (Calls.evalArgs_plain (Calls.spliced_cons ?_))⟩
 exact dJ (he ag s1 σ H1 _ I1 q1) λu s2 ⟨y,H2,I2,r2,q2⟩=>Calls.spliced_nil (rule ag s2 σ H2 _ [y] _ [u] Q I2 r1 (.cons r2 .nil) q2)
theorem LK{apos pos:Pos}(ho:PE X o to)(he:PE X e te)(hs:starEach [e] X.env= [(false,eval e X.env)]:=by rfl)(cC:attributeBase o "join" X.env (eval o X.env)=eval o X.env:=by rfl)(hline:(apos.endLine==pos.line)=true:=by rfl):
 PE X (.Call (.Attribute o "join" apos) [e] [] pos) (YV (λx xs H Q=>∃a p,∃ys:List Str,x=.str a/\xs= [.ref p]/\(aF X.K H p (ys.map V.str)\/pZ X.K H p (ys.map V.str))/\
  (ys.map (·.length)).sum+ys.length * a.length<=16777216/\Q (.str (Txt.join a ys)) H) to te):=
 N1 F.slot_str_join F.type_str_join LJ ho he hs cC hline
end
section
variable{X:Cx}
theorem BF:oq X (compareOp .In) (λx y H Q=>∃(c:Nat)(z:Str),x=.str ⟨#[c]⟩/\y=.str z/\Q (.bl (decide (c∈z.cps.toList))) H):=by
 intro ag s σ H x y v u Q I rx ry h
 obtain⟨c,z,rfl,rfl,q⟩:=h
 obtain⟨t,rfl⟩:=rx
 obtain⟨t',rfl⟩:=ry
 exact PyProof.Rows.in_str (bt I q (PySem.StrLaws.found_one z c).symm)
end
theorem IsPart.raw{v:Value}{o:Option Int}(p:IsPart v o):∃l:Option (Int×Tok),v=partValue l/\l.map (·.1)=o:=by
 cases p with
 |none=>exact⟨none,rfl,rfl⟩
 |int i t=>exact⟨some (i,t),rfl,rfl⟩
def zx(n d:Nat):Option Int->Int
 |none=>(d:Int)
 |some i=>max 0 (min (if i<0 then i+(n:Int) else i) (n:Int))
theorem zy(n d:Nat)(o:Option Int):zx n d o=((HT.gu n d o:Nat):Int):=by
 cases o with
 |none=>rfl
 |some v=>
  show max (0:Int) (min (if v<0 then v+(n:Int) else v) (n:Int))=(((if v<0 then(v+(n:Int)).toNat else min v.toNat n):Nat):Int)
  by_cases hv:v<0
  ·simp only[if_pos hv]
   omega
  ·simp only[if_neg hv]
   omega
theorem Fw(a b:Option Int)(n:Nat):Builtin.Str.strSliceIndices a b 1 n=sliceRange (zx n 0 a) (zx n n b) 1:=by
 have h1:((1:Int) > 0)=True:=by simp
 cases a<;>cases b<;>first
  |rfl
  | (simp only[Builtin.Str.strSliceIndices,zx,h1,if_true];rfl)
  |simp[Builtin.Str.strSliceIndices,zx]
theorem W5(a b:Option Int)(n:Nat):Builtin.Str.strSliceIndices a b 1 n=(List.range (HT.gu n n b - HT.gu n 0 a)).map (λk=>HT.gu n 0 a+k):=by
 rw[Fw,zy,zy]
 generalize HT.gu n 0 a=p
 generalize HT.gu n n b=q
 simp only[sliceRange,show((1:Int) > 0)=True from by simp,if_true]
 by_cases gJ:(p:Int)<q
 ·have e3:(((q:Int) - p+1 - 1) / 1).toNat=q - p:=by first|omega| (simp;done)| (simp;omega)
  simp only[gJ,if_true,e3]
  refine List.map_congr_left λk _=> ?_
  omega
 ·have:q - p=0:=by omega
  simp[gJ,this]
def HW(z:Str)(lo hi:Option Int):Str:=
 ⟨((z.cps.toList.drop (HT.gu z.length 0 lo)).take (HT.gu z.length z.length hi - HT.gu z.length 0 lo)).toArray⟩
theorem mL(z:Str)(lo hi:Option Int):PySem.StrLaws.sliceText z lo hi=HW z lo hi:=by
 have h1:HT.gu z.length 0 lo<=z.length:=HT.HC _ _ (Nat.zero_le _) _
 have h2:HT.gu z.length z.length hi<=z.length:=HT.HC _ _ (Nat.le_refl _) _
 have hp:HT.gu z.length 0 lo<=max (HT.gu z.length 0 lo) (HT.gu z.length z.length hi):=Nat.le_max_left _ _
 have hq:max (HT.gu z.length 0 lo) (HT.gu z.length z.length hi)<=z.length:=Nat.max_le.mpr ⟨h1,h2⟩
 have hd:max (HT.gu z.length 0 lo) (HT.gu z.length z.length hi) - HT.gu z.length 0 lo=HT.gu z.length z.length hi - HT.gu z.length 0 lo:=by omega
 have e:Builtin.Str.strSliceIndices lo hi 1 z.length=
  Builtin.Str.strSliceIndices (some ((HT.gu z.length 0 lo:Nat):Int)) (some ((max (HT.gu z.length 0 lo) (HT.gu z.length z.length hi):Nat):Int)) 1 z.length:=by
  rw[PySem.StrLaws.strSliceIndices_plain hp hq,hd,W5]
 have e2:PySem.StrLaws.sliceText z lo hi=
  PySem.StrLaws.sliceText z (some ((HT.gu z.length 0 lo:Nat):Int)) (some ((max (HT.gu z.length 0 lo) (HT.gu z.length z.length hi):Nat):Int)):=by
  unfold PySem.StrLaws.sliceText
  rw[e]
 rw[e2,PySem.StrLaws.sliceText_nat z hp hq,hd]
 rfl
theorem zA(z:Str)(lo hi:Option Int):(HW z lo hi).length<=z.length:=by
 show(((z.cps.toList.drop (HT.gu z.length 0 lo)).take (HT.gu z.length z.length hi - HT.gu z.length 0 lo)).toArray).size<=z.cps.size
 rw[List.size_toArray,List.length_take,List.length_drop,Array.length_toList]
 omega
def W6:V->Option Int->Option Int->Hp->VK->Prop:=λx lo hi H Q=>∃z,x=.str z/\z.length<=sizeLine/\Q (.str (HW z lo hi)) H
theorem PQ{X:Cx}:Wl X W6:=by
 intro ag s σ H x v vl vu lo hi sl Q I rx hs pl pu h
 obtain⟨z,rfl,hz,q⟩:=h
 obtain⟨t,rfl⟩:=rx
 obtain⟨os,hos,hcs,hds⟩:=hs
 obtain⟨l,rfl,rfl⟩:=IsPart.raw pl
 obtain⟨u,rfl,rfl⟩:=IsPart.raw pu
 refine⟨"str",_,F.slot_str_getitem.lookup,typeIs_str _ _ _,?_⟩
 refine wpAny_getItem_str_slice (l:=l) (u:=u) (st:=none) ⟨os,hos,hcs,hds⟩ rfl ?_
 have hl:(PySem.StrLaws.sliceText z (l.map (·.1)) (u.map (·.1))).length<=sizeLine:=by
  rw[mL]
  exact Nat.le_trans (zA z _ _) hz
 rw[<-mL] at q
 unfold PySem.StrLaws.sliceText at q hl
 show Made.post (if ((1:Int)==1&&(Builtin.Str.strSliceIndices (l.map (·.1)) (u.map (·.1)) 1 z.length).length==z.length)=true then Made.val (.str z t)
  else Made.str ⟨((Builtin.Str.strSliceIndices (l.map (·.1)) (u.map (·.1)) 1 z.length).filterMap (z.cps[·]?)).toArray⟩) (EP X ag σ Q) s
 by_cases c:((1:Int)==1&&(Builtin.Str.strSliceIndices (l.map (·.1)) (u.map (·.1)) 1 z.length).length==z.length)=true
 ·rw[if_pos c] at q ⊢
  exact⟨.str z,H,I,⟨t,rfl⟩,q⟩
 ·rw[if_neg c] at q hl ⊢
  exact⟨hl,.str _,H,I.tok _,⟨_,rfl⟩,q⟩
end L2
namespace Att
open PySem PySem.W PySem.Calls PyProof.Rows
section
variable{prog:Program}{w:World}{A:Around}{E:Value->Shared->Prop}{s:Shared}{K:Frag}
end
end Att
namespace L2
open PySem PySem.Spec PyProof.Rows
def inClass(s:Stmt)(j:Nat):Stmt:=match s with
 | .ClassDef _ _ _ body _ _ _ _ _ _ _=>body.getD j (.Pass ⟨0,0,0,0⟩)
 |_=>.Pass ⟨0,0,0,0⟩
def dE(s:Stmt):Arguments:=match s with
 | .FunctionDef _ a _ _ _ _ _ _ _ _=>a
 |_=> { posonlyargs:= [],args:= [],vararg:=none,kwonlyargs:= [],kw_defaults:= [],kwarg:=none,defaults:= [] }
def bL(s:Stmt):List Stmt:=match s with
 | .FunctionDef _ _ b _ _ _ _ _ _ _=>b
 |_=> []
def ah(s:Stmt):Scope:=match s with
 | .FunctionDef _ _ _ _ _ _ sc _ _ _=>sc
 |_=> { kind:=.function,names:= [],isGenerator:=false,isCoroutine:=false }
abbrev eT:G8:=λ_ _ _ _ _ _=>False
abbrev E0:XK:=λ_ _ _=>False
theorem mN{X:Cx}:Passes eT X E0:=λ_ _ _ _ _ _ _ h=>h.elim
structure jq(K:W.Frag)(x qual:Str)(st:Stmt)(f:Addr)(fd:FuncData):Prop where
 ex:∃(oc:Value)(od:Option Addr)(kV doc pm:Value)(an:Option Addr)(aK ct:Value)(Bu:Array (Option Value)),
  fd=W.fnOf x qual (dE st) (bL st) (ah st) .none kV doc pm an aK ct/\K.lookup f=some ⟨oc,od,.func fd,Bu⟩/\W.codeIn K aK qual=true
 kp:W.keepIn K (.ref f)=true
section
variable{P:Program}{w:World}{K:W.Frag}{mg:Str->Option Value}{ae:Heap}
theorem jq.ok{x qual:Str}{st:Stmt}{f:Addr}{fd:FuncData}{N ps:List Str}{k:Nat}{sp:Sp}(F:jq K x qual st f fd)(S:ao N ps (ah st))(len:∀vs H Q E,sp vs H Q E->vs.length=ps.length)
 (Hz:∀(aK:Value)(A:Around)(aq:List Env)(s:Shared)(H:Hp)(vs:List V)(Q:VK)(E:XK),dC k (A.deeper (envOfC qual (ah st) s.heap.objs.size f aK))->sp vs H Q E->
   ∃t,Bl (Bt eT P w K mg ae N qual (ah st) f aK A aq s H E).SV (bL st) t/\t { nx:=λ_ H'=>Q .non H',rt:=Q } (start N vs) H):bD P w K mg ae eT (k+1) f fd ps sp:=by
 obtain⟨oc,od,kV,doc,pm,an,aK,ct,Bu,rfl,lk,KN⟩:=F.ex
 refine TC lk KN S len λA aq s H vs Q E hr qO=> ?_
 obtain⟨t,h,q⟩:=Hz aK A aq s H vs Q E hr qO
 exact⟨t,h.SV,q⟩
theorem jq.binds{x qual:Str}{st:Stmt}{f:Addr}{fd:FuncData}{ps:List Str}(F:jq K x qual st f fd)
 (h:∀(kV doc pm:Value)(an:Option Addr)(aK ct:Value)(us:List Value),us.length=ps.length->bindArgs (W.fnOf x qual (dE st) (bL st) (ah st) .none kV doc pm an aK ct) ⟨us, []⟩=pure (ps.zip us)):Binds K fd ps []:=by
 obtain⟨oc,od,kV,doc,pm,an,aK,ct,Bu,rfl,lk,KN⟩:=F.ex
 exact .all (h kV doc pm an aK ct)
theorem HX{x qual:Str}{st:Stmt}{f:Addr}{oc:Value}{od an:Option Addr}{Bu:Array (Option Value)}{kV doc pm aK ct:Value}(l:K.lookup f=some ⟨oc,od,.func (W.fnOf x qual (dE st) (bL st) (ah st) .none kV doc pm an aK ct),Bu⟩)
 (c:W.codeIn K aK qual=true)(k:W.keepIn K (.ref f)=true):jq K x qual st f (W.fnOf x qual (dE st) (bL st) (ah st) .none kV doc pm an aK ct):=⟨⟨oc,od,kV,doc,pm,an,aK,ct,Bu,rfl,l,c⟩,k⟩
end
theorem cu{n:Nat}(h:n<=1000):n<sizeLine:=Nat.lt_of_le_of_lt h (by decide)
section
variable{X:Cx}
end
def au(H H':Hp):Prop:=∀b o,H b=some o->H' b=some o
theorem au.refl(H:Hp):au H H:=λ_ _ h=>h
theorem au.trans{H H1 H2:Hp}(a:au H H1)(b:au H1 H2):au H H2:=λc o h=>b c o (a c o h)
theorem au.free{H H':Hp}(e:au H H'){l:Addr}(h:H' l=Option.none):H l=Option.none:=by
 cases q:H l with
 |none=>rfl
 |some o=>
  rw[e l o q] at h
  cases h
theorem au.seq{K:W.Frag}{H H':Hp}{a:Addr}{xs:List V}(e:au H H')(h:aF K H a xs):aF K H' a xs:=by
 rcases h with(h|⟨o,h⟩)|h
 ·exact .inl (.inl (e _ _ h))
 ·exact .inl (.inr ⟨o,e _ _ h⟩)
 ·exact .inr h
section
variable{κ:Type} [DecidableEq κ]
end
theorem Ua{α:Type}{l:List α}(hN:l.Nodup){i j:Nat}{x:α}(a:l[i]? =some x)(b:l[j]? =some x):i=j:=by
 obtain⟨h1,e1⟩:=List.getElem?_eq_some_iff.mp a
 obtain⟨h2,e2⟩:=List.getElem?_eq_some_iff.mp b
 exact(List.getElem_inj hN).mp (e1.trans e2.symm)
theorem au.made{H H1:Hp}{x dx C:Addr}(nx:H x=Option.none)(nd:H dx=Option.none)(k:∀b o,(upd (upd H dx (.own x)) x (.ins C dx [])) b=some o->b≠x->H1 b=some o):au H H1:=λb o e=>
 k b o (by rw[aj (aE e nx),aj (aE e nd)];exact e) (aE e nx)
end L2
section
namespace L2
open PySem PySem.Spec PyProof.Rows
open PySem.W (WData Codec OpenSpec Well WellAll ReadsW ReadsAllW)
mutual
inductive Dw(K:W.Frag)(H:Hp):V->WData->Prop
 |non:Dw K H .non .none
 |bl (b:Bool):Dw K H (.bl b) (.bool b)
 |int (i:Int):Dw K H (.int i) (.int i)
 |str (x:Str):Dw K H (.str x) (.str x)
 |y2 (b:Array UInt8):Dw K H (.y2 b) (.bytes b.toList)
 |lst {a:Addr} {xs:List V} {ds:List WData}:aF K H a xs->j8 K H xs ds->Dw K H (.ref a) (.list ds)
 |tup {a:Addr} {xs:List V} {ds:List WData}:pZ K H a xs->j8 K H xs ds->Dw K H (.ref a) (.tuple ds)
inductive j8(K:W.Frag)(H:Hp):List V->List WData->Prop
 |nil:j8 K H [] []
 |cons {v:V} {vs:List V} {d:WData} {ds:List WData}:Dw K H v d->j8 K H vs ds->j8 K H (v::vs) (d::ds)
end
theorem D3{K:W.Frag}{H:Hp}:∀ns:List Int,j8 K H (ns.map V.int) (ns.map WData.int)
 | []=>.nil
 |n::r=>.cons (.int n) (D3 r)
theorem D4{K:W.Frag}{H:Hp}:∀(ns:List Int)(xs:List V),j8 K H xs (ns.map WData.int)->xs=ns.map V.int
 | [],xs,h=>by
   cases h
   rfl
 |n::r,xs,h=>by
  cases h with
  |cons h1 h2=>
   cases h1
   rw[D4 r _ h2]<;>rfl
section
variable{P:Program}{w:World}{K:W.Frag}{H:Hp}{h:Heap}{R:W.WRecords}{cl:Str->Option Addr}
theorem PR{a:Addr}{xs:List V}(cW:om P w H h)(KX:K.In h)(q:aF K H a xs):∃(its:List Value)(o:Obj)(n:Nat),Vals xs its/\h.get? a=some o/\o.cls=.type "list"/\o.data=.seq its.toArray n:=by
 rcases q with q|⟨o,its,n,e,hc,_,hd,_,hv⟩
 ·obtain⟨_,its,n,hv,e⟩:=(show fX P w H h a (.lst xs) from q.ok cW)
  exact⟨its,_,n,hv,e,rfl,rfl⟩
 ·exact⟨its.toList,o,n,hv,KX _ _ e,hc,by simp[hd]⟩
theorem PV{a:Addr}{xs:List V}(cW:om P w H h)(KX:K.In h)(q:pZ K H a xs):∃(its:List Value)(o:Obj)(n:Nat),Vals xs its/\h.get? a=some o/\o.cls=.type "tuple"/\o.data=.seq its.toArray n:=by
 rcases q with q|⟨o,its,n,e,hc,hd,_,hv⟩
 ·obtain⟨_,its,hv,o,e,hc,n,hd⟩:=(show fX P w H h a (.tup xs) from q.ok cW)
  exact⟨its,o,n,hv,e,hc,hd⟩
 ·exact⟨its.toList,o,n,hv,KX _ _ e,hc,by simp[hd]⟩
mutual
theorem Dw.reads(cW:om P w H h)(KX:K.In h):∀(d:WData)(v:V)(u:Value),Dw K H v d->RelV v u->∃as,ReadsW R cl h u d as
 | .none,_,_,x,r=>by
   cases x
   cases r
   exact⟨_,ReadsW.none⟩
 | .bool b,_,_,x,r=>by
   cases x
   cases r
   exact⟨_,ReadsW.bool b⟩
 | .int i,_,_,x,r=>by
   cases x
   obtain⟨t,rfl⟩:=r
   exact⟨_,ReadsW.int i t⟩
 | .str s,_,_,x,r=>by
   cases x
   obtain⟨t,rfl⟩:=r
   exact⟨_,ReadsW.str s t⟩
 | .bytes b,_,_,x,r=>by
   cases x
   obtain⟨t,rfl⟩:=r
   exact⟨_,ReadsW.bytes _ t⟩
 | .list ds,_,_,x,r=>by
   cases x with
   |lst hs ha=>
    cases r
    obtain⟨its,o,n,rv,ho,hc,hd⟩:=PR cW KX hs
    obtain⟨as,hr⟩:=Dw.readsAll cW KX ds _ its ha rv
    exact⟨_,ReadsW.list ho hc hd hr⟩
 | .tuple ds,_,_,x,r=>by
   cases x with
   |tup hs ha=>
    cases r
    obtain⟨its,o,n,rv,ho,hc,hd⟩:=PV cW KX hs
    obtain⟨as,hr⟩:=Dw.readsAll cW KX ds _ its ha rv
    exact⟨_,ReadsW.tuple ho hc hd hr⟩
 | .float _,_,_,x,_=>by cases x
 | .dict _,_,_,x,_=>by cases x
 | .bytearray _,_,_,x,_=>by cases x
 | .set _,_,_,x,_=>by cases x
 | .frozenset _,_,_,x,_=>by cases x
 | .obj _ _,_,_,x,_=>by cases x
theorem Dw.readsAll(cW:om P w H h)(KX:K.In h):∀(ds:List WData)(vs:List V)(us:List Value),j8 K H vs ds->Vals vs us->∃as,ReadsAllW R cl h us ds as
 | [],_,_,x,r=>by
   cases x
   cases r
   exact⟨_,ReadsAllW.nil⟩
 |d::ds,_,_,x,r=>by
  cases x with
  |cons h1 h2=>
   cases r with
   |cons r1 r2=>
    obtain⟨as,q1⟩:=Dw.reads cW KX d _ _ h1 r1
    obtain⟨bs,q2⟩:=Dw.readsAll cW KX ds _ _ h2 r2
    exact⟨_,ReadsAllW.cons q1 q2⟩
end
end
mutual
def D5:WData->Bool
 | .none=>true
 | .bool _=>true
 | .int _=>true
 | .str _=>true
 | .bytes _=>true
 | .list xs=>rR xs
 | .tuple xs=>rR xs
 |_=>false
def rR:List WData->Bool
 | []=>true
 |x::r=>D5 x&&rR r
end
theorem zB{α:Type}{f:α->WData}(h:∀a,D5 (f a)=true):∀l:List α,rR (l.map f)=true
 | []=>rfl
 |x::r=>by
  show(D5 (f x)&&rR (r.map f))=true
  rw[h x,zB h r]<;>rfl
theorem kZ:∀(c:Codec)(a:c.denote),D5 (c.enc a)=true
 | .unit,_=>rfl
 | .bool,_=>rfl
 | .int _ _,_=>rfl
 | .nat _ _,_=>rfl
 | .u8,_=>rfl
 | .bytes _ _,_=>rfl
 | .text _ _ _ _,_=>rfl
 | .list _ _ c,a=>zB (λx=>kZ c x) a
 | .pair c d,a=>by
   show(D5 (c.enc a.1)&&(D5 (d.enc a.2)&&true))=true
   rw[kZ c a.1,kZ d a.2]<;>rfl
 | .triple c d e,a=>by
   show(D5 (c.enc a.1)&&(D5 (d.enc a.2.1)&&(D5 (e.enc a.2.2)&&true)))=true
   rw[kZ c a.1,kZ d a.2.1,kZ e a.2.2]<;>rfl
 | .option c,none=>rfl
 | .option c,some x=>kZ c x
theorem vT:∀(cs:List Codec)(a:Codec.denoteAll cs),rR (Codec.encAll cs a)=true
 | [],_=>rfl
 |c::cs,a=>by
  show(D5 (c.enc a.1)&&rR (Codec.encAll cs a.2))=true
  rw[kZ c a.1,vT cs a.2]<;>rfl
theorem nF:∀{xs:List WData}{d:WData},d∈xs->d.weight<=WData.weightAll xs
 | [],d,h=>absurd h (by simp)
 |x::r,d,h=>by
  show d.weight<=x.weight+1+WData.weightAll r
  rcases List.mem_cons.mp h with e|m
  ·rw[e]
   omega
  ·have z:=nF m
   omega
def toV:Value->V
 | .none=>.non
 | .bool b=>.bl b
 | .int i _=>.int i
 | .str x _=>.str x
 | .bytes b _=>.y2 b
 | .ref a=>.ref a
 |_=>.non
def Fx(A:List Addr):Value->Prop
 | .none=>True
 | .bool _=>True
 | .int _ _=>True
 | .str _ _=>True
 | .bytes _ _=>True
 | .ref a=>a∈A
 |_=>False
theorem Fx.mono{A B:List Addr}(h:∀a∈A,a∈B):∀{u:Value},Fx A u->Fx B u:=λ{u} x=>by
 cases u with
 |ref a=>exact h a x
 |none=>trivial
 |bool b=>trivial
 |int i t=>trivial
 |str s t=>trivial
 |bytes b t=>trivial
 |_=>exact False.elim x
theorem HY{A:List Addr}{u:Value}(x:Fx A u):RelV (toV u) u:=by
 cases u with
 |ref a=>rfl
 |none=>rfl
 |bool b=>rfl
 |int i t=>exact⟨t,rfl⟩
 |str s t=>exact⟨t,rfl⟩
 |bytes b t=>exact⟨t,rfl⟩
 |_=>exact False.elim x
theorem iW{A:List Addr}:∀{vs:List Value},(∀u∈vs,Fx A u)->Vals (vs.map toV) vs
 | [],_=>.nil
 |u::r,h=>.cons (HY (h u (List.mem_cons_self ..))) (iW λx hx=>h x (List.mem_cons_of_mem _ hx))
def j9(h:Heap)(A:List Addr)(a:Addr):Prop:=∃vs:List Value,vs.length<=sizeLine/\(∀u∈vs,Fx A u)/\
 (h.get? a=some { cls:=.type "list",data:=.seq vs.toArray }\/h.get? a=some { cls:=.type "tuple",data:=.seq vs.toArray })
theorem j9.mono{h:Heap}{A B:List Addr}{a:Addr}(k:∀a∈A,a∈B)(x:j9 h A a):j9 h B a:=by
 obtain⟨vs,h1,h2,h3⟩:=x
 exact⟨vs,h1,λu hu=>(h2 u hu).mono k,h3⟩
theorem ia{P:Params}{h:Heap}:∀{vs:List Value}{ds:List WData},WellAll P h vs ds->vs.length=ds.length
 |_,_,.nil=>rfl
 |_,_,.cons _ b=>by
  show _+1=_+1
  rw[ia b]
theorem vU{P:Params}{h:Heap}{v:Value}{ds:List WData}(x:Well P h v (.list ds)):∃(a:Addr)(vs:List Value),v=.ref a/\h.get? a=some { cls:=.type "list",data:=.seq vs.toArray }/\WellAll P h vs ds:=by
 cases x with
 |list ho iO=>exact⟨_,_,rfl,ho,iO⟩
theorem tN{P:Params}{h:Heap}{v:Value}{ds:List WData}(x:Well P h v (.tuple ds)):∃(a:Addr)(vs:List Value),v=.ref a/\h.get? a=some { cls:=.type "tuple",data:=.seq vs.toArray }/\WellAll P h vs ds:=by
 cases x with
 |tuple ho iO=>exact⟨_,_,rfl,ho,iO⟩
theorem vV{P:Params}{h:Heap}{us:List Value}{d:WData}{ds:List WData}(x:WellAll P h us (d::ds)):∃(v:Value)(vs:List Value),us=v::vs/\Well P h v d/\WellAll P h vs ds:=by
 cases x with
 |cons a b=>exact⟨_,_,rfl,a,b⟩
theorem D6{n:Nat}(h:n<=1048576):n<=sizeLine:=Nat.le_trans h (by decide)
section
variable{P:Params}{h:Heap}
mutual
theorem HZ:∀(d:WData)(v:Value),Well P h v d->D5 d=true->d.weight<=1048576->∃A:List Addr,Fx A v/\∀a∈A,j9 h A a
 | .none,_,x,_,_=>by
   cases x
   exact⟨[],trivial,λa m=>absurd m (by simp)⟩
 | .bool b,_,x,_,_=>by
   cases x
   exact⟨[],trivial,λa m=>absurd m (by simp)⟩
 | .int i,_,x,_,_=>by
   cases x
   exact⟨[],trivial,λa m=>absurd m (by simp)⟩
 | .str s,_,x,_,_=>by
   cases x
   exact⟨[],trivial,λa m=>absurd m (by simp)⟩
 | .bytes b,_,x,_,_=>by
   cases x
   exact⟨[],trivial,λa m=>absurd m (by simp)⟩
 | .list ds,_,x,p,z=>by
   obtain⟨a,vs,rfl,ho,iO⟩:=vU x
   have z2:WData.weightAll ds<=1048576:=z
   obtain⟨A,h1,h2⟩:=oC ds _ iO p λd hd=>Nat.le_trans (nF hd) z2
   have k:∀b∈A,b∈a::A:=λb hb=>List.mem_cons_of_mem _ hb
   refine⟨a::A,List.mem_cons_self ..,λb hb=> ?_⟩
   rcases List.mem_cons.mp hb with e|m
   ·rw[e]
    exact⟨vs,D6 (by rw[ia iO];exact Nat.le_trans (W.length_le_weightAllW ds) z2),λu hu=>(h1 u hu).mono k,.inl ho⟩
   ·exact(h2 b m).mono k
 | .tuple ds,_,x,p,z=>by
   obtain⟨a,vs,rfl,ho,iO⟩:=tN x
   have z2:WData.weightAll ds<=1048576:=z
   obtain⟨A,h1,h2⟩:=oC ds _ iO p λd hd=>Nat.le_trans (nF hd) z2
   have k:∀b∈A,b∈a::A:=λb hb=>List.mem_cons_of_mem _ hb
   refine⟨a::A,List.mem_cons_self ..,λb hb=> ?_⟩
   rcases List.mem_cons.mp hb with e|m
   ·rw[e]
    exact⟨vs,D6 (by rw[ia iO];exact Nat.le_trans (W.length_le_weightAllW ds) z2),λu hu=>(h1 u hu).mono k,.inr ho⟩
   ·exact(h2 b m).mono k
 | .float _,_,_,p,_=>Bool.noConfusion (show false=true from p)
 | .dict _,_,_,p,_=>Bool.noConfusion (show false=true from p)
 | .bytearray _,_,_,p,_=>Bool.noConfusion (show false=true from p)
 | .set _,_,_,p,_=>Bool.noConfusion (show false=true from p)
 | .frozenset _,_,_,p,_=>Bool.noConfusion (show false=true from p)
 | .obj _ _,_,_,p,_=>Bool.noConfusion (show false=true from p)
theorem oC:∀(ds:List WData)(vs:List Value),WellAll P h vs ds->rR ds=true->(∀d∈ds,d.weight<=1048576)->∃A:List Addr,(∀u∈vs,Fx A u)/\∀a∈A,j9 h A a
 | [],_,x,_,_=>by
   cases x
   exact⟨[],λu m=>absurd m (by simp),λa m=>absurd m (by simp)⟩
 |d::ds,_,x,p,z=>by
  obtain⟨v,vs,rfl,x1,x2⟩:=vV x
  have q:D5 d=true/\rR ds=true:=Bool.and_eq_true_iff.mp p
  obtain⟨A,a1,a2⟩:=HZ d v x1 q.1 (z d (List.mem_cons_self ..))
  obtain⟨B,b1,b2⟩:=oC ds vs x2 q.2 λe he=>z e (List.mem_cons_of_mem _ he)
  have kA:∀b∈A,b∈A++B:=λb hb=>List.mem_append.mpr (.inl hb)
  have kB:∀b∈B,b∈A++B:=λb hb=>List.mem_append.mpr (.inr hb)
  refine⟨A++B,λu hu=> ?_,λb hb=> ?_⟩
  ·rcases List.mem_cons.mp hu with e|m
   ·rw[e]
    exact a1.mono kA
   ·exact(b1 u m).mono kB
  ·rcases List.mem_append.mp hb with m|m
   ·exact(a2 b m).mono kA
   ·exact(b2 b m).mono kB
end
end
def LM(o:Obj):Option HO:=match o.data with
 | .seq vs _=>if (o.cls==Value.type "list")=true then some (.wM o (.lst (vs.toList.map toV))) else some (.wM o (.tup (vs.toList.map toV)))
 |_=>none
def jv(K:W.Frag)(h:Heap)(A:List Addr):Hp:=λb=>if b∈A then(if (K.lookup b).isNone=true then(h.get? b).bind LM else none) else none
def zC(H:Hp):Prop:=∀b,H b=none\/∃o u,H b=some (.wM o u)
theorem zD(vs:List Value):LM { cls:=.type "list",data:=.seq vs.toArray }=some (.wM { cls:=.type "list",data:=.seq vs.toArray } (.lst (vs.map toV))):=by
 show(if (Value.type "list"==Value.type "list")=true then some (HO.wM { cls:=.type "list",data:=.seq vs.toArray } (.lst (vs.toArray.toList.map toV))) else some (HO.wM { cls:=.type "list",data:=.seq vs.toArray } (.tup (vs.toArray.toList.map toV))))=_
 rw[if_pos (beq_self_eq_true _)]
theorem zE(vs:List Value):LM { cls:=.type "tuple",data:=.seq vs.toArray }=some (.wM { cls:=.type "tuple",data:=.seq vs.toArray } (.tup (vs.map toV))):=by
 show(if (Value.type "tuple"==Value.type "list")=true then some (HO.wM { cls:=.type "tuple",data:=.seq vs.toArray } (.lst (vs.toArray.toList.map toV))) else some (HO.wM { cls:=.type "tuple",data:=.seq vs.toArray } (.tup (vs.toArray.toList.map toV))))=_
 rw[if_neg (by decide)]
section
variable{P:Program}{w:World}{K:W.Frag}{h:Heap}{A:List Addr}
theorem sQ{b:Addr}{o:Obj}(hb:b∈A)(hk:K.lookup b=none)(e:h.get? b=some o):jv K h A b=LM o:=by
 unfold jv
 rw[if_pos hb,hk,if_pos (show(none:Option Obj).isNone=true from rfl),e]<;>rfl
theorem LN{b:Addr}{u:HO}(q:jv K h A b=some u):b∈A/\K.lookup b=none:=by
 unfold jv at q
 by_cases hb:b∈A
 ·rw[if_pos hb] at q
  cases hk:K.lookup b with
  |none=>exact⟨hb,rfl⟩
  |some o=>
   rw[hk,if_neg (by simp)] at q
   cases q
 ·rw[if_neg hb] at q
  cases q
theorem sR(ar:∀a∈A,j9 h A a){b:Addr}{u:HO}(q:jv K h A b=some u):K.lookup b=none/\∃vs:List Value,vs.length<=sizeLine/\(∀u∈vs,Fx A u)/\
 ((h.get? b=some { cls:=.type "list",data:=.seq vs.toArray }/\u=.wM { cls:=.type "list",data:=.seq vs.toArray } (.lst (vs.map toV)))\/
  (h.get? b=some { cls:=.type "tuple",data:=.seq vs.toArray }/\u=.wM { cls:=.type "tuple",data:=.seq vs.toArray } (.tup (vs.map toV)))):=by
 obtain⟨hb,hk⟩:=LN q
 obtain⟨vs,h1,h2,h3⟩:=ar b hb
 refine⟨hk,vs,h1,h2,?_⟩
 rcases h3 with e|e
 ·rw[sQ hb hk e,zD] at q
  exact .inl ⟨e,(Option.some.inj q).symm⟩
 ·rw[sQ hb hk e,zE] at q
  exact .inr ⟨e,(Option.some.inj q).symm⟩
theorem Fy(ar:∀a∈A,j9 h A a):zC (jv K h A):=λb=>by
 cases q:jv K h A b with
 |none=>exact .inl rfl
 |some u=>
  obtain⟨_,vs,_,_,⟨_,e⟩|⟨_,e⟩⟩:=sR ar q
  ·exact .inr ⟨_,_,by rw[e]⟩
  ·exact .inr ⟨_,_,by rw[e]⟩
theorem LP(ar:∀a∈A,j9 h A a):om P w (jv K h A) h:=λb u q=>by
 obtain⟨_,vs,h1,h2,⟨e,rfl⟩|⟨e,rfl⟩⟩:=sR ar q
 ·exact⟨e,by rw[List.length_map];exact h1,vs,_,iW h2,e⟩
 ·exact⟨e,by rw[List.length_map];exact h1,vs,iW h2,_,e,rfl,_,rfl⟩
theorem sS{c c':Value}{vs us:List Value}(e:(some { cls:=c,data:=.seq vs.toArray }:Option Obj)=some { cls:=c',data:=.seq us.toArray }):c=c'/\vs=us:=by
 have e1:=Option.some.inj e
 have e2:c=c':=congrArg Obj.cls e1
 have e3:Data.seq vs.toArray=Data.seq us.toArray:=congrArg Obj.data e1
 injection e3 with e4
 refine⟨e2,?_⟩
 have e5:=congrArg Array.toList e4
 simpa using e5
theorem W7(KX:K.In h)(ar:∀a∈A,j9 h A a){a:Addr}{vs:List Value}(ha:a∈A)(e:h.get? a=some { cls:=.type "list",data:=.seq vs.toArray }):(∀u∈vs,Fx A u)/\aF K (jv K h A) a (vs.map toV):=by
 obtain⟨us,h1,h2,h3⟩:=ar a ha
 have hu:us=vs:=by
  rcases h3 with q|q
  ·rw[e] at q
   exact(sS q).2.symm
  ·rw[e] at q
   exact absurd (Value.type.inj (sS q).1) (by decide)
 subst hu
 refine⟨h2,?_⟩
 cases hk:K.lookup a with
 |none=>exact .inl (.inr ⟨_,by rw[sQ ha hk e,zD]⟩)
 |some o=>
  have e2:=KX a o hk
  rw[e] at e2
  obtain rfl:=Option.some.inj e2
  exact .inr ⟨_,us.toArray,_,hk,rfl,rfl,rfl,by rw[List.size_toArray];exact h1,by simpa using iW h2⟩
theorem W8(KX:K.In h)(ar:∀a∈A,j9 h A a){a:Addr}{vs:List Value}(ha:a∈A)(e:h.get? a=some { cls:=.type "tuple",data:=.seq vs.toArray }):(∀u∈vs,Fx A u)/\pZ K (jv K h A) a (vs.map toV):=by
 obtain⟨us,h1,h2,h3⟩:=ar a ha
 have hu:us=vs:=by
  rcases h3 with q|q
  ·rw[e] at q
   exact absurd (Value.type.inj (sS q).1) (by decide)
  ·rw[e] at q
   exact(sS q).2.symm
 subst hu
 refine⟨h2,?_⟩
 cases hk:K.lookup a with
 |none=>exact .inl (.inr ⟨_,by rw[sQ ha hk e,zE]⟩)
 |some o=>
  have e2:=KX a o hk
  rw[e] at e2
  obtain rfl:=Option.some.inj e2
  exact .inr ⟨_,us.toArray,_,hk,rfl,rfl,by rw[List.size_toArray];exact h1,by simpa using iW h2⟩
mutual
theorem PX{Pm:Params}(KX:K.In h)(ar:∀a∈A,j9 h A a):∀(d:WData)(v:Value),Well Pm h v d->D5 d=true->Fx A v->Dw K (jv K h A) (toV v) d
 | .none,_,x,_,_=>by
   cases x
   exact .non
 | .bool b,_,x,_,_=>by
   cases x
   exact .bl b
 | .int i,_,x,_,_=>by
   cases x
   exact .int i
 | .str s,_,x,_,_=>by
   cases x
   exact .str s
 | .bytes b,_,x,_,_=>by
   cases x
   have z:=Dw.y2 (K:=K) (H:=jv K h A) b.toArray
   exact z
 | .list ds,_,x,p,hu=>by
   obtain⟨a,vs,rfl,ho,iO⟩:=vU x
   obtain⟨h2,hs⟩:=W7 KX ar hu ho
   exact .lst hs (xi KX ar ds _ iO p h2)
 | .tuple ds,_,x,p,hu=>by
   obtain⟨a,vs,rfl,ho,iO⟩:=tN x
   obtain⟨h2,hs⟩:=W8 KX ar hu ho
   exact .tup hs (xi KX ar ds _ iO p h2)
 | .float _,_,_,p,_=>Bool.noConfusion (show false=true from p)
 | .dict _,_,_,p,_=>Bool.noConfusion (show false=true from p)
 | .bytearray _,_,_,p,_=>Bool.noConfusion (show false=true from p)
 | .set _,_,_,p,_=>Bool.noConfusion (show false=true from p)
 | .frozenset _,_,_,p,_=>Bool.noConfusion (show false=true from p)
 | .obj _ _,_,_,p,_=>Bool.noConfusion (show false=true from p)
theorem xi{Pm:Params}(KX:K.In h)(ar:∀a∈A,j9 h A a):∀(ds:List WData)(vs:List Value),WellAll Pm h vs ds->rR ds=true->(∀u∈vs,Fx A u)->j8 K (jv K h A) (vs.map toV) ds
 | [],_,x,_,_=>by
   cases x
   exact .nil
 |d::ds,_,x,p,hu=>by
  obtain⟨v,vs,rfl,x1,x2⟩:=vV x
  have q:D5 d=true/\rR ds=true:=Bool.and_eq_true_iff.mp p
  exact .cons (PX KX ar d v x1 q.1 (hu _ (List.mem_cons_self ..))) (xi KX ar ds vs x2 q.2 λu m=>hu u (List.mem_cons_of_mem _ m))
end
end
theorem Fz{P:Program}{w:World}{K:W.Frag}{mg mb:Str->Option Value}{CX:G8}{k:Nat}{fa:Addr}{fd:FuncData}{ps:List Str}{sp:Sp}{cX:Shared}{vals:List Value}{ds:List WData}{R:W.WRecords}{cl:Str->Option Addr}{d0:WData}
 (KX:K.In cX.heap)(YW:cX.heap.Ns mainGlobals mg)(hb:cX.heap.Ns builtinsNs mb)(hbb:∀x:Str,x≠"__name__"->mb x=bootBuiltins x)(W9:cX.heap.NoLimit)(hg:cX.gens= #[])
 (Ub:WellAll w.params cX.heap vals ds)(hpl:rR ds=true)(hwt:∀d∈ds,d.weight<=1048576)(hr:dC k callerA)
 (F:∀ae:Heap,K.In ae->ae.Ns mainGlobals mg->bD P w K mg ae CX k fa fd ps sp)(Uc:∀(s:Shared)(us:List Value),us.length=ps.length->BindsTo s fd ⟨us, []⟩ (ps.zip us))(hlen:ds.length=ps.length)
 (qO:∀(H:Hp)(xs:List V),zC H->j8 K H xs ds->sp xs H (λv H'=>Dw K H' v d0) λ_ _ _=>False)
 (Ud:∀H e s',CX [] H cX (λ_ _ _=>False) e s'->False):
 codeAny (model P w) callerA (.call (.ref fa) ⟨vals, []⟩) (λr s'=>∃u as,r=.ok (.ret u)/\ReadsW R cl s'.heap u d0 as/\OldK cX.heap s'.heap/\s'.os=cX.os/\AllBare s'.gens) cX:=by
 obtain⟨A,ho,ar⟩:=oC ds vals Ub hpl hwt
 have hO:zC (jv K cX.heap A):=Fy ar
 have cW:om P w (jv K cX.heap A) cX.heap:=LP ar
 have hS:=xi KX ar ds vals Ub hpl ho
 have hV:=iW ho
 have hK:∀b u,jv K cX.heap A b=some u->K.lookup b=none:=λb u q=>(sR ar q).1
 have RG:∀{b:Addr}{o:Obj}{es:Array DictEntry}{ep:Nat},cX.heap.get? b=some o->o.data=.dict es ep->jv K cX.heap A b=none:=λ{b o es ep} e d=>by
  cases q:jv K cX.heap A b with
  |none=>rfl
  |some u=>
   obtain⟨_,vs,_,_,⟨e2,_⟩|⟨e2,_⟩⟩:=sR ar q
   ·rw[e2] at e
    cases e
    have d':Data.seq vs.toArray _=Data.dict es ep:=d
    cases d'
   ·rw[e2] at e
    cases e
    have d':Data.seq vs.toArray _=Data.dict es ep:=d
    cases d'
 generalize jv K cX.heap A=H at hO cW hS hK RG
 have D7:∀{b:Addr}{o:Obj},cX.heap.get? b=some o->H b=none->(wO cX.heap H).get? b=some o:=λe n=>Hf e n
 have Vj:∀{b:Addr}{m:Str->Option Value},cX.heap.Ns b m->(wO cX.heap H).Ns b m:=λ{b m}⟨o,es,ep,e,d,r⟩=>⟨o,es,ep,D7 e (RG e d),d,r⟩
 have nK:∀b o,K.lookup b=some o->H b=none:=λb o e=>by
  cases q:H b with
  |none=>rfl
  |some u=>
   rw[hK b u q] at e
   cases e
 have YX:K.In (wO cX.heap H):=λb o e=>D7 (KX b o e) (nK b o e)
 have hM:Mod K mg (wO cX.heap H):=⟨YX,Vj YW,⟨mb,Vj hb,hbb⟩,let⟨mc,h1,h2⟩:=W9;⟨mc,Vj h1,h2⟩⟩
 have e0:Bs P w K mg (wO cX.heap H) callerA [] cX H:=⟨rfl,hM,λb o e=>K2 e,Nat.le_of_eq (E7 _ _),trivial,λb hb=>absurd (show b∈([]:List Addr) from hb) (by simp),cW,.of_eq hg⟩
 have hl:vals.length=ps.length:=by rw[ia Ub];exact hlen
 refine codeAny_mono ((F _ YX (Vj YW)).run callerA [] cX H ⟨vals, []⟩ vals (vals.map toV) _ _ hr e0 (Uc cX vals hl) hV (qO H _ hO hS)) λr s' x=> ?_
 cases r with
 |error e=>exact(Ud H e s' x).elim
 |ok fl=>
  cases fl with
  |next=>exact False.elim x
  |brk=>exact False.elim x
  |cont=>exact False.elim x
  |ret u=>
   obtain⟨v,H',os,bare,un,Ue,r',q⟩:=x
   have kept:∀b o,cX.heap.get? b=some o->s'.heap.get? b=some o:=λb o e=>by
    cases q2:H b with
    |none=>exact un.keep b o e q2 (by intro z;exact absurd (show b∈([]:List Addr) from z) (by simp)) (by simp)
    |some u2=>
     rcases hO b with z|⟨ob,u3,z⟩
     ·rw[q2] at z
      cases z
     ·have z2:=un.wN b ob _ z
      obtain⟨e1,_⟩:=cW b _ z
      obtain⟨e2,_⟩:=Ue b _ z2
      rw[e] at e1
      cases e1
      exact e2
   have KX':K.In s'.heap:=λb o e=>kept b o (KX b o e)
   obtain⟨as,YY⟩:=Dw.reads (R:=R) (cl:=cl) Ue KX' d0 v u q r'
   exact⟨u,as,rfl,YY,OldK.of_keep kept,os,bare⟩
theorem tO{ds:List WData}(h:WData.layableAll ds=true):∀d∈ds,d.weight<=1048576:=λd hd=>
 (W.layableW_iff.mp (List.all_eq_true.mp h d hd)).2.2
theorem tP:∀(cs:List Codec)(a:Codec.denoteAll cs),(Codec.encAll cs a).length=cs.length
 | [],_=>rfl
 |c::cs,a=>by
  show(Codec.encAll cs a.2).length+1=cs.length+1
  rw[tP cs a.2]
theorem FD{r:OpenSpec}{k:Nat}{q:Program}{loose:List Str}{XP:(Str->Option Value)->Heap->Prop}{YP:World->Heap->Prop}{d:DefRec}{K:Params->W.Frag}{CX:World->G8}{ps:List Str}{sp:World->Sp}
 (Ia:r.wellSaid=true)(YZ:d.params.defaults= [])(hlen:r.args.length=ps.length)(hr:dC k callerA)
 (hY:∀(w:World)(h:Heap),YP w h->(K w.params).In h)
 (F:∀(w:World)(mg:Str->Option Value)(fa:Addr)(h:Heap),YP w h->(K w.params).In h->h.Ns mainGlobals mg->mg d.name=some (.ref fa)->
   ∃fd:FuncData,(∀(s:Shared)(us:List Value),us.length=ps.length->BindsTo s fd ⟨us, []⟩ (ps.zip us))/\
    ∀ae:Heap,(K w.params).In ae->ae.Ns mainGlobals mg->bD r.prog w (K w.params) mg ae (CX w) k fa fd ps (sp w))
 (qO:∀(w:World)(H:Hp)(xs:List V)(a:Codec.denoteAll r.args),zC H->Codec.withinAll r.args a=true->Codec.app r.args r.asked a=true->j8 (K w.params) H xs (Codec.encAll r.args a)->
   sp w xs H (λv H'=>Dw (K w.params) H' v (r.ret.enc (Codec.app r.args r.f a))) λ_ _ _=>False)
 (Ud:∀(w:World)(H:Hp)(s:Shared)(e:Value)(s':Shared),CX w [] H s (λ_ _ _=>False) e s'->False):
 W.WalkOS q loose XP YP r d [] (λf vs=>PySem.call f vs):=by
 intro w vI cX mg mb G Y fa o pm cd doc dV kV ho hd KN hD Xa hg args vals as Xb hlay YY Ub hlo
 obtain⟨a,e1,e2⟩:=W.os_pre_some Xb
 obtain⟨e3,Xc⟩:=Codec.encAll_of_decAll r.args args a e1
 subst e3
 have KX:=hY w _ Y
 obtain⟨fd,hb,hF⟩:=F w mg fa _ Y KX G.T.g Xa
 refine W.enter_call (codeAny_mono (Fz (R:= []) (cl:=classAt vI.heap) (d0:=r.ret.enc (Codec.app r.args r.f a)) KX G.T.g G.T.b G.T.builtins G.T.nolimit hg Ub (vT _ _) (tO hlay) hr hF hb (by rw[tP];exact hlen)
  (λH xs hO hS=>qO w H xs a hO Xc e2 hS) λH e s'=>Ud w H cX e s') λr' s' hq=> ?_)
 obtain⟨u,as',rfl,h1,h2,h3,h4⟩:=hq
 exact⟨.inl ⟨u,_,as',rfl,λ_=>rfl,h1,(OpenSpec.post_iff Ia Xc _ _).mpr rfl,λz=>Bool.noConfusion (show false=true from z)⟩,h2,h3,h4⟩
theorem BG{r:OpenSpec}{k:Nat}{q:Program}{loose:List Str}{XP:(Str->Option Value)->Heap->Prop}{YP:World->Heap->Prop}{d:DefRec}{K:Params->W.Frag}{CX:G8}{ps:List Str}{sp:W.Frag->Sp}
 (Ia:r.wellSaid=true)(YZ:d.params.defaults= [])(hlen:r.args.length=ps.length)(hr:dC k callerA)
 (hY:∀(w:World)(h:Heap),YP w h->(K w.params).In h)
 (F:∀(w:World)(mg:Str->Option Value)(fa:Addr)(h:Heap),YP w h->(K w.params).In h->h.Ns mainGlobals mg->mg d.name=some (.ref fa)->
   ∃fd:FuncData,(∀(s:Shared)(us:List Value),us.length=ps.length->BindsTo s fd ⟨us, []⟩ (ps.zip us))/\
    ∀ae:Heap,(K w.params).In ae->ae.Ns mainGlobals mg->bD r.prog w (K w.params) mg ae CX k fa fd ps (sp (K w.params)))
 (qO:∀(K:W.Frag)(H:Hp)(xs:List V)(a:Codec.denoteAll r.args),zC H->Codec.withinAll r.args a=true->Codec.app r.args r.asked a=true->j8 K H xs (Codec.encAll r.args a)->
   sp K xs H (λv H'=>Dw K H' v (r.ret.enc (Codec.app r.args r.f a))) λ_ _ _=>False)
 (Ud:∀(H:Hp)(s:Shared)(e:Value)(s':Shared),CX [] H s (λ_ _ _=>False) e s'->False):
 W.WalkOS q loose XP YP r d [] (λf vs=>PySem.call f vs):=
 FD (K:=K) (CX:=λ_=>CX) (sp:=λw=>sp (K w.params)) Ia YZ hlen hr hY F (λw H xs a h1 h2 h3 h4=>qO (K w.params) H xs a h1 h2 h3 h4) λ_ H s e s'=>Ud H s e s'
end L2
end
namespace Mu
open Km383
theorem oE{l:Since}{d v x:Nat}(h:d<=x):asOf (from_ l d v) x=some v:=by
 unfold asOf from_
 rw[List.filter_append,List.filter_cons,if_pos (by simpa using h),List.filter_nil,List.getLast?_append]
 rfl
theorem oF{l:Since}{d v x:Nat}(h:x<d):asOf (from_ l d v) x=asOf l x:=by
 unfold asOf from_
 rw[List.filter_append,List.filter_cons,if_neg (by simpa using h),List.filter_nil,List.append_nil,List.filter_filter]
 congr 2
 apply List.filter_congr
 intro a _
 by_cases q:a.1<=x
 ·have q2:a.1<d:=by omega
  simp[q,q2]
 ·simp[q]
theorem vW{l:Since}{t x:Nat}(h:∀a∈l,a.1<=t)(hx:t<=x):asOf l x=asOf l t:=by
 have f:∀y,t<=y->l.filter (λa=>decide (a.1<=y))=l:=λy hy=>by
  rw[List.filter_eq_self]
  intro a ha
  have:=h a ha
  simp
  omega
 unfold asOf
 rw[f x hx,f t (Nat.le_refl _)]
theorem FG{l:Since}{c v x:Nat}(h:(c,v)∈l)(hx:c<=x):∃p,asOf l x=some p/\∃d,(d,p)∈l:=by
 unfold asOf
 have m:(c,v)∈l.filter (λa=>decide (a.1<=x)):=List.mem_filter.mpr ⟨h,by simpa using hx⟩
 cases e:(l.filter (λa=>decide (a.1<=x))).getLast? with
 |none=>
  rw[List.getLast?_eq_none_iff] at e
  rw[e] at m
  cases m
 |some a=>
  have q:=List.mem_of_getLast? e
  exact⟨a.2,rfl,a.1,(List.mem_filter.mp q).1⟩
theorem FH{l:Since}{c x:Nat}(h:∀a∈l,c<=a.1)(hx:x<c):asOf l x=none:=by
 unfold asOf
 have e:l.filter (λa=>decide (a.1<=x))= []:=by
  rw[List.filter_eq_nil_iff]
  intro a ha
  have:=h a ha
  simp
  omega
 rw[e]
 rfl
def sumTo(f:Nat->Int):Nat->Int
 | 0=>0
 |n+1=>sumTo f n+f n
theorem k0{f g:Nat->Int}:∀{n:Nat},(∀i,i<n->f i=g i)->sumTo f n=sumTo g n
 | 0,_=>rfl
 |n+1,h=>by
  show sumTo f n+f n=sumTo g n+g n
  rw[k0 λi hi=>h i (by omega),h n (by omega)]
theorem vX(f g:Nat->Int):∀n:Nat,sumTo (λi=>f i+g i) n=sumTo f n+sumTo g n
 | 0=>rfl
 |n+1=>by
  show sumTo (λi=>f i+g i) n+(f n+g n)=(sumTo f n+f n)+(sumTo g n+g n)
  rw[vX f g n]
  omega
theorem qR(c:Int):∀n:Nat,sumTo (λ_=>c) n=(n:Int) * c
 | 0=>by simp[sumTo]
 |n+1=>by
  show sumTo (λ_=>c) n+c=((n+1:Nat):Int) * c
  rw[qR c n,Int.natCast_add,Int.add_mul]
  simp
theorem qb(f:Nat->Nat):∀n:Nat,(((List.range n).foldl (λa i=>a+f i) 0:Nat):Int)=sumTo (λi=>(f i:Int)) n
 | 0=>rfl
 |n+1=>by
  rw[List.range_succ,List.foldl_append]
  show(((List.range n).foldl (λa i=>a+f i) 0+f n:Nat):Int)=sumTo (λi=>(f i:Int)) n+(f n:Int)
  rw[Int.natCast_add,qb f n]
theorem vY(a b t:Nat)(c:Int):∀n:Nat,sumTo (λi=>if a<=t+i/\t+i<b then c else 0) n=((min b (t+n) - max a t:Nat):Int) * c
 | 0=>by
   have e:min b (t+0) - max a t=0:=by omega
   rw[e]
   simp[sumTo]
 |n+1=>by
  show sumTo (λi=>if a<=t+i/\t+i<b then c else 0) n+(if a<=t+n/\t+n<b then c else 0)=_
  rw[vY a b t c n]
  by_cases h:a<=t+n/\t+n<b
  ·rw[if_pos h]
   have e:min b (t+(n+1)) - max a t=(min b (t+n) - max a t)+1:=by omega
   rw[e,Int.natCast_add,Int.add_mul]
   simp
  ·rw[if_neg h]
   have e:min b (t+(n+1)) - max a t=min b (t+n) - max a t:=by omega
   rw[e]
   simp
def iP(s:Show)(t:Nat):Nat:=s.end_ - max s.first t
def k9:List Show->Prop
 | []=>True
 |s::l=>(∀x∈l,¬(s.first<x.end_/\x.first<s.end_))/\k9 l
theorem zF{l:List Show}{here d:Nat}(h:∀x∈l,¬(x.first<=d/\d<x.end_)):willBe l here d=here:=by
 unfold willBe
 have e:l.find? (λs=>decide (s.first<=d)&&decide (d<s.end_))=none:=by
  rw[List.find?_eq_none]
  intro x hx
  have:=h x hx
  simp
  intro q
  omega
 rw[e]
theorem zG{s:Show}{l:List Show}{here d:Nat}:willBe (s::l) here d=if s.first<=d/\d<s.end_ then s.place else willBe l here d:=by
 unfold willBe
 rw[List.find?_cons]
 by_cases h:s.first<=d/\d<s.end_
 ·rw[if_pos h]
  simp[h.1,h.2]
 ·rw[if_neg h]
  have e:(decide (s.first<=d)&&decide (d<s.end_))=false:=by
   rw[Bool.and_eq_false_iff]
   by_cases q:s.first<=d
   ·exact .inr (by simp;omega)
   ·exact .inl (by simp;omega)
  rw[e]
theorem zH(L:Nat->Nat)(here t n:Nat):∀l:List Show,k9 l->(∀s∈l,s.end_<=t+n\/s.end_<=t)->
 sumTo (λi=>(L (willBe l here (t+i)):Int)) n=(n:Int) * L here+(l.map λs=>(iP s t:Int) * ((L s.place:Int) - L here)).sum
 | [],_,_=>by
   rw[show(λi=>(L (willBe [] here (t+i)):Int))=λ_=>(L here:Int) from rfl,qR]
   simp
 |s::l,hm,he=>by
  have ih:=zH L here t n l hm.2 λx hx=>he x (List.mem_cons_of_mem _ hx)
  have e:sumTo (λi=>(L (willBe (s::l) here (t+i)):Int)) n=sumTo (λi=>(L (willBe l here (t+i)):Int)+(if s.first<=t+i/\t+i<s.end_ then((L s.place:Int) - L here) else 0)) n:=by
   apply k0
   intro i _
   rw[zG]
   by_cases h:s.first<=t+i/\t+i<s.end_
   ·rw[if_pos h,if_pos h,zF λx hx q=>hm.1 x hx ⟨by omega,by omega⟩]
    omega
   ·rw[if_neg h,if_neg h]
    omega
  rw[e,vX,ih,vY,List.map_cons,List.sum_cons]
  have d:min s.end_ (t+n) - max s.first t=iP s t:=by
   unfold iP
   rcases he s List.mem_cons_self with q|q<;>omega
  rw[d]
  omega
theorem lW:∀(l:List Show)(d:Nat),d<=lastOf l d
 | [],d=>Nat.le_refl _
 |s::l,d=>by
  show d<=lastOf l (max d s.end_)
  have:=lW l (max d s.end_)
  omega
theorem nG:∀(l:List Show)(d:Nat)(s:Show),s∈l->s.end_<=lastOf l d
 |x::l,d,s,h=>by
  show s.end_<=lastOf l (max d x.end_)
  rcases List.mem_cons.mp h with e|h
  ·subst e
   have:=lW l (max d s.end_)
   omega
  ·exact nG l _ s h
theorem LQ(h:House)(t:Nat)(l:List Show)(hm:k9 l):
 (h.will t l:Int)=h.dose t h.today+((lastOf l h.today - h.today:Nat):Int) * h.lightOn (h.here t) h.today+(l.map λs=>(iP s h.today:Int) * ((h.lightOn s.place h.today:Int) - h.lightOn (h.here t) h.today)).sum:=by
 unfold House.will
 have g:=lW l h.today
 rw[Int.natCast_add,qb (λi=>h.lightOn (willBe l (h.here t) (h.today+i)) h.today),zH (λp=>h.lightOn p h.today) (h.here t) h.today (lastOf l h.today - h.today) l hm (λs hs=>.inl (by have:=nG l h.today s hs;omega))]
 omega
theorem qc{α:Type}(l:List α)(k:Nat)(f:α->α)(i:Nat):(setAt l k f)[i]? =if i=k then l[i]?.map f else l[i]?:=by
 unfold setAt
 cases e:l[k]? with
 |none=>
  by_cases q:i=k
  ·subst q
   simp[e]
  ·simp[q]
 |some x=>
  obtain⟨hk,hx⟩:=List.getElem?_eq_some_iff.mp e
  by_cases q:i=k
  ·subst q
   rw[if_pos rfl,e]
   simp[hk]
  ·rw[if_neg q]
   exact List.getElem?_set_ne (λz=>q z.symm)
theorem dP{α:Type}(l:List α)(k:Nat)(f:α->α):(setAt l k f).length=l.length:=by
 unfold setAt
 cases l[k]?<;>simp
theorem cD{α:Type}(l:List α)(x:α)(i:Nat):(l++ [x])[i]? =if i=l.length then some x else l[i]?:=by
 by_cases q:i=l.length
 ·subst q
  simp
 ·rw[if_neg q]
  by_cases r:i<l.length
  ·exact List.getElem?_append_left r
  ·rw[List.getElem?_append_right (by omega),List.getElem?_eq_none (by simp;omega),List.getElem?_eq_none (by omega)]
structure Xd(today p:Nat)(x:Place):Prop where
 kind:x.kind<=3
 room:1<=x.room/\x.room<=24
 up:p=0\/x.up<p
 light:x.light≠ []/\∀a∈x.light,a.1<=today/\a.2<=10000
structure PY(today np:Nat)(x:Thing):Prop where
 name:isName x.name=true
 KR:x.material<=7
 lim:x.limit<=1000000
 harm:x.harm<=5
 came:∃v,(x.came,v)∈x.stays
 stays:∀a∈x.stays,x.came<=a.1/\a.1<=today/\a.2<np
 back:∀b,x.back=some b->b<=2000
structure PZ(np nt:Nat)(s:Show):Prop where
 place:s.place<np
 days:s.first<s.end_/\s.end_<=2000
 nd:s.things.Nodup
 th:∀t∈s.things,t<nt
def xj(l:List (Option Show)):Prop:=∀(e1 e2:Nat)(s1 s2:Show)(t:Nat),e1≠e2->l[e1]? =some (some s1)->l[e2]? =some (some s2)->t∈s1.things->t∈s2.things->¬(s1.first<s2.end_/\s2.first<s1.end_)
structure cj(h:House):Prop where
 today:h.today<=2000
 np:1<=h.places.length/\h.places.length<=12
 nt:h.things.length<=24
 ns:h.shows.length=6
 pl:∀(p:Nat)(x:Place),h.places[p]? =some x->Xd h.today p x
 th:∀(t:Nat)(x:Thing),h.things[t]? =some x->PY h.today h.places.length x
 sh:∀(e:Nat)(s:Show),h.shows[e]? =some (some s)->PZ h.places.length h.things.length s
 nc:xj h.shows
theorem iX{h:House}{p:Nat}(hp:p<h.places.length):h.places[p]? =some (h.place p):=by
 unfold House.place
 rw[List.getD_eq_getElem?_getD,List.getElem?_eq_getElem hp]
 rfl
theorem iY{h:House}{t:Nat}(ht:t<h.things.length):h.things[t]? =some (h.thing t):=by
 unfold House.thing
 rw[List.getD_eq_getElem?_getD,List.getElem?_eq_getElem ht]
 rfl
theorem lb{h:House}{e:Nat}{s:Show}(hs:h.show_ e=some s):h.shows[e]? =some (some s):=by
 unfold House.show_ at hs
 rw[List.getD_eq_getElem?_getD] at hs
 cases q:h.shows[e]? with
 |none=>rw[q] at hs;cases hs
 |some o=>rw[q] at hs;exact congrArg some hs
theorem jx{h:House}{e:Nat}{o:Option Show}(hs:h.shows[e]? =some o):h.show_ e=o:=by
 unfold House.show_
 rw[List.getD_eq_getElem?_getD,hs]
 rfl
theorem zI{l:Since}{d v:Nat}{a:Nat×Nat}(h:a∈from_ l d v):a∈l\/a=(d,v):=by
 unfold from_ at h
 rcases List.mem_append.mp h with q|q
 ·exact .inl (List.mem_filter.mp q).1
 ·exact .inr (List.mem_singleton.mp q)
theorem LR{l:Since}{d v:Nat}:from_ l d v≠ []:=by
 unfold from_
 simp
theorem FI{l:Since}{c d p:Nat}(h:∃v,(c,v)∈l)(hc:c<=d):∃v,(c,v)∈from_ l d p:=by
 by_cases q:c=d
 ·subst q
  exact⟨p,by unfold from_;simp⟩
 ·obtain⟨v,hv⟩:=h
  refine⟨v,?_⟩
  unfold from_
  refine List.mem_append.mpr (.inl (List.mem_filter.mpr ⟨hv,?_⟩))
  simp
  omega
theorem vZ:cj empty where
 today:=by decide
 np:=by decide
 nt:=by decide
 ns:=rfl
 pl:=λp x hx=>by
  match p,hx with
  | 0,hx=>
    have e:root=x:=Option.some.inj hx
    subst e
    exact⟨by decide,by decide,.inl rfl,by decide,by decide⟩
  |p+1,hx=>simp[empty] at hx
 th:=λt x hx=>by simp[empty] at hx
 sh:=λe s hs=>by
  have:(List.replicate SHOWS (none:Option Show))[e]? =some (some s):=hs
  rw[List.getElem?_replicate] at this
  split at this<;>cases this
 nc:=λe1 e2 s1 s2 t _ h1=>by
  have:(List.replicate SHOWS (none:Option Show))[e1]? =some (some s1):=h1
  rw[List.getElem?_replicate] at this
  split at this<;>cases this
theorem v3{h:House}(I:cj h){up k r l:Nat}(h1:up<h.places.length)(h2:k<=3)(h3:1<=r/\r<=24)(h4:l<=10000)(h5:h.places.length<12):cj { h with places:=h.places++ [⟨up,k,r, [(h.today,l)]⟩] } where
 today:=I.today
 np:=by
  simp only[List.length_append,List.length_singleton]
  omega
 nt:=I.nt
 ns:=I.ns
 pl:=λp x hx=>by
  have hx:(h.places++ [⟨up,k,r, [(h.today,l)]⟩])[p]? =some x:=hx
  rw[cD] at hx
  by_cases q:p=h.places.length
  ·rw[if_pos q] at hx
   have e:=Option.some.inj hx
   subst e
   exact⟨h2,h3,.inr (by rw[q];exact h1),by simp,λa ha=>by
    have e:=List.mem_singleton.mp ha
    subst e
    exact⟨Nat.le_refl _,h4⟩⟩
  ·rw[if_neg q] at hx
   exact I.pl p x hx
 th:=λt x hx=>by
  have o:=I.th t x hx
  exact⟨o.name,o.KR,o.lim,o.harm,o.came,λa ha=>by
   have q:=o.stays a ha
   simp only[List.length_append,List.length_singleton]
   omega,o.back⟩
 sh:=λe s hs=>by
  have o:=I.sh e s hs
  exact⟨by
   have:=o.place
   simp only[List.length_append,List.length_singleton]
   omega,o.days,o.nd,o.th⟩
 nc:=I.nc
theorem v8{h:House}(I:cj h){p l:Nat}(h4:l<=10000):cj { h with places:=setAt h.places p λx=> { x with light:=from_ x.light h.today l } } where
 today:=I.today
 np:=by
  show 1<=(setAt _ _ _).length/\(setAt _ _ _).length<=12
  rw[dP]
  exact I.np
 nt:=I.nt
 ns:=I.ns
 pl:=λi x hx=>by
  have hx:(setAt h.places p λx=> { x with light:=from_ x.light h.today l })[i]? =some x:=hx
  rw[qc] at hx
  by_cases q:i=p
  ·rw[if_pos q] at hx
   cases e:h.places[i]? with
   |none=>rw[e] at hx;cases hx
   |some y=>
    rw[e] at hx
    have e2: { y with light:=from_ y.light h.today l }=x:=Option.some.inj hx
    subst e2
    have o:=I.pl i y e
    exact⟨o.kind,o.room,o.up,LR,λa ha=>by
     rcases zI ha with q|q
     ·exact o.light.2 a q
     ·subst q
      exact⟨Nat.le_refl _,h4⟩⟩
  ·rw[if_neg q] at hx
   exact I.pl i x hx
 th:=λt x hx=>by
  have o:=I.th t x hx
  exact⟨o.name,o.KR,o.lim,o.harm,o.came,λa ha=>by
   show _/\_/\_<(setAt _ _ _).length
   rw[dP]
   exact o.stays a ha,o.back⟩
 sh:=λe s hs=>by
  have o:=I.sh e s hs
  exact⟨by
   show _<(setAt _ _ _).length
   rw[dP]
   exact o.place,o.days,o.nd,o.th⟩
 nc:=I.nc
theorem FJ{h:House}(I:cj h){w:Text}{m l p:Nat}(h1:isName w=true)(h2:m<=7)(h3:l<=1000000)(h4:p<h.places.length)(h5:h.things.length<24):cj { h with things:=h.things++ [⟨w,m,l,h.today,0, [(h.today,p)],none⟩] } where
 today:=I.today
 np:=I.np
 nt:=by
  simp only[List.length_append,List.length_singleton]
  omega
 ns:=I.ns
 pl:=I.pl
 th:=λt x hx=>by
  have hx:(h.things++ [⟨w,m,l,h.today,0, [(h.today,p)],none⟩])[t]? =some x:=hx
  rw[cD] at hx
  by_cases q:t=h.things.length
  ·rw[if_pos q] at hx
   have e:=Option.some.inj hx
   subst e
   exact⟨h1,h2,h3,Nat.zero_le _,⟨p,by simp⟩,λa ha=>by
    have e:=List.mem_singleton.mp ha
    subst e
    exact⟨Nat.le_refl _,Nat.le_refl _,h4⟩,λb hb=>by cases hb⟩
  ·rw[if_neg q] at hx
   exact I.th t x hx
 sh:=λe s hs=>by
  have o:=I.sh e s hs
  exact⟨o.place,o.days,o.nd,λt ht=>by
   have:=o.th t ht
   simp only[List.length_append,List.length_singleton]
   omega⟩
 nc:=I.nc
theorem jy{h:House}(I:cj h){t:Nat}{f:Thing->Thing}(hf:∀x,PY h.today h.places.length x->PY h.today h.places.length (f x)):cj { h with things:=setAt h.things t f } where
 today:=I.today
 np:=I.np
 nt:=by
  show(setAt _ _ _).length<=24
  rw[dP]
  exact I.nt
 ns:=I.ns
 pl:=I.pl
 th:=λi x hx=>by
  have hx:(setAt h.things t f)[i]? =some x:=hx
  rw[qc] at hx
  by_cases q:i=t
  ·rw[if_pos q] at hx
   cases e:h.things[i]? with
   |none=>rw[e] at hx;cases hx
   |some y=>
    rw[e] at hx
    have e2:f y=x:=Option.some.inj hx
    subst e2
    exact hf y (I.th i y e)
  ·rw[if_neg q] at hx
   exact I.th i x hx
 sh:=λe s hs=>by
  have o:=I.sh e s hs
  exact⟨o.place,o.days,o.nd,λt' ht=>by
   show t'<(setAt _ _ _).length
   rw[dP]
   exact o.th t' ht⟩
 nc:=I.nc
theorem ib{h:House}(I:cj h){t p:Nat}(hp:p<h.places.length):cj (h.put t p):=
 jy I λx o=>⟨o.name,o.KR,o.lim,o.harm,FI o.came (by
  obtain⟨v,hv⟩:=o.came
  exact(o.stays _ hv).2.1),λa ha=>by
  rcases zI ha with q|q
  ·exact o.stays a q
  ·subst q
   obtain⟨v,hv⟩:=o.came
   exact⟨(o.stays _ hv).2.1,Nat.le_refl _,hp⟩,o.back⟩
theorem oG{p:Nat}:∀(l:List Nat){h:House},cj h->p<h.places.length->cj (l.foldl (λg t=>g.put t p) h)
 | [],_,I,_=>I
 |_::l,_,I,hp=>oG l (ib I hp) hp
theorem fY{p:Nat}:∀(l:List Nat)(h:House),(l.foldl (λg t=>g.put t p) h).places=h.places
 | [],_=>rfl
 |t::l,h=>fY l (h.put t p)
theorem fw{p:Nat}:∀(l:List Nat)(h:House),(l.foldl (λg t=>g.put t p) h).shows=h.shows
 | [],_=>rfl
 |t::l,h=>fw l (h.put t p)
theorem xk{p:Nat}:∀(l:List Nat)(h:House),(l.foldl (λg t=>g.put t p) h).things.length=h.things.length
 | [],_=>rfl
 |t::l,h=>by
  show(l.foldl (λg t=>g.put t p) (h.put t p)).things.length=h.things.length
  rw[xk l (h.put t p)]
  exact dP _ _ _
theorem D8{h:House}(I:cj h){n:Nat}(hn:h.today+n<=2000):cj { h with today:=h.today+n } where
 today:=hn
 np:=I.np
 nt:=I.nt
 ns:=I.ns
 pl:=λp x hx=>by
  have o:=I.pl p x hx
  exact⟨o.kind,o.room,o.up,o.light.1,λa ha=>by
   have:=o.light.2 a ha
   exact⟨by show a.1<=h.today+n;omega,this.2⟩⟩
 th:=λt x hx=>by
  have o:=I.th t x hx
  exact⟨o.name,o.KR,o.lim,o.harm,o.came,λa ha=>by
   have:=o.stays a ha
   exact⟨this.1,by show a.1<=h.today+n;omega,this.2.2⟩,o.back⟩
 sh:=I.sh
 nc:=I.nc
theorem oH{h:House}(I:cj h){e:Nat}:cj (h.setShow e none) where
 today:=I.today
 np:=I.np
 nt:=I.nt
 ns:=by
  show(h.shows.set e none).length=6
  rw[List.length_set]
  exact I.ns
 pl:=I.pl
 th:=I.th
 sh:=λi s hs=>by
  have hs:(h.shows.set e none)[i]? =some (some s):=hs
  rw[List.getElem?_set] at hs
  split at hs
  ·split at hs<;>cases hs
  ·exact I.sh i s hs
 nc:=λe1 e2 s1 s2 t hW h1 h2=>by
  have h1:(h.shows.set e none)[e1]? =some (some s1):=h1
  have h2:(h.shows.set e none)[e2]? =some (some s2):=h2
  rw[List.getElem?_set] at h1 h2
  split at h1
  ·split at h1<;>cases h1
  ·split at h2
   ·split at h2<;>cases h2
   ·exact I.nc e1 e2 s1 s2 t hW h1 h2
theorem oI{h:House}(I:cj h){e:Nat}{s:Show}(o:PZ h.places.length h.things.length s)
 (hc:∀(e2:Nat)(s2:Show)(t:Nat),e2≠e->h.shows[e2]? =some (some s2)->t∈s.things->t∈s2.things->¬(s.first<s2.end_/\s2.first<s.end_)):cj (h.setShow e (some s)) where
 today:=I.today
 np:=I.np
 nt:=I.nt
 ns:=by
  show(h.shows.set e (some s)).length=6
  rw[List.length_set]
  exact I.ns
 pl:=I.pl
 th:=I.th
 sh:=λi x hx=>by
  have hx:(h.shows.set e (some s))[i]? =some (some x):=hx
  rw[List.getElem?_set] at hx
  split at hx
  ·split at hx
   ·have q:=Option.some.inj (Option.some.inj hx)
    subst q
    exact o
   ·cases hx
  ·exact I.sh i x hx
 nc:=λe1 e2 s1 s2 t hW h1 h2 m1 m2=>by
  have h1:(h.shows.set e (some s))[e1]? =some (some s1):=h1
  have h2:(h.shows.set e (some s))[e2]? =some (some s2):=h2
  rw[List.getElem?_set] at h1 h2
  by_cases q1:e=e1
  ·rw[if_pos q1] at h1
   rw[if_neg (by omega)] at h2
   split at h1
   ·have q:=Option.some.inj (Option.some.inj h1)
    subst q
    exact hc e2 s2 t (by omega) h2 m1 m2
   ·cases h1
  ·rw[if_neg q1] at h1
   by_cases q2:e=e2
   ·rw[if_pos q2] at h2
    split at h2
    ·have q:=Option.some.inj (Option.some.inj h2)
     subst q
     have z:=hc e1 s1 t (by omega) h1 m2 m1
     exact λw=>z ⟨w.2,w.1⟩
    ·cases h2
   ·rw[if_neg q2] at h2
    exact I.nc e1 e2 s1 s2 t hW h1 h2 m1 m2
theorem nH{h:House}{t:Nat}{s:Show}:s∈h.booked t↔∃e:Nat,h.shows[e]? =some (some s)/\t∈s.things:=by
 unfold House.booked
 rw[List.mem_filterMap]
 constructor
 ·rintro⟨o,ho,hs⟩
  cases o with
  |none=>cases hs
  |some x=>
   have hs:(if x.things.contains t=true then some x else none)=some s:=hs
   split at hs
   ·rename_i q
    have e:=Option.some.inj hs
    subst e
    obtain⟨e,he⟩:=List.getElem?_of_mem ho
    exact⟨e,he,by simpa using q⟩
   ·cases hs
 ·rintro⟨e,he,ht⟩
  refine⟨some s,List.mem_of_getElem? he,?_⟩
  show(if s.things.contains t=true then some s else none)=some s
  rw[if_pos (by simpa using ht)]
theorem oJ{a b c d:Nat}:meet a b c d=true↔a<d/\c<b:=by
 unfold meet
 simp
theorem v9:∀(l:List (Option Show))(t:Nat),xj l->k9 (l.filterMap λe=>match e with
  |none=>none
  |some s=>if s.things.contains t=true then some s else none)
 | [],_,_=>True.intro
 |o::l,t,nc=>by
  have nc':xj l:=λe1 e2 s1 s2 t' hW h1 h2=>nc (e1+1) (e2+1) s1 s2 t' (by omega) h1 h2
  have ih:=v9 l t nc'
  rw[List.filterMap_cons]
  cases o with
  |none=>exact ih
  |some s=>
   by_cases q:s.things.contains t=true
   ·dsimp only
    rw[if_pos q]
    refine⟨λx hx w=> ?_,ih⟩
    obtain⟨o,ho,hs⟩:=List.mem_filterMap.mp hx
    cases o with
    |none=>cases hs
    |some y=>
     have hs:(if y.things.contains t=true then some y else none)=some x:=hs
     split at hs
     ·rename_i q2
      have e:=Option.some.inj hs
      subst e
      obtain⟨e,he⟩:=List.getElem?_of_mem ho
      exact nc 0 (e+1) s y t (by omega) rfl he (by simpa using q) (by simpa using q2) w
     ·cases hs
   ·dsimp only
    rw[if_neg q]
    exact ih
theorem ve{h:House}(I:cj h)(t:Nat):k9 (h.booked t):=v9 h.shows t I.nc
theorem Ib{h:House}(I:cj h)(d:Deed):cj (h.do_ d).1:=by
 cases d with
 |place up k r l=>
  simp only[House.do_]
  split
  ·exact I
  ·split
   ·exact I
   ·split
    ·exact I
    ·rename_i q1 q2 q3
     have q3':¬(12<=h.places.length):=q3
     have Y0:¬(3<k\/r=0\/24<r\/10000<l):=q2
     exact v3 I (by omega) (by omega) (by omega) (by omega) (by omega)
 |light p l=>
  simp only[House.do_]
  split
  ·exact I
  ·split
   ·exact I
   ·exact v8 I (by omega)
 |thing w m l p=>
  simp only[House.do_]
  split
  ·exact I
  ·split
   ·exact I
   ·split
    ·exact I
    ·split
     ·exact I
     ·split
      ·exact I
      ·rename_i q1 q2 q3 q4 q5
       have Y1:¬(24<=h.things.length):=q4
       refine FJ I ?_ (by omega) (by omega) (by omega) (by omega)
       cases e:isName w with
       |true=>rfl
       |false=>exact absurd (.inl e) q2
 |move t p=>
  simp only[House.do_]
  split
  ·exact I
  ·split
   ·exact I
   ·split
    ·exact I
    ·split
     ·exact I
     ·split
      ·exact I
      ·split
       ·exact I
       ·exact ib I (by omega)
 |day n=>
  simp only[House.do_]
  split
  ·exact I
  ·rename_i q
   have q':¬(n=0\/2000<h.today+n):=q
   exact D8 I (by omega)
 |harm t l=>
  simp only[House.do_]
  split
  ·exact I
  ·split
   ·exact I
   ·exact jy I λx o=>⟨o.name,o.KR,o.lim,by show l<=5;omega,o.came,o.stays,o.back⟩
 |lend t p b=>
  simp only[House.do_]
  split
  ·exact I
  ·split
   ·exact I
   ·split
    ·exact I
    ·split
     ·exact I
     ·split
      ·exact I
      ·split
       ·exact I
       ·rename_i q1 q2 q3 q4 q5 q6
        have Y0:¬((h.place p).kind≠3\/b<=h.today\/2000<b):=q2
        refine jy (ib I (by omega)) λx o=>⟨o.name,o.KR,o.lim,o.harm,o.came,o.stays,λb' hb=> ?_⟩
        have e:b=b':=Option.some.inj hb
        omega
 |home t p=>
  simp only[House.do_]
  split
  ·exact I
  ·split
   ·exact I
   ·split
    ·exact I
    ·split
     ·exact I
     ·split
      ·exact I
      ·exact jy (ib I (by omega)) λx o=>⟨o.name,o.KR,o.lim,o.harm,o.came,o.stays,λb' hb=>by cases hb⟩
 |show_ p a b=>
  simp only[House.do_]
  split
  ·exact I
  ·split
   ·exact I
   ·split
    ·exact I
    ·split
     ·exact I
     ·rename_i q1 q2 q3 _ e _
      have Y0:¬((h.place p).kind≠1\/a<h.today\/b<=a\/2000<b):=q2
      exact oI I ⟨by show p<_;omega,by show a<b/\b<=2000;omega,List.nodup_nil,λt ht=>by cases ht⟩ λe2 s2 t _ _ ht=>by cases ht
 |book e t=>
  simp only[House.do_]
  split
  ·exact I
  ·rename_i s hs
   split
   ·exact I
   ·split
    ·exact I
    ·split
     ·exact I
     ·rename_i q1 q2 q3
      have key:∀late:Bool,cj (if late=true\/((h.booked t).any λx=>meet s.first s.end_ x.first x.end_)=true then(h,(-16:Int)) else if (h.place s.place).room<=s.things.length then(h,-12) else if (h.thing t).limit<h.will t (s::h.booked t) then(h,-33) else
       (h.setShow e (some ⟨s.place,s.first,s.end_,s.things++ [t],false⟩),((s.things.length+1:Nat):Int))).1:=by
       intro late
       split
       ·exact I
       ·split
        ·exact I
        ·split
         ·exact I
         ·rename_i q4 q5 q6
          have gs:=lb hs
          have o:=I.sh e s gs
          have nt:¬t∈s.things:=λm=>q3 (by simpa using m)
          have Y1:=not_or.mp q4
          refine oI I ⟨o.place,o.days,?_,?_⟩ ?_
          ·show(s.things++ [t]).Nodup
           rw[List.nodup_append]
           refine⟨o.nd,by simp,λa ha b hb=> ?_⟩
           have e:=List.mem_singleton.mp hb
           subst e
           intro e2
           subst e2
           exact nt ha
          ·intro t' Ug
           rcases List.mem_append.mp Ug with m|m
           ·exact o.th t' m
           ·have e:=List.mem_singleton.mp m
            subst e
            omega
          ·intro e2 s2 t' hW h2 m1 m2 w
           rcases List.mem_append.mp m1 with m|m
           ·exact I.nc e e2 s s2 t' (λz=>hW z.symm) gs h2 m m2 w
           ·have e3:=List.mem_singleton.mp m
            subst e3
            refine Y1.2 (List.any_eq_true.mpr ⟨s2,nH.mpr ⟨e2,h2,m2⟩,?_⟩)
            exact oJ.mpr w
      exact key _
 |unbook e t=>
  simp only[House.do_]
  split
  ·exact I
  ·rename_i s hs
   split
   ·exact I
   ·split
    ·exact I
    ·have gs:=lb hs
     have o:=I.sh e s gs
     refine oI I ⟨o.place,o.days,o.nd.sublist List.filter_sublist,λt' m=>o.th t' (List.mem_filter.mp m).1⟩ λe2 s2 t' hW h2 m1 m2 w=> ?_
     exact I.nc e e2 s s2 t' (λz=>hW z.symm) gs h2 (List.mem_filter.mp m1).1 m2 w
 |hang e=>
  simp only[House.do_]
  split
  ·exact I
  ·rename_i s hs
   split
   ·exact I
   ·split
    ·exact I
    ·split
     ·exact I
     ·split
      ·exact I
      ·split
       ·exact I
       ·have gs:=lb hs
        have o:=I.sh e s gs
        refine oI (oG s.things I o.place) ⟨?_,o.days,o.nd,?_⟩ λe2 s2 t' hW h2 m1 m2 w=> ?_
        ·rw[fY]
         exact o.place
        ·intro t m
         rw[xk]
         exact o.th t m
        ·rw[fw] at h2
         exact I.nc e e2 s s2 t' (λz=>hW z.symm) gs h2 m1 m2 w
 |down e p=>
  simp only[House.do_]
  split
  ·exact I
  ·rename_i s hs
   split
   ·exact I
   ·split
    ·exact I
    ·split
     ·exact I
     ·split
      ·exact I
      ·exact oH (oG s.things I (by omega))
 |cancel e=>
  simp only[House.do_]
  split
  ·exact I
  ·split
   ·exact I
   ·exact oH I
def lit(h:House)(t d:Nat):Nat:=match h.where_ t d with
 |none=>0
 |some p=>h.lightOn p d
theorem xl(h:House)(t a b:Nat):(h.lightFrom t a b:Int)=sumTo (λi=>(lit h t (a+i):Int)) (b - a):=by
 have e:h.lightFrom t a b=(List.range (b - a)).foldl (λn i=>n+lit h t (a+i)) 0:=by
  unfold House.lightFrom
  congr 1
  funext n i
  unfold lit
  cases h.where_ t (a+i)<;>rfl
 rw[e,qb (λi=>lit h t (a+i))]
theorem oK(h:House)(t d:Nat):(h.dose t d:Int)=sumTo (λi=>(lit h t ((h.thing t).came+i):Int)) (d - (h.thing t).came):=xl h t _ d
theorem dM{h:House}{t d:Nat}(hd:d<=(h.thing t).came):h.dose t d=0:=by
 have e:=oK h t d
 rw[show d - (h.thing t).came=0 by omega] at e
 have e:(h.dose t d:Int)=0:=e
 omega
theorem FK{h:House}{t d:Nat}(hd:(h.thing t).came<=d):h.dose t (d+1)=h.dose t d+lit h t d:=by
 have e1:=oK h t (d+1)
 have e2:=oK h t d
 rw[show d+1 - (h.thing t).came=(d - (h.thing t).came)+1 by omega] at e1
 have e1:(h.dose t (d+1):Int)=sumTo (λi=>(lit h t ((h.thing t).came+i):Int)) (d - (h.thing t).came)+(lit h t ((h.thing t).came+(d - (h.thing t).came)):Int):=e1
 rw[show(h.thing t).came+(d - (h.thing t).came)=d by omega,<-e2] at e1
 omega
theorem iZ{h g:House}{t d:Nat}(hc:(h.thing t).came=(g.thing t).came)(hl:∀i,(h.thing t).came<=i->i<d->lit h t i=lit g t i):h.dose t d=g.dose t d:=by
 have e1:=oK h t d
 have e2:=oK g t d
 rw[<-hc] at e2
 rw[k0 (g:=λi=>(lit g t ((h.thing t).came+i):Int)) λi hi=>by rw[hl _ (by omega) (by omega)],<-e2] at e1
 omega
theorem nI{α:Type}(l:List α)(k:Nat)(f:α->α)(i:Nat)(d:α):(setAt l k f).getD i d=if i=k/\k<l.length then f (l.getD k d) else l.getD i d:=by
 rw[List.getD_eq_getElem?_getD,qc]
 by_cases q:i=k
 ·subst q
  rw[if_pos rfl]
  by_cases r:i<l.length
  ·rw[if_pos ⟨rfl,r⟩,List.getD_eq_getElem?_getD,List.getElem?_eq_getElem r]
   rfl
  ·rw[if_neg (λz=>r z.2),List.getD_eq_getElem?_getD,List.getElem?_eq_none (by omega)]
   rfl
 ·rw[if_neg q,if_neg (λz=>q z.1),List.getD_eq_getElem?_getD]
theorem lX{α:Type}(l:List α)(x:α)(i:Nat)(d:α):(l++ [x]).getD i d=if i=l.length then x else l.getD i d:=by
 rw[List.getD_eq_getElem?_getD,cD]
 by_cases q:i=l.length
 ·rw[if_pos q,if_pos q]
  rfl
 ·rw[if_neg q,if_neg q,List.getD_eq_getElem?_getD]
theorem bN(h:House)(t:Nat)(f:Thing->Thing)(t':Nat):(h.setThing t f).thing t'=if t'=t/\t<h.things.length then f (h.thing t) else h.thing t':=nI _ _ _ _ _
theorem da(h:House)(t p t':Nat):(h.put t p).thing t'=if t'=t/\t<h.things.length then { h.thing t with stays:=from_ (h.thing t).stays h.today p } else h.thing t':=nI _ _ _ _ _
theorem tQ(h:House)(t p:Nat):(h.put t p).things.length=h.things.length:=dP _ _ _
theorem BH(h:House)(t:Nat)(f:Thing->Thing):(h.setThing t f).things.length=h.things.length:=dP _ _ _
theorem xm{h:House}{t p t' d:Nat}(ht:t<h.things.length)(hd:h.today<=d):(h.put t p).where_ t' d=if t'=t then some p else h.where_ t' d:=by
 unfold House.where_
 rw[da]
 by_cases q:t'=t
 ·rw[if_pos ⟨q,ht⟩,if_pos q]
  exact oE hd
 ·rw[if_neg (λz=>q z.1),if_neg q]
theorem oM{h:House}{t p t' d:Nat}(hd:d<h.today):(h.put t p).where_ t' d=h.where_ t' d:=by
 unfold House.where_
 rw[da]
 by_cases q:t'=t/\t<h.things.length
 ·rw[if_pos q,q.1]
  exact oF hd
 ·rw[if_neg q]
theorem gN{h:House}{t p t':Nat}(ht:t<h.things.length):(h.put t p).here t'=if t'=t then p else h.here t':=by
 unfold House.here
 rw[show(h.put t p).today=h.today from rfl,xm ht (Nat.le_refl _)]
 by_cases q:t'=t
 ·rw[if_pos q,if_pos q]
  rfl
 ·rw[if_neg q,if_neg q]
theorem oN(h:House)(t p t':Nat):((h.put t p).thing t').came=(h.thing t').came:=by
 rw[da]
 by_cases q:t'=t/\t<h.things.length
 ·rw[if_pos q,q.1]
 ·rw[if_neg q]
theorem LV{h:House}{t p t' d:Nat}(hd:d<h.today):lit (h.put t p) t' d=lit h t' d:=by
 unfold lit
 rw[oM hd]
 rfl
theorem Ic{h:House}{t p t' d:Nat}(hd:d<=h.today):(h.put t p).dose t' d=h.dose t' d:=
 iZ (oN h t p t') λi _ hi=>LV (by omega)
theorem lY{h:House}{t:Nat}{f:Thing->Thing}(hf:∀x,(f x).stays=x.stays)(t' d:Nat):(h.setThing t f).where_ t' d=h.where_ t' d:=by
 unfold House.where_
 rw[bN]
 by_cases q:t'=t/\t<h.things.length
 ·rw[if_pos q,hf,q.1]
 ·rw[if_neg q]
theorem i5{h:House}{t:Nat}{f:Thing->Thing}(hf:∀x,(f x).stays=x.stays)(t':Nat):(h.setThing t f).here t'=h.here t':=by
 unfold House.here
 rw[lY hf]
 rfl
theorem zJ{h:House}{t:Nat}{f:Thing->Thing}(hf:∀x,(f x).stays=x.stays)(hc:∀x,(f x).came=x.came)(t' d:Nat):(h.setThing t f).dose t' d=h.dose t' d:=by
 refine iZ ?_ λi _ _=> ?_
 ·rw[bN]
  by_cases q:t'=t/\t<h.things.length
  ·rw[if_pos q,hc,q.1]
  ·rw[if_neg q]
 ·unfold lit
  rw[lY hf]
  rfl
theorem qd{p:Nat}:∀(l:List Nat)(h:House)(t':Nat),(∀t∈l,t<h.things.length)->(l.foldl (λg t=>g.put t p) h).here t'=if t'∈l then p else h.here t'
 | [],h,t',_=>by simp
 |t::l,h,t',hl=>by
  show(l.foldl (λg t=>g.put t p) (h.put t p)).here t'=_
  rw[qd l (h.put t p) t' λx hx=>by rw[tQ];exact hl x (List.mem_cons_of_mem _ hx),gN (hl t List.mem_cons_self)]
  by_cases q:t'∈l
  ·rw[if_pos q,if_pos (List.mem_cons_of_mem _ q)]
  ·rw[if_neg q]
   by_cases r:t'=t
   ·rw[if_pos r,if_pos (by rw[r];exact List.mem_cons_self)]
   ·rw[if_neg r,if_neg (λz=>by
     rcases List.mem_cons.mp z with z|z
     ·exact r z
     ·exact q z)]
theorem nJ{p:Nat}{α:Type}(g:Thing->α)(hg:∀x s,g { x with stays:=s }=g x):∀(l:List Nat)(h:House)(t':Nat),g ((l.foldl (λg t=>g.put t p) h).thing t')=g (h.thing t')
 | [],_,_=>rfl
 |t::l,h,t'=>by
  show g ((l.foldl (λg t=>g.put t p) (h.put t p)).thing t')=_
  rw[nJ g hg l (h.put t p) t',da]
  by_cases q:t'=t/\t<h.things.length
  ·rw[if_pos q,hg,q.1]
  ·rw[if_neg q]
abbrev b4(h:House)(p l:Nat):House:= { h with places:=setAt h.places p λx=> { x with light:=from_ x.light h.today l } }
theorem fZ(h:House)(p l q:Nat):(b4 h p l).place q=if q=p/\p<h.places.length then { h.place p with light:=from_ (h.place p).light h.today l } else h.place q:=nI _ _ _ _ _
theorem qe{h:House}{p l q d:Nat}(hd:d<h.today):(b4 h p l).lightOn q d=h.lightOn q d:=by
 unfold House.lightOn
 rw[fZ]
 by_cases r:q=p/\p<h.places.length
 ·rw[if_pos r,r.1]
  dsimp only
  rw[oF hd]
 ·rw[if_neg r]
theorem mO{h:House}{p l q d:Nat}(hp:p<h.places.length)(hd:h.today<=d):(b4 h p l).lightOn q d=if q=p then l else h.lightOn q d:=by
 unfold House.lightOn
 rw[fZ]
 by_cases r:q=p
 ·rw[if_pos ⟨r,hp⟩,if_pos r]
  dsimp only
  rw[oE hd]
  rfl
 ·rw[if_neg (λz=>r z.1),if_neg r]
theorem BI{h:House}{p l t d:Nat}(hd:d<=h.today):(b4 h p l).dose t d=h.dose t d:=by
 refine iZ rfl λi _ hi=> ?_
 unfold lit
 rw[show(b4 h p l).where_ t i=h.where_ t i from rfl]
 cases h.where_ t i with
 |none=>rfl
 |some q=>exact qe (by omega)
theorem jz{h:House}(I:cj h){t d:Nat}(ht:t<h.things.length)(hd:(h.thing t).came<=d):∃p,h.where_ t d=some p/\p<h.places.length:=by
 have o:=I.th t _ (iY ht)
 obtain⟨v,hv⟩:=o.came
 obtain⟨p,e,c,hc⟩:=FG hv hd
 exact⟨p,e,(o.stays _ hc).2.2⟩
theorem BJ{h:House}(I:cj h){t d:Nat}(ht:t<h.things.length)(hd:d<(h.thing t).came):h.where_ t d=none:=by
 have o:=I.th t _ (iY ht)
 exact FH (λa ha=>(o.stays a ha).1) hd
theorem ic{h:House}(I:cj h){t:Nat}(ht:t<h.things.length):(h.thing t).came<=h.today:=by
 have o:=I.th t _ (iY ht)
 obtain⟨v,hv⟩:=o.came
 exact(o.stays _ hv).2.1
theorem ie{h:House}(I:cj h){t:Nat}(ht:t<h.things.length):h.here t<h.places.length:=by
 obtain⟨p,e,hp⟩:=jz I ht (ic I ht)
 unfold House.here
 rw[e]
 exact hp
theorem tR{h:House}(I:cj h){t d:Nat}(ht:t<h.things.length)(hd:h.today<=d):h.where_ t d=some (h.here t):=by
 have o:=I.th t _ (iY ht)
 obtain⟨p,e,hp⟩:=jz I ht (ic I ht)
 unfold House.here
 rw[e]
 show h.where_ t d=some p
 rw[<-e]
 exact vW (λa ha=>(o.stays a ha).2.1) hd
theorem oO{h:House}(I:cj h){p d:Nat}(hp:p<h.places.length)(hd:h.today<=d):h.lightOn p d=h.lightOn p h.today:=by
 have o:=I.pl p _ (iX hp)
 unfold House.lightOn
 rw[vW (λa ha=>(o.light.2 a ha).1) hd]
theorem Ie{h:House}(I:cj h){t d:Nat}(ht:t<h.things.length)(hd:h.today<=d):lit h t d=h.lightOn (h.here t) h.today:=by
 unfold lit
 rw[tR I ht hd]
 exact oO I (ie I ht) hd
theorem wa{h:House}(I:cj h){t:Nat}(ht:t<h.things.length):∀k:Nat,h.dose t (h.today+k)=h.dose t h.today+k * h.lightOn (h.here t) h.today
 | 0=>by simp
 |k+1=>by
  have c:=ic I ht
  rw[show h.today+(k+1)=(h.today+k)+1 by omega,FK (by omega),wa I ht k,Ie I ht (by omega),Nat.add_mul]
  omega
abbrev cM(h:House)(n:Nat):House:= { h with today:=h.today+n }
theorem zK{h:House}(I:cj h){n t:Nat}(ht:t<h.things.length):(cM h n).here t=h.here t:=by
 show(h.where_ t (h.today+n)).getD 0=_
 rw[tR I ht (by omega)]
 rfl
theorem zL{h:House}(I:cj h){n p:Nat}(hp:p<h.places.length):(cM h n).lightOn p (cM h n).today=h.lightOn p h.today:=
 oO (h:=h) I hp (by show h.today<=h.today+n;omega)
abbrev de(h:House)(x:Place):House:= { h with places:=h.places++ [x] }
theorem lZ(h:House)(x:Place)(q:Nat):(de h x).place q=if q=h.places.length then x else h.place q:=lX _ _ _ _
theorem qS{h:House}{x:Place}{q d:Nat}(hq:q<h.places.length):(de h x).lightOn q d=h.lightOn q d:=by
 unfold House.lightOn
 rw[lZ,if_neg (by omega)]
theorem Ig{h:House}(I:cj h){x:Place}{t d:Nat}(ht:t<h.things.length):(de h x).dose t d=h.dose t d:=by
 refine iZ rfl λi hi _=> ?_
 obtain⟨p,e,hp⟩:=jz I ht (show(h.thing t).came<=i from hi)
 unfold lit
 rw[show(de h x).where_ t i=h.where_ t i from rfl,e]
 exact qS hp
abbrev bq(h:House)(x:Thing):House:= { h with things:=h.things++ [x] }
theorem eH(h:House)(x:Thing)(t:Nat):(bq h x).thing t=if t=h.things.length then x else h.thing t:=lX _ _ _ _
theorem qf{h:House}{x:Thing}{t d:Nat}(ht:t<h.things.length):(bq h x).where_ t d=h.where_ t d:=by
 unfold House.where_
 rw[eH,if_neg (by omega)]
theorem zM{h:House}{x:Thing}{t:Nat}(ht:t<h.things.length):(bq h x).here t=h.here t:=by
 unfold House.here
 rw[qf ht]
theorem FL{h:House}{x:Thing}{t d:Nat}(ht:t<h.things.length):(bq h x).dose t d=h.dose t d:=by
 refine iZ ?_ λi _ _=> ?_
 ·rw[eH,if_neg (by omega)]
 ·unfold lit
  rw[qf ht]
  rfl
def nL:Show:=⟨0,0,0, [],false⟩
def House.aH(h:House)(e:Nat):Show:=(h.show_ e).getD nL
def freeOf(h:House):Option Nat:=(List.range SHOWS).find? λe=>(h.show_ e).isNone
def Ih(h:House)(p a b:Nat):Bool:=h.shows.any λe=>match e with
 |none=>false
 |some s=>s.place==p&&meet a b s.first s.end_
theorem xn(h:House)(p a b:Nat):h.do_ (.show_ p a b)=if h.places.length<=p then(h,-2) else if (h.place p).kind≠1\/a<h.today\/b<=a\/DAYS<b then(h,-22) else if Ih h p a b=true then(h,-16) else if (freeOf h).isNone=true then(h,-28) else
 (h.setShow ((freeOf h).getD 0) (some ⟨p,a,b, [],false⟩),(((freeOf h).getD 0:Nat):Int)):=by
 unfold House.do_
 dsimp only
 split
 ·rfl
 ·split
  ·rfl
  ·by_cases q:Ih h p a b=true
   ·rw[if_pos q]
    exact if_pos q
   ·rw[if_neg q]
    refine(if_neg q).trans ?_
    show(match freeOf h with|none=>_|some e=>_)=_
    cases freeOf h<;>rfl
def late(h:House)(s:Show)(t:Nat):Bool:=match (h.thing t).back with
 |none=>false
 |some b=>decide (s.first<b)
theorem xo(h:House)(e t:Nat):h.do_ (.book e t)=if (h.show_ e).isNone=true\/h.things.length<=t then(h,-2) else if (House.aH h e).hung=true then(h,-15) else if (House.aH h e).things.contains t=true then(h,-17) else
 if late h (House.aH h e) t=true\/((h.booked t).any λx=>meet (House.aH h e).first (House.aH h e).end_ x.first x.end_)=true then(h,-16) else if (h.place (House.aH h e).place).room<=(House.aH h e).things.length then(h,-12) else if (h.thing t).limit<h.will t (House.aH h e::h.booked t) then(h,-33) else
 (h.setShow e (some ⟨(House.aH h e).place,(House.aH h e).first,(House.aH h e).end_,(House.aH h e).things++ [t],false⟩),(((House.aH h e).things.length+1:Nat):Int)):=by
 unfold House.do_ House.aH
 dsimp only
 cases q:h.show_ e with
 |none=>exact(if_pos (Or.inl rfl)).symm
 |some s=>
  by_cases r:h.things.length<=t
  ·rw[if_pos (Or.inr r)]
   exact if_pos r
  ·rw[if_neg (λz=>z.elim (λy=>nomatch y) r)]
   exact if_neg r
theorem qg(h:House)(e t:Nat):h.do_ (.unbook e t)=if (h.show_ e).isNone=true then(h,-2) else if (House.aH h e).hung=true then(h,-15) else if (House.aH h e).things.contains t=false then(h,-6) else
 (h.setShow e (some ⟨(House.aH h e).place,(House.aH h e).first,(House.aH h e).end_,(House.aH h e).things.filter λx=>decide (x≠t),false⟩),(((House.aH h e).things.length - 1:Nat):Int)):=by
 unfold House.do_ House.aH
 dsimp only
 cases q:h.show_ e with
 |none=>rfl
 |some s=>exact(if_neg (λz=>nomatch z)).symm
theorem xq(h:House)(e:Nat):h.do_ (.hang e)=if (h.show_ e).isNone=true then(h,-2) else if (House.aH h e).hung=true then(h,-17) else if h.today<(House.aH h e).first\/(House.aH h e).end_<=h.today then(h,-13) else
 if ((House.aH h e).things.any λt=>(h.thing t).back.isSome||h.hangs t)=true then(h,-16) else if ((House.aH h e).things.any λt=>decide (3<=(h.thing t).harm))=true then(h,-61) else
 if (h.place (House.aH h e).place).room<(House.aH h e).things.length+((h.at_ (House.aH h e).place).filter λt=> !((House.aH h e).things.contains t)).length then(h,-12) else
 (((House.aH h e).things.foldl (λg t=>g.put t (House.aH h e).place) h).setShow e (some ⟨(House.aH h e).place,(House.aH h e).first,(House.aH h e).end_,(House.aH h e).things,true⟩),(((House.aH h e).things.length:Nat):Int)):=by
 unfold House.do_ House.aH
 dsimp only
 cases q:h.show_ e with
 |none=>rfl
 |some s=>exact(if_neg (λz=>nomatch z)).symm
theorem xr(h:House)(e p:Nat):h.do_ (.down e p)=if (h.show_ e).isNone=true\/h.places.length<=p then(h,-2) else if (House.aH h e).hung=false then(h,-6) else if (h.place p).kind=1\/(h.place p).kind=3 then(h,-22) else if (h.place p).room<(House.aH h e).things.length+(h.at_ p).length then(h,-12) else
 (((House.aH h e).things.foldl (λg t=>g.put t p) h).setShow e none,(((House.aH h e).things.length:Nat):Int)):=by
 unfold House.do_ House.aH
 dsimp only
 cases q:h.show_ e with
 |none=>exact(if_pos (Or.inl rfl)).symm
 |some s=>
  by_cases r:h.places.length<=p
  ·rw[if_pos (Or.inr r)]
   exact if_pos r
  ·rw[if_neg (λz=>z.elim (λy=>nomatch y) r)]
   exact if_neg r
theorem qh(h:House)(e:Nat):h.do_ (.cancel e)=if (h.show_ e).isNone=true then(h,-2) else if (House.aH h e).hung=true then(h,-15) else(h.setShow e none,0):=by
 unfold House.do_ House.aH
 dsimp only
 cases q:h.show_ e with
 |none=>rfl
 |some s=>exact(if_neg (λz=>nomatch z)).symm
theorem dF{h:House}{e:Nat}(hs:¬(h.show_ e).isNone=true):h.shows[e]? =some (some (House.aH h e)):=by
 cases q:h.show_ e with
 |none=>rw[q] at hs;exact absurd rfl hs
 |some s=>
  have e1:House.aH h e=s:=by
   unfold House.aH
   rw[q]
   rfl
  rw[e1]
  exact lb q
theorem dA:∀(f lh:Nat)(l:List Text)(q:Ask)(r:List Text),ask f lh l=some (q,r)->r.length<l.length
 | 0,_,_,_,_,h=>by cases h
 |f+1,lh,l,q,r,h=>by
  unfold ask at h
  by_cases h0:lh=0
  ·rw[if_pos h0] at h
   cases e1:ask f 1 l with
   |none=>rw[e1] at h;cases h
   |some y=>
    obtain⟨p,r1⟩:=y
    rw[e1] at h
    have l1:=dA f 1 l p r1 e1
    dsimp only at h
    by_cases hw:r1.headD []=wOr
    ·rw[if_pos hw] at h
     cases e2:ask f 0 (r1.drop 1) with
     |none=>rw[e2] at h;cases h
     |some y=>
      obtain⟨q2,s⟩:=y
      rw[e2] at h
      have l2:=dA f 0 _ q2 s e2
      rw[List.length_drop] at l2
      obtain⟨_,e⟩:=Prod.mk.inj (Option.some.inj h)
      subst e
      omega
    ·rw[if_neg hw] at h
     obtain⟨_,e⟩:=Prod.mk.inj (Option.some.inj h)
     subst e
     exact l1
  ·rw[if_neg h0] at h
   by_cases h1:lh=1
   ·rw[if_pos h1] at h
    cases e1:ask f 2 l with
    |none=>rw[e1] at h;cases h
    |some y=>
     obtain⟨p,r1⟩:=y
     rw[e1] at h
     have l1:=dA f 2 l p r1 e1
     dsimp only at h
     by_cases hw:r1.headD []=wAnd
     ·rw[if_pos hw] at h
      cases e2:ask f 1 (r1.drop 1) with
      |none=>rw[e2] at h;cases h
      |some y=>
       obtain⟨q2,s⟩:=y
       rw[e2] at h
       have l2:=dA f 1 _ q2 s e2
       rw[List.length_drop] at l2
       obtain⟨_,e⟩:=Prod.mk.inj (Option.some.inj h)
       subst e
       omega
     ·rw[if_neg hw] at h
      obtain⟨_,e⟩:=Prod.mk.inj (Option.some.inj h)
      subst e
      exact l1
   ·rw[if_neg h1] at h
    cases l with
    |nil=>cases h
    |cons w t=>
     dsimp only at h
     have cl:(w::t).length=t.length+1:=rfl
     have d1:(t.drop 1).length=t.length - 1:=List.length_drop
     have d2:(t.drop 2).length=t.length - 2:=List.length_drop
     split at h
     ·obtain⟨_,e⟩:=Prod.mk.inj (Option.some.inj h);subst e;omega
     ·split at h
      ·obtain⟨_,e⟩:=Prod.mk.inj (Option.some.inj h);subst e;omega
      ·split at h
       ·obtain⟨_,e⟩:=Prod.mk.inj (Option.some.inj h);subst e;omega
       ·split at h
        ·cases e2:ask f 2 t with
         |none=>rw[e2] at h;cases h
         |some y=>
          obtain⟨q2,s⟩:=y
          rw[e2] at h
          have l2:=dA f 2 _ q2 s e2
          obtain⟨_,e⟩:=Prod.mk.inj (Option.some.inj h)
          subst e
          omega
        ·split at h
         ·cases e2:ask f 0 t with
          |none=>rw[e2] at h;cases h
          |some y=>
           obtain⟨q2,s⟩:=y
           rw[e2] at h
           have l2:=dA f 0 _ q2 s e2
           dsimp only at h
           split at h
           ·obtain⟨_,e⟩:=Prod.mk.inj (Option.some.inj h)
            subst e
            rw[List.length_drop]
            omega
           ·cases h
         ·split at h
          ·split at h
           ·cases h
           ·obtain⟨_,e⟩:=Prod.mk.inj (Option.some.inj h);subst e;omega
          ·split at h
           ·split at h
            ·obtain⟨_,e⟩:=Prod.mk.inj (Option.some.inj h);subst e;omega
            ·split at h
             ·obtain⟨_,e⟩:=Prod.mk.inj (Option.some.inj h);subst e;omega
             ·split at h
              ·obtain⟨_,e⟩:=Prod.mk.inj (Option.some.inj h);subst e;omega
              ·cases h
           ·cases h
def need(lh n:Nat):Nat:=3 * n+(3 - min lh 2)
theorem zN{r:List Text}{w:Text}(hw:w≠ [])(h:r.headD []=w):1<=r.length:=by
 cases r with
 |nil=>exact absurd h.symm hw
 |cons _ _=>simp
theorem gw:∀(f g lh:Nat)(l:List Text),need lh l.length<=f->need lh l.length<=g->ask f lh l=ask g lh l
 | 0,_,lh,l,h,_=>by
   unfold need at h
   omega
 |f+1,0,lh,l,_,h=>by
  unfold need at h
  omega
 |f+1,g+1,lh,l,hf,hg=>by
  unfold ask
  unfold need at hf hg
  by_cases h0:lh=0
  ·rw[if_pos h0,if_pos h0,gw f g 1 l (by unfold need;omega) (by unfold need;omega)]
   cases e1:ask g 1 l with
   |none=>rfl
   |some y=>
    obtain⟨p,r1⟩:=y
    have l1:=dA g 1 l p r1 e1
    dsimp only
    by_cases hw:r1.headD []=wOr
    ·have l3:=zN (by decide) hw
     have d:(r1.drop 1).length=r1.length - 1:=List.length_drop
     rw[if_pos hw,if_pos hw,gw f g 0 (r1.drop 1) (by unfold need;omega) (by unfold need;omega)]
    ·rw[if_neg hw,if_neg hw]
  ·rw[if_neg h0,if_neg h0]
   by_cases h1:lh=1
   ·rw[if_pos h1,if_pos h1,gw f g 2 l (by unfold need;omega) (by unfold need;omega)]
    cases e1:ask g 2 l with
    |none=>rfl
    |some y=>
     obtain⟨p,r1⟩:=y
     have l1:=dA g 2 l p r1 e1
     dsimp only
     by_cases hw:r1.headD []=wAnd
     ·have l3:=zN (by decide) hw
      have d:(r1.drop 1).length=r1.length - 1:=List.length_drop
      rw[if_pos hw,if_pos hw,gw f g 1 (r1.drop 1) (by unfold need;omega) (by unfold need;omega)]
     ·rw[if_neg hw,if_neg hw]
   ·rw[if_neg h1,if_neg h1]
    cases l with
    |nil=>rfl
    |cons w t=>
     have cl:(w::t).length=t.length+1:=rfl
     rw[cl] at hf hg
     dsimp only
     rw[gw f g 2 t (by unfold need;omega) (by unfold need;omega),gw f g 0 t (by unfold need;omega) (by unfold need;omega)]
def BK(l:List Text):Option (Ask×List Text):=ask (need 0 l.length) 0 l
def Hb(l:List Text):Option (Ask×List Text):=ask (need 1 l.length) 1 l
def KS(l:List Text):Option (Ask×List Text):=ask (need 2 l.length) 2 l
theorem xu{f:Nat}{l:List Text}(h:need 0 l.length<=f):ask f 0 l=BK l:=gw _ _ _ _ h (Nat.le_refl _)
theorem BL{f:Nat}{l:List Text}(h:need 1 l.length<=f):ask f 1 l=Hb l:=gw _ _ _ _ h (Nat.le_refl _)
theorem BM{f:Nat}{l:List Text}(h:need 2 l.length<=f):ask f 2 l=KS l:=gw _ _ _ _ h (Nat.le_refl _)
theorem Ii{l:List Text}{q:Ask}{r:List Text}(h:Hb l=some (q,r)):r.length<l.length:=dA _ _ _ _ _ h
theorem Ij{l:List Text}{q:Ask}{r:List Text}(h:KS l=some (q,r)):r.length<l.length:=dA _ _ _ _ _ h
theorem Ik(l:List Text):BK l=match Hb l with
  |none=>none
  |some (p,r)=>if r.headD []=wOr then match BK (r.drop 1) with
    |none=>none
    |some (q,s)=>some (.or_ p q,s)
   else some (p,r):=by
 rw[<-xu (f:=3 * l.length+3+1) (by unfold need;omega),<-BL (f:=3 * l.length+3) (by unfold need;omega)]
 show(if (0:Nat)=0 then _ else _)=_
 rw[if_pos rfl]
 cases e1:ask (3 * l.length+3) 1 l with
 |none=>rfl
 |some y=>
  obtain⟨p,r1⟩:=y
  have l1:=dA _ 1 l p r1 e1
  dsimp only
  have d:(r1.drop 1).length=r1.length - 1:=List.length_drop
  rw[xu (f:=3 * l.length+3) (by unfold need;omega)]
  rfl
theorem Il(l:List Text):Hb l=match KS l with
  |none=>none
  |some (p,r)=>if r.headD []=wAnd then match Hb (r.drop 1) with
    |none=>none
    |some (q,s)=>some (.and_ p q,s)
   else some (p,r):=by
 rw[<-BL (f:=3 * l.length+3+1) (by unfold need;omega),<-BM (f:=3 * l.length+3) (by unfold need;omega)]
 show(if (1:Nat)=0 then _ else if (1:Nat)=1 then _ else _)=_
 rw[if_neg (by decide),if_pos rfl]
 cases e1:ask (3 * l.length+3) 2 l with
 |none=>rfl
 |some y=>
  obtain⟨p,r1⟩:=y
  have l1:=dA _ 2 l p r1 e1
  dsimp only
  have d:(r1.drop 1).length=r1.length - 1:=List.length_drop
  rw[BL (f:=3 * l.length+3) (by unfold need;omega)]
  rfl
theorem D9:KS []=none:=rfl
theorem Im(w:Text)(r:List Text):KS (w::r)=if w=wAll then some (.all,r) else if w=wLent then some (.lent,r) else if w=wShown then some (.shown,r)
 else if w=wNot then match KS r with
  |none=>none
  |some (q,s)=>some (.no q,s)
 else if w= [40] then match BK r with
  |none=>none
  |some (q,s)=>if s.headD []= [41] then some (q,s.drop 1) else none
 else if w=wIn then match number (r.headD []) with
  |none=>none
  |some n=>some (.inside n,r.drop 1)
 else match wFields.idxOf? w,number ((r.drop 1).headD []) with
  |some k,some n=>if r.headD []= [60] then some (.less k n,r.drop 2) else if r.headD []= [61] then some (.same k n,r.drop 2) else if r.headD []= [62] then some (.more k n,r.drop 2) else none
  |_,_=>none:=by
 have cl:(w::r).length=r.length+1:=rfl
 rw[<-BM (f:=3 * r.length+3+1) (by unfold need;omega),<-BM (l:=r) (f:=3 * r.length+3) (by unfold need;omega),<-xu (l:=r) (f:=3 * r.length+3) (by unfold need;omega)]
 show(if (2:Nat)=0 then _ else if (2:Nat)=1 then _ else _)=_
 rw[if_neg (by decide),if_neg (by decide)]
 rfl
theorem BO{t:Text}{l:List Text}(hp:parts t []=some l)(hl:l.length<=120):readAsk t=match BK l with
  |some (q, [])=>some q
  |_=>none:=by
 unfold readAsk
 rw[hp]
 dsimp only
 rw[xu (f:=4 * TEXT) (by unfold need TEXT;omega)]
 rfl
theorem i6:∀(t cur:Text)(l:List Text),parts t cur=some l->l.length<=t.length+(if cur.length=0 then 0 else 1)
 | [],cur,l,h=>by
   unfold parts at h
   have e:=Option.some.inj h
   subst e
   by_cases q:cur.length=0
   ·rw[if_pos q,if_pos q]
    simp
   ·rw[if_neg q,if_neg q]
    simp
 |b::t,cur,l,h=>by
  unfold parts at h
  have cl:(b::t).length=t.length+1:=rfl
  have dn:(if cur.length=0 then([]:List Text) else [cur.reverse]).length=if cur.length=0 then 0 else 1:=by
   split<;>rfl
  split at h
  ·have ih:=i6 t (b::cur) l h
   rw[if_neg (by simp)] at ih
   split<;>omega
  ·dsimp only at h
   split at h
   ·cases e:parts t [] with
    |none=>rw[e] at h;cases h
    |some r=>
     rw[e] at h
     have ih:=i6 t [] r e
     have e2:=Option.some.inj h
     subst e2
     rw[List.length_append,dn]
     simp only[List.length_nil,if_true] at ih
     omega
   ·split at h
    ·cases e:parts t [] with
     |none=>rw[e] at h;cases h
     |some r=>
      rw[e] at h
      have ih:=i6 t [] r e
      have e2:=Option.some.inj h
      subst e2
      rw[List.length_append,dn]
      simp only[List.length_nil,if_true] at ih
      simp only[List.length_cons]
      omega
    ·split at h
     ·cases e:parts t [b] with
      |none=>rw[e] at h;cases h
      |some r=>
       rw[e] at h
       have ih:=i6 t [b] r e
       rw[if_neg (by simp)] at ih
       have e2:=Option.some.inj h
       subst e2
       rw[List.length_append,dn]
       omega
     ·cases h
theorem Vk{M:List (List Int)->Prop}
 (c0:M [[0]])
 (c1:∀(b0 b1 b2 b3:Int),M [[1,b0,b1,b2,b3]])
 (c2:∀(b0 b1:Int),M [[2,b0,b1]])
 (c3:∀(b0 b1 b2 b3:Int)(r0:List Int),M [[3,b0,b1,b2,b3],r0])
 (c4:∀(b0 b1:Int),M [[4,b0,b1]])
 (c5:∀(b0:Int),M [[5,b0]])
 (c6:∀(b0 b1:Int),M [[6,b0,b1]])
 (c7:∀(b0 b1 b2:Int),M [[7,b0,b1,b2]])
 (c8:∀(b0 b1:Int),M [[8,b0,b1]])
 (c9:∀(b0 b1 b2:Int),M [[9,b0,b1,b2]])
 (c10:∀(b0 b1:Int),M [[10,b0,b1]])
 (c11:∀(b0 b1:Int),M [[11,b0,b1]])
 (c12:∀(b0:Int),M [[12,b0]])
 (c13:∀(b0 b1:Int),M [[13,b0,b1]])
 (c14:∀(b0:Int),M [[14,b0]])
 (c15:∀(b0 b1:Int),M [[15,b0,b1]])
 (c16:∀(b0 b1:Int),M [[16,b0,b1]])
 (c17:∀(b0:Int),M [[17,b0]])
 (c18:∀(b0:Int),M [[18,b0]])
 (c19:M [[19]])
 (c20:M [[20]])
 (c21:∀(b0:Int)(r0:List Int),M [[21,b0],r0])
 (c22:∀(b0:Int)(r0:List Int),M [[22,b0],r0])
 (c23:∀(b0:Int),M [[23,b0]])
 (c24:M [[24]])
 (no:∀c,Km383Neutral.asked1 c=false->PyKm383.whole c=c->M c):∀c,M c:=by
 intro c
 rcases c with _|⟨l,r⟩
 ·exact no _ rfl rfl
 rcases l with _|⟨p,t⟩
 ·exact no _ rfl rfl
 rcases p with n|n
 ·rcases n with _|_|_|_|_|_|_|_|_|_|_|_|_|_|_|_|_|_|_|_|_|_|_|_|_|n
  ·rcases t with _|⟨_,_⟩<;>first|exact no _ rfl rfl| (rcases r with _|⟨_,_⟩<;>first|exact c0|exact no _ rfl rfl)
  ·rcases t with _|⟨_,_|⟨_,_|⟨_,_|⟨_,_|⟨_,_⟩⟩⟩⟩⟩<;>first|exact no _ rfl rfl| (rcases r with _|⟨_,_⟩<;>first|exact c1 _ _ _ _|exact no _ rfl rfl)
  ·rcases t with _|⟨_,_|⟨_,_|⟨_,_⟩⟩⟩<;>first|exact no _ rfl rfl| (rcases r with _|⟨_,_⟩<;>first|exact c2 _ _|exact no _ rfl rfl)
  ·rcases t with _|⟨_,_|⟨_,_|⟨_,_|⟨_,_|⟨_,_⟩⟩⟩⟩⟩<;>first|exact no _ rfl rfl| (rcases r with _|⟨_,_|⟨_,_⟩⟩<;>first|exact c3 _ _ _ _ _|exact no _ rfl rfl)
  ·rcases t with _|⟨_,_|⟨_,_|⟨_,_⟩⟩⟩<;>first|exact no _ rfl rfl| (rcases r with _|⟨_,_⟩<;>first|exact c4 _ _|exact no _ rfl rfl)
  ·rcases t with _|⟨_,_|⟨_,_⟩⟩<;>first|exact no _ rfl rfl| (rcases r with _|⟨_,_⟩<;>first|exact c5 _|exact no _ rfl rfl)
  ·rcases t with _|⟨_,_|⟨_,_|⟨_,_⟩⟩⟩<;>first|exact no _ rfl rfl| (rcases r with _|⟨_,_⟩<;>first|exact c6 _ _|exact no _ rfl rfl)
  ·rcases t with _|⟨_,_|⟨_,_|⟨_,_|⟨_,_⟩⟩⟩⟩<;>first|exact no _ rfl rfl| (rcases r with _|⟨_,_⟩<;>first|exact c7 _ _ _|exact no _ rfl rfl)
  ·rcases t with _|⟨_,_|⟨_,_|⟨_,_⟩⟩⟩<;>first|exact no _ rfl rfl| (rcases r with _|⟨_,_⟩<;>first|exact c8 _ _|exact no _ rfl rfl)
  ·rcases t with _|⟨_,_|⟨_,_|⟨_,_|⟨_,_⟩⟩⟩⟩<;>first|exact no _ rfl rfl| (rcases r with _|⟨_,_⟩<;>first|exact c9 _ _ _|exact no _ rfl rfl)
  ·rcases t with _|⟨_,_|⟨_,_|⟨_,_⟩⟩⟩<;>first|exact no _ rfl rfl| (rcases r with _|⟨_,_⟩<;>first|exact c10 _ _|exact no _ rfl rfl)
  ·rcases t with _|⟨_,_|⟨_,_|⟨_,_⟩⟩⟩<;>first|exact no _ rfl rfl| (rcases r with _|⟨_,_⟩<;>first|exact c11 _ _|exact no _ rfl rfl)
  ·rcases t with _|⟨_,_|⟨_,_⟩⟩<;>first|exact no _ rfl rfl| (rcases r with _|⟨_,_⟩<;>first|exact c12 _|exact no _ rfl rfl)
  ·rcases t with _|⟨_,_|⟨_,_|⟨_,_⟩⟩⟩<;>first|exact no _ rfl rfl| (rcases r with _|⟨_,_⟩<;>first|exact c13 _ _|exact no _ rfl rfl)
  ·rcases t with _|⟨_,_|⟨_,_⟩⟩<;>first|exact no _ rfl rfl| (rcases r with _|⟨_,_⟩<;>first|exact c14 _|exact no _ rfl rfl)
  ·rcases t with _|⟨_,_|⟨_,_|⟨_,_⟩⟩⟩<;>first|exact no _ rfl rfl| (rcases r with _|⟨_,_⟩<;>first|exact c15 _ _|exact no _ rfl rfl)
  ·rcases t with _|⟨_,_|⟨_,_|⟨_,_⟩⟩⟩<;>first|exact no _ rfl rfl| (rcases r with _|⟨_,_⟩<;>first|exact c16 _ _|exact no _ rfl rfl)
  ·rcases t with _|⟨_,_|⟨_,_⟩⟩<;>first|exact no _ rfl rfl| (rcases r with _|⟨_,_⟩<;>first|exact c17 _|exact no _ rfl rfl)
  ·rcases t with _|⟨_,_|⟨_,_⟩⟩<;>first|exact no _ rfl rfl| (rcases r with _|⟨_,_⟩<;>first|exact c18 _|exact no _ rfl rfl)
  ·rcases t with _|⟨_,_⟩<;>first|exact no _ rfl rfl| (rcases r with _|⟨_,_⟩<;>first|exact c19|exact no _ rfl rfl)
  ·rcases t with _|⟨_,_⟩<;>first|exact no _ rfl rfl| (rcases r with _|⟨_,_⟩<;>first|exact c20|exact no _ rfl rfl)
  ·rcases t with _|⟨_,_|⟨_,_⟩⟩<;>first|exact no _ rfl rfl| (rcases r with _|⟨_,_|⟨_,_⟩⟩<;>first|exact c21 _ _|exact no _ rfl rfl)
  ·rcases t with _|⟨_,_|⟨_,_⟩⟩<;>first|exact no _ rfl rfl| (rcases r with _|⟨_,_|⟨_,_⟩⟩<;>first|exact c22 _ _|exact no _ rfl rfl)
  ·rcases t with _|⟨_,_|⟨_,_⟩⟩<;>first|exact no _ rfl rfl| (rcases r with _|⟨_,_⟩<;>first|exact c23 _|exact no _ rfl rfl)
  ·rcases t with _|⟨_,_⟩<;>first|exact no _ rfl rfl| (rcases r with _|⟨_,_⟩<;>first|exact c24|exact no _ rfl rfl)
  ·exact no _ rfl rfl
 ·exact no _ rfl rfl
theorem Io(c:List (List Int)):PyKm383.whole c=c:=by
 revert c
 apply Vk<;>first|exact λ_ _ h=>h| (intros;rfl)
theorem Ip(l:List Int):PyKm383.calls l=PyFlat.calls PyKm383.shape l.length l:=by
 unfold PyKm383.calls
 cases PyFlat.calls PyKm383.shape l.length l with
 |none=>rfl
 |some cs=>
  show some (cs.map PyKm383.whole)=some cs
  rw[show PyKm383.whole=id from funext Io,List.map_id]
def bK(c:List (List Int)):Call:=(Km383Neutral.callOf c).getD .start
theorem qT{c:List (List Int)}(h:Km383Neutral.asked1 c=true):Km383Neutral.callOf c=some (bK c):=by
 revert c
 apply Vk<;>first|exact λc h _ z=>by rw[h] at z;cases z| (intros;rfl)
def run(b:Book):List (List (List Int))->List (List Int)
 | []=> []
 |c::r=>Km383Neutral.told (act b (bK c)).2::run (act b (bK c)).1 r
theorem qU:∀(cs:List (List (List Int)))(b:Book),(∀c∈cs,Km383Neutral.asked1 c=true)->PyFlat.played Km383Neutral.step (some b) cs=run b cs
 | [],_,_=>rfl
 |c::r,b,h=>by
  have e:Km383Neutral.step (some b) c=(some (act b (bK c)).1,Km383Neutral.told (act b (bK c)).2):=by
   unfold Km383Neutral.step
   rw[qT (h c List.mem_cons_self)]
  show(Km383Neutral.step (some b) c).2::PyFlat.played Km383Neutral.step (Km383Neutral.step (some b) c).1 r=_
  rw[e,qU r _ λd hd=>h d (List.mem_cons_of_mem _ hd)]
  rfl
theorem Iq{c:List (List Int)}(h:(Km383Neutral.step none c).2.isEmpty=false):bK c=.start:=by
 unfold Km383Neutral.step at h
 unfold bK
 cases e:Km383Neutral.callOf c with
 |none=>rw[e] at h;cases h
 |some x=>
  rw[e] at h
  cases x<;>first|rfl|cases h
theorem zO{c:List (List Int)}{r:List (List (List Int))}(hs:bK c=.start)(ha:∀d∈c::r,Km383Neutral.asked1 d=true):PyFlat.played Km383Neutral.step Km383Neutral.start (c::r)=run fresh (c::r):=by
 have e:Km383Neutral.step none c=(some fresh, [0]):=by
  unfold Km383Neutral.step
  rw[qT (ha c List.mem_cons_self),hs]
  rfl
 show(Km383Neutral.step none c).2::PyFlat.played Km383Neutral.step (Km383Neutral.step none c).1 r=_
 rw[e]
 show [0]::PyFlat.played Km383Neutral.step (some fresh) r=run fresh (c::r)
 rw[qU r fresh λd hd=>ha d (List.mem_cons_of_mem _ hd)]
 show _=Km383Neutral.told (act fresh (bK c)).2::run (act fresh (bK c)).1 r
 rw[hs]
 rfl
theorem line{l:List Int}(h:PyKm383.answers_asked l=true):∃cs:List (List (List Int)),l=PyFlat.put cs/\(∀c∈cs,Km383Neutral.asked1 c=true)/\(∀c∈cs,PyFlat.okCall PyKm383.shape c)/\cs.length<=1000/\
 PyKm383.answers l=PyFlat.told (run fresh cs):=by
 unfold PyKm383.answers_asked at h
 cases e:PyKm383.calls l with
 |none=>rw[e] at h;cases h
 |some cs=>
  rw[e] at h
  have h:(PyFlat.atMost 1000 cs&&Km383Neutral.asked cs)=true:=h
  rw[Bool.and_eq_true] at h
  obtain⟨h1,h2⟩:=h
  unfold Km383Neutral.asked at h2
  simp only[Bool.and_eq_true,decide_eq_true_eq,List.all_eq_true] at h2
  obtain⟨h3,h4,h5,h6⟩:=h2
  have e2:=e
  rw[Ip] at e2
  obtain⟨p1,p2⟩:=PyFlat.put_calls _ _ _ e2
  refine⟨cs,p1,h5,p2,h4,?_⟩
  unfold PyKm383.answers
  rw[e]
  show PyFlat.told (PyFlat.played Km383Neutral.step Km383Neutral.start cs)=_
  cases cs with
  |nil=>simp at h3
  |cons c r=>
   have h6:(!((Km383Neutral.step Km383Neutral.start c).2.isEmpty)&&Km383Neutral.may (Km383Neutral.step Km383Neutral.start c).1 r)=true:=h6
   rw[Bool.and_eq_true] at h6
   have h7:(!((Km383Neutral.step none c).2.isEmpty))=true:=h6.1
   rw[zO (Iq (by simpa using h7)) h5]
structure Vl(l:List (Option Show))(kd hr:Nat->Nat)(bk:Nat->Option Nat):Prop where
 iO:∀(e:Nat)(s:Show),l[e]? =some (some s)->kd s.place=1
 hung:∀(e:Nat)(s:Show),l[e]? =some (some s)->s.hung=true->∀t∈s.things,hr t=s.place/\bk t=none
 dis:∀(e1 e2:Nat)(s1 s2:Show)(t:Nat),e1≠e2->l[e1]? =some (some s1)->l[e2]? =some (some s2)->s1.hung=true->s2.hung=true->t∈s1.things->t∉s2.things
abbrev HH(h:House):Prop:=Vl h.shows (λp=>(h.place p).kind) h.here (λt=>(h.thing t).back)
theorem Vl.imp{l l':List (Option Show)}{kd Xr hr Vm:Nat->Nat}{bk Y2:Nat->Option Nat}(h:Vl l kd hr bk)
 (q:∀(e:Nat)(s:Show),l'[e]? =some (some s)->(l[e]? =some (some s)/\Xr s.place=kd s.place/\(s.hung=true->∀t∈s.things,Vm t=hr t/\Y2 t=bk t))\/(s.hung=false/\Xr s.place=1)):Vl l' Xr Vm Y2 where
 iO:=λe s hs=>by
  rcases q e s hs with⟨a,b,_⟩|⟨_,b⟩
  ·rw[b]
   exact h.iO e s a
  ·exact b
 hung:=λe s hs hu t ht=>by
  rcases q e s hs with⟨a,_,c⟩|⟨a,_⟩
  ·obtain⟨c1,c2⟩:=c hu t ht
   rw[c1,c2]
   exact h.hung e s a hu t ht
  ·rw[a] at hu
   cases hu
 dis:=λe1 e2 s1 s2 t ne h1 h2 u1 u2=>by
  rcases q e1 s1 h1 with⟨a1,_,_⟩|⟨a1,_⟩
  ·rcases q e2 s2 h2 with⟨a2,_,_⟩|⟨a2,_⟩
   ·exact h.dis e1 e2 s1 s2 t ne a1 a2 u1 u2
   ·rw[a2] at u2
    cases u2
  ·rw[a1] at u1
   cases u1
theorem Ir:HH empty:=by
 have no:∀(e:Nat)(s:Show),empty.shows[e]?≠some (some s):=λe s h=>by
  have:=List.mem_of_getElem? h
  simp[empty] at this
 exact⟨λe s h=>absurd h (no e s),λe s h=>absurd h (no e s),λe1 e2 s1 s2 t _ h=>absurd h (no e1 s1)⟩
theorem i7{h:House}{t:Nat}:h.hangs t=true↔∃(e:Nat)(s:Show),h.shows[e]? =some (some s)/\t∈s.things/\s.hung=true:=by
 unfold House.hangs
 rw[List.any_eq_true]
 constructor
 ·rintro⟨s,hs,hu⟩
  obtain⟨e,he,ht⟩:=nH.mp hs
  exact⟨e,s,he,ht,hu⟩
 ·rintro⟨e,s,he,ht,hu⟩
  exact⟨s,nH.mpr ⟨e,he,ht⟩,hu⟩
theorem gK{l:List (Option Show)}{e e':Nat}{o:Option Show}{s:Show}(h:(l.set e o)[e']? =some (some s)):(e'=e/\o=some s)\/(e'≠e/\l[e']? =some (some s)):=by
 rw[List.getElem?_set] at h
 by_cases q:e=e'
 ·rw[if_pos q] at h
  split at h
  ·exact .inl ⟨q.symm,Option.some.inj h⟩
  ·cases h
 ·rw[if_neg q] at h
  exact .inr ⟨λz=>q z.symm,h⟩
theorem tT{h:House}(H:HH h){t:Nat}(nh:¬h.hangs t=true){g:House}(hs:g.shows=h.shows)(hk:∀p,(g.place p).kind=(h.place p).kind)(hh:∀t',t'≠t->g.here t'=h.here t')(hb:∀t',t'≠t->(g.thing t').back=(h.thing t').back):HH g:=by
 refine H.imp λe s he=>.inl ?_
 rw[hs] at he
 refine⟨he,hk _,λhu t' Ug=> ?_⟩
 have ne:t'≠t:=λz=>nh (i7.mpr ⟨e,s,he,by rw[<-z];exact Ug,hu⟩)
 exact⟨hh t' ne,hb t' ne⟩
theorem Uh{h:House}(I:cj h)(H:HH h)(d:Deed):HH (h.do_ d).1:=by
 cases d with
 |place u k r l=>
  simp only[House.do_]
  split
  ·exact H
  ·split
   ·exact H
   ·split
    ·exact H
    ·refine H.imp λe s he=>.inl ⟨he,?_,λ_ _ _=>⟨rfl,rfl⟩⟩
     have o:=I.sh e s he
     show((de h _).place s.place).kind=_
     rw[lZ,if_neg (by have:=o.place;omega)]
 |light p l=>
  simp only[House.do_]
  split
  ·exact H
  ·split
   ·exact H
   ·refine H.imp λe s he=>.inl ⟨he,?_,λ_ _ _=>⟨rfl,rfl⟩⟩
    show((b4 h p l).place s.place).kind=_
    rw[fZ]
    split
    ·next q=>rw[q.1]
    ·rfl
 |thing w m l p=>
  simp only[House.do_]
  split
  ·exact H
  ·split
   ·exact H
   ·split
    ·exact H
    ·split
     ·exact H
     ·split
      ·exact H
      ·refine H.imp λe s he=>.inl ⟨he,rfl,λ_ t ht=> ?_⟩
       have o:=(I.sh e s he).th t ht
       refine⟨zM o,?_⟩
       show((bq h _).thing t).back=_
       rw[eH,if_neg (by omega)]
 |move t p=>
  simp only[House.do_]
  split
  ·exact H
  ·next h1=>
   split
   ·exact H
   ·split
    ·exact H
    ·split
     ·exact H
     ·next nh=>
      split
      ·exact H
      ·split
       ·exact H
       ·have ht:t<h.things.length:=by omega
        exact tT H nh rfl (λ_=>rfl) (λt' ne=>by rw[gN ht,if_neg ne]) (λt' ne=>by rw[da,if_neg (λz=>ne z.1)])
 |day n=>
  simp only[House.do_]
  split
  ·exact H
  ·refine H.imp λe s he=>.inl ⟨he,rfl,λ_ t ht=>⟨?_,rfl⟩⟩
   exact zK I ((I.sh e s he).th t ht)
 |harm t l=>
  simp only[House.do_]
  split
  ·exact H
  ·split
   ·exact H
   ·refine H.imp λe s he=>.inl ⟨he,rfl,λ_ t' _=>⟨i5 (f:=λx=> { x with harm:=l }) (λ_=>rfl) t',?_⟩⟩
    rw[bN]
    split
    ·next q=>rw[q.1]
    ·rfl
 |lend t p b=>
  simp only[House.do_]
  split
  ·exact H
  ·next h1=>
   split
   ·exact H
   ·split
    ·exact H
    ·split
     ·exact H
     ·next nh=>
      split
      ·exact H
      ·split
       ·exact H
       ·have ht:t<h.things.length:=by omega
        have nh':¬h.hangs t=true:=λz=>nh (by
         unfold House.hangs at z
         rw[List.any_eq_true] at z ⊢
         obtain⟨s,hs,hu⟩:=z
         exact⟨s,hs,by rw[hu];rfl⟩)
        refine tT H nh' rfl (λ_=>rfl) (λt' ne=> ?_) (λt' ne=> ?_)
        ·rw[i5 (f:=λx=> { x with back:=some b }) (λ_=>rfl) t',gN ht,if_neg ne]
        ·rw[bN,if_neg (λz=>ne z.1),da,if_neg (λz=>ne z.1)]
 |home t p=>
  simp only[House.do_]
  split
  ·exact H
  ·next h1=>
   split
   ·exact H
   ·next hb=>
    split
    ·exact H
    ·split
     ·exact H
     ·split
      ·exact H
      ·have ht:t<h.things.length:=by omega
       have nh:¬h.hangs t=true:=λz=>by
        obtain⟨e,s,he,hm,hu⟩:=i7.mp z
        have q:=(H.hung e s he hu t hm).2
        exact hb (by rw[q];rfl)
       refine tT H nh rfl (λ_=>rfl) (λt' ne=> ?_) (λt' ne=> ?_)
       ·rw[i5 (f:=λx=> { x with back:=none }) (λ_=>rfl) t',gN ht,if_neg ne]
       ·rw[bN,if_neg (λz=>ne z.1),da,if_neg (λz=>ne z.1)]
 |show_ p a b=>
  rw[xn]
  split
  ·exact H
  ·split
   ·exact H
   ·next hk=>
    split
    ·exact H
    ·split
     ·exact H
     ·refine H.imp λe s he=> ?_
      rcases gK he with⟨_,q⟩|⟨_,q⟩
      ·cases q
       exact .inr ⟨rfl,by
        by_cases z:(h.place p).kind=1
        ·exact z
        ·exact absurd (.inl z) hk⟩
      ·exact .inl ⟨q,rfl,λ_ _ _=>⟨rfl,rfl⟩⟩
 |book e t=>
  rw[xo]
  split
  ·exact H
  ·next h1=>
   have hs:h.shows[e]? =some (some (House.aH h e)):=dF (λz=>h1 (.inl z))
   split
   ·exact H
   ·split
    ·exact H
    ·split
     ·exact H
     ·split
      ·exact H
      ·split
       ·exact H
       ·refine H.imp λe' s he=> ?_
        rcases gK he with⟨_,q⟩|⟨_,q⟩
        ·cases q
         exact .inr ⟨rfl,(H.iO e (House.aH h e) hs:_)⟩
        ·exact .inl ⟨q,rfl,λ_ _ _=>⟨rfl,rfl⟩⟩
 |unbook e t=>
  rw[qg]
  split
  ·exact H
  ·next h1=>
   have hs:h.shows[e]? =some (some (House.aH h e)):=dF h1
   split
   ·exact H
   ·split
    ·exact H
    ·refine H.imp λe' s he=> ?_
     rcases gK he with⟨_,q⟩|⟨_,q⟩
     ·cases q
      exact .inr ⟨rfl,(H.iO e (House.aH h e) hs:_)⟩
     ·exact .inl ⟨q,rfl,λ_ _ _=>⟨rfl,rfl⟩⟩
 |hang e=>
  rw[xq]
  split
  ·exact H
  ·next h1=>
   have hs:h.shows[e]? =some (some (House.aH h e)):=dF h1
   split
   ·exact H
   ·split
    ·exact H
    ·split
     ·exact H
     ·next hb=>
      split
      ·exact H
      ·split
       ·exact H
       ·have hb:∀t∈(House.aH h e).things,(h.thing t).back=none/\¬h.hangs t=true:=λt ht=>by
         have z:¬((h.thing t).back.isSome||h.hangs t)=true:=λz=>hb (List.any_eq_true.mpr ⟨t,ht,z⟩)
         rw[Bool.or_eq_true] at z
         refine⟨?_,λy=>z (.inr y)⟩
         cases q:(h.thing t).back with
         |none=>rfl
         |some x=>exact absurd (.inl (by rw[q];rfl)) z
        have lt:=(I.sh e _ hs).th
        have hr:∀t',((House.aH h e).things.foldl (λg t=>g.put t (House.aH h e).place) h).here t'=if t'∈(House.aH h e).things then(House.aH h e).place else h.here t':=λt'=>qd _ h t' lt
        have bk:∀t',(((House.aH h e).things.foldl (λg t=>g.put t (House.aH h e).place) h).thing t').back=(h.thing t').back:=λt'=>nJ (λx=>x.back) (λ_ _=>rfl) _ h t'
        have old:∀(e':Nat)(s:Show),((((House.aH h e).things.foldl (λg t=>g.put t (House.aH h e).place) h).shows).set e (some ⟨(House.aH h e).place,(House.aH h e).first,(House.aH h e).end_,(House.aH h e).things,true⟩))[e']? =some (some s)->(e'=e/\s.place=(House.aH h e).place/\s.things=(House.aH h e).things)\/(e'≠e/\h.shows[e']? =some (some s)):=λe' s he=>by
         rcases gK he with⟨a,q⟩|⟨a,q⟩
         ·cases q
          exact .inl ⟨a,rfl,rfl⟩
         ·rw[fw] at q
          exact .inr ⟨a,q⟩
        have kd:∀p,(((House.aH h e).things.foldl (λg t=>g.put t (House.aH h e).place) h).place p).kind=(h.place p).kind:=λp=>by
         unfold House.place
         rw[fY]
        refine⟨λe' s he=> ?_,λe' s he hu t ht=> ?_,λe1 e2 s1 s2 t ne h1 h2 u1 u2 m1 m2=> ?_⟩
        ·show(((House.aH h e).things.foldl (λg t=>g.put t (House.aH h e).place) h).place s.place).kind=1
         rw[kd]
         rcases old e' s he with⟨_,q,_⟩|⟨_,q⟩
         ·rw[q]
          exact H.iO e _ hs
         ·exact H.iO e' s q
        ·show((House.aH h e).things.foldl (λg t=>g.put t (House.aH h e).place) h).here t=_/\(((House.aH h e).things.foldl (λg t=>g.put t (House.aH h e).place) h).thing t).back=none
         rw[hr,bk]
         rcases old e' s he with⟨_,q,r⟩|⟨_,q⟩
         ·rw[r] at ht
          rw[if_pos ht,q]
          exact⟨rfl,(hb t ht).1⟩
         ·have nm:t∉(House.aH h e).things:=λz=>(hb t z).2 (i7.mpr ⟨e',s,q,ht,hu⟩)
          rw[if_neg nm]
          exact H.hung e' s q hu t ht
        ·rcases old e1 s1 h1 with⟨a1,_,r1⟩|⟨a1,q1⟩
         ·rcases old e2 s2 h2 with⟨a2,_,r2⟩|⟨a2,q2⟩
          ·exact ne (a1.trans a2.symm)
          ·rw[r1] at m1
           exact(hb t m1).2 (i7.mpr ⟨e2,s2,q2,m2,u2⟩)
         ·rcases old e2 s2 h2 with⟨a2,_,r2⟩|⟨a2,q2⟩
          ·rw[r2] at m2
           exact(hb t m2).2 (i7.mpr ⟨e1,s1,q1,m1,u1⟩)
          ·exact H.dis e1 e2 s1 s2 t ne q1 q2 u1 u2 m1 m2
 |down e p=>
  rw[xr]
  split
  ·exact H
  ·next h1=>
   have hs:h.shows[e]? =some (some (House.aH h e)):=dF (λz=>h1 (.inl z))
   split
   ·exact H
   ·next hu=>
    have hu:(House.aH h e).hung=true:=by simpa using hu
    split
    ·exact H
    ·split
     ·exact H
     ·have lt:=(I.sh e _ hs).th
      refine H.imp λe' s he=> ?_
      rcases gK he with⟨_,q⟩|⟨ne,q⟩
      ·cases q
      ·rw[fw] at q
       refine .inl ⟨q,?_,λHa t ht=>⟨?_,?_⟩⟩
       ·show(((House.aH h e).things.foldl (λg t=>g.put t p) h).place s.place).kind=_
        unfold House.place
        rw[fY]
       ·show((House.aH h e).things.foldl (λg t=>g.put t p) h).here t=_
        rw[qd _ h t lt,if_neg (H.dis e' e s _ t ne q hs Ha hu ht)]
       ·exact nJ (λx=>x.back) (λ_ _=>rfl) _ h t
 |cancel e=>
  rw[qh]
  split
  ·exact H
  ·split
   ·exact H
   ·refine H.imp λe' s he=> ?_
    rcases gK he with⟨_,q⟩|⟨_,q⟩
    ·cases q
    ·exact .inl ⟨q,rfl,λ_ _ _=>⟨rfl,rfl⟩⟩
theorem Iu{h:House}(H:HH h){e p:Nat}(hs:¬(h.show_ e).isNone=true)(hu:(House.aH h e).hung=true)(hk:¬(h.place p).kind=1):(h.at_ p).filter (λt=> !((House.aH h e).things.contains t))=h.at_ p:=by
 refine List.filter_eq_self.mpr λt ht=> ?_
 have hh:h.here t=p:=by
  unfold House.at_ at ht
  simpa using(List.mem_filter.mp ht).2
 cases q:(House.aH h e).things.contains t with
 |false=>rfl
 |true=>
  have m:t∈(House.aH h e).things:=by simpa using q
  have z:=(H.hung e _ (dF hs) hu t m).1
  exact absurd (by rw[<-hh,z];exact H.iO e _ (dF hs)) hk
theorem LW{h:House}{d:Deed}(hd:0<=(h.do_ d).2):(told d).length<=13:=by
 cases d with
 |thing w m l p=>
  simp only[House.do_] at hd
  split at hd
  ·exact absurd hd (by show ¬(0:Int)<=-2;decide)
  ·split at hd
   ·exact absurd hd (by show ¬(0:Int)<=-22;decide)
   ·next q=>
    have n:isName w=true:=by
     cases z:isName w with
     |true=>rfl
     |false=>exact absurd (.inl z) q
    unfold isName at n
    simp only[Bool.and_eq_true,decide_eq_true_eq] at n
    have:=n.2.1
    show([3,w.length,m,l,p]++w).length<=13
    rw[List.length_append]
    have:w.length<=8:=this
    show 5+w.length<=13
    omega
 |place u k r l=>exact(by decide:5<=13)
 |_=>first|exact(by decide:2<=13)|exact(by decide:3<=13)|exact(by decide:4<=13)
structure Good(b:Book):Prop where
 inv:cj b.house
 hh:HH b.house
 log:∀d∈b.log,(told d).length<=13
theorem nM:Good fresh:=⟨vZ,Ir,λ_ h=>nomatch h⟩
theorem Ea{b:Book}(g:Good b)(d:Deed):Good (b.do_ d).1:=by
 unfold Book.do_
 dsimp only
 split
 ·exact g
 ·next h1=>
  split
  ·exact g
  ·refine⟨Ib g.inv d,Uh g.inv g.hh d,λx hx=> ?_⟩
   rcases List.mem_cons.mp hx with e|hx
   ·rw[e]
    exact LW (Int.not_lt.mp h1)
   ·exact g.log x hx
theorem Iv{b:Book}(g:Good b)(c:Call):Good (act b c).1:=by
 cases c<;>first|exact nM|exact Ea g _|exact g|skip
 case thing w n m l p=>
  unfold act
  dsimp only
  split
  ·exact g
  ·exact Ea g _
theorem oP{n:Nat}{l:List Nat}(h:l.length<=n):(fill n l).length=n:=by
 unfold fill
 rw[List.length_append,List.length_replicate]
 omega
theorem Iw(b:Book)(d:Deed):(b.do_ d).2.out= []:=by
 unfold Book.do_
 dsimp only
 split
 ·rfl
 ·split<;>rfl
theorem LX{b:Book}(g:Good b)(c:Call):(Km383Neutral.told (act b c).2).length<=130:=by
 have e:∀a:Ans,(Km383Neutral.told a).length=a.out.length+1:=λa=>by
  unfold Km383Neutral.told Km383Neutral.nums
  rw[List.length_cons,List.length_map]
 rw[e]
 have d0:∀d:Deed,(b.do_ d).2.out.length+1<=130:=λd=>by rw[Iw];decide
 cases c<;>first|exact d0 _| (show 0+1<=130;decide)| (show 1+1<=130;decide)| (show 4+1<=130;decide)|skip
 all_goals unfold act;dsimp only
 case thing w n m l p=>
  split
  ·show 0+1<=130
   decide
  ·exact d0 _
 case where_ t d=>
  split
  ·show 0+1<=130;decide
  ·split
   ·show 0+1<=130;decide
   ·split<;>(show 0+1<=130;decide)
 case dose t d=>
  split
  ·show 0+1<=130;decide
  ·split<;>(show 0+1<=130;decide)
 case until_ t=>
  split
  ·show 0+1<=130;decide
  ·split<;>(show 0+1<=130;decide)
 case inside p=>
  split
  ·show 0+1<=130;decide
  ·show 1+1<=130;decide
 case find t n=>
  split
  ·show 0+1<=130;decide
  ·split
   ·show 0+1<=130;decide
   ·show 1+1<=130;decide
 case write t n=>
  split
  ·show 0+1<=130;decide
  ·split
   ·show 0+1<=130;decide
   ·split
    ·show 0+1<=130;decide
    ·next q=>
     show(fill TEXT _).length+1<=130
     rw[oP (by omega)]
     decide
 case entry k=>
  split
  ·show 0+1<=130;decide
  ·next d hd=>
   show(fill 13 _).length+1<=130
   rw[oP (g.log d (by
    have:=List.mem_of_getElem? hd
    exact List.mem_reverse.mp this))]
   decide
abbrev Step:=List Text
def bp(t:Text):Nat:=if t= [40] then 0 else if t=wOr then 1 else if t=wAnd then 2 else 3
structure RS where
 l:List Text
 out:List Step
 st:List Text
 want:Bool
def closer(b:Nat):List Text->List Step->List Text×List Step
 | [],o=>([],o)
 |t::st,o=>if b<bp t then closer b st (o++ [[t]]) else(t::st,o)
def aM(b:Nat)(s:RS):RS:= { s with st:=(closer b s.st s.out).1,out:=(closer b s.st s.out).2 }
def isNum(w:Text):Bool:=(decide (1<=w.length)&&w.all isDigit)&&(decide (w.length<=7)&&(w== [48]||!(w.headD 0==48)))
def isField(w:Text):Bool:=wFields.contains w
def ck:List Text:= [wAll,wLent,wShown]
def aG(w:Text):Nat:=if ck.contains w=true then 1 else if w=wIn then 2 else if isField w=true then 3 else 0
def df:List Text:= [[60], [61], [62]]
def bh:List Text->Bool
 | [a]=>ck.contains a
 | [a,b]=>a==wIn&&isNum b
 | [a,b,c]=>isField a&&(df.contains b&&isNum c)
 |_=>false
def opens:List Text:= [wNot, [40]]
def cH:List Text:= [wAnd,wOr]
def eU(s:RS):RS×Bool:=
 if opens.contains (s.l.headD [])=true then({ s with l:=s.l.drop 1,st:=s.l.headD []::s.st },true)
 else({ s with l:=s.l.drop (s.l.take (aG (s.l.headD []))).length,out:=s.out++ [s.l.take (aG (s.l.headD []))],want:=false },bh (s.l.take (aG (s.l.headD []))))
def bH(s:RS):RS×Bool:=if (aM 0 s).st= [] then(aM 0 s,false) else({ aM 0 s with st:=(aM 0 s).st.drop 1 },true)
def cV(s:RS):RS×Bool:=
 if s.l.headD []= [41] then bH { s with l:=s.l.drop 1 }
 else if cH.contains (s.l.headD [])=false then({ s with l:=s.l.drop 1 },false)
 else({ aM (bp (s.l.headD [])) { s with l:=s.l.drop 1 } with st:=s.l.headD []::(aM (bp (s.l.headD [])) { s with l:=s.l.drop 1 }).st,want:=true },true)
def cE(s:RS):RS×Bool:=if s.want=true then eU s else cV s
def xx(s:RS):Option (List Step):=if s.want=true\/(aM 0 s).st≠ [] then none else some (aM 0 s).out
theorem wc{c:List Text}(h:bh c=true):1<=c.length:=by
 cases c with
 |nil=>cases h
 |cons a c=>simp
theorem wg{s:RS}(hl:s.l≠ [])(ht:(cE s).2=true):(cE s).1.l.length<s.l.length:=by
 have pos:0<s.l.length:=List.length_pos_iff.mpr hl
 have d1:(s.l.drop 1).length<s.l.length:=by rw[List.length_drop];omega
 unfold cE at ht ⊢
 by_cases hw:s.want=true
 ·rw[if_pos hw] at ht ⊢
  unfold eU at ht ⊢
  by_cases ho:opens.contains (s.l.headD [])=true
  ·rw[if_pos ho]
   exact d1
  ·rw[if_neg ho] at ht ⊢
   have:=wc ht
   show(s.l.drop _).length<_
   rw[List.length_drop]
   omega
 ·rw[if_neg hw] at ht ⊢
  unfold cV at ht ⊢
  by_cases h1:s.l.headD []= [41]
  ·rw[if_pos h1]
   unfold bH
   split<;>exact d1
  ·rw[if_neg h1]
   split<;>exact d1
def cq(s:RS):Option (List Step):=if hl:s.l= [] then xx s else if ht:(cE s).2=true then cq (cE s).1 else none
termination_by s.l.length
decreasing_by exact wg hl ht
theorem oQ{o:List Step}{st:List Text}{k:Bool}:cq ⟨[],o,st,k⟩=xx ⟨[],o,st,k⟩:=by rw[cq];rfl
theorem d7{w:Text}{l:List Text}{o:List Step}{st:List Text}{k:Bool}:cq ⟨w::l,o,st,k⟩=if (cE ⟨w::l,o,st,k⟩).2=true then cq (cE ⟨w::l,o,st,k⟩).1 else none:=by
 rw[cq]
 rw[dif_neg (by simp)]
 split<;>rfl
theorem jA{b:Nat}{t:Text}{st:List Text}{o:List Step}(h:b<bp t):closer b (t::st) o=closer b st (o++ [[t]]):=if_pos h
theorem i9{b:Nat}{t:Text}{st:List Text}{o:List Step}(h:¬b<bp t):closer b (t::st) o=(t::st,o):=if_neg h
theorem sT{b:Nat}{t:Text}{l:List Text}{st:List Text}{o:List Step}{k:Bool}(h:b<bp t):aM b ⟨l,o,t::st,k⟩=aM b ⟨l,o++ [[t]],st,k⟩:=by
 unfold aM
 dsimp only
 rw[jA h]
theorem fz{w:Text}:cH.contains w=true↔w=wAnd\/w=wOr:=by simp[cH]
theorem dj(w:Text)(l:List Text)(o:List Step)(st:List Text)(k:Bool):cV ⟨w::l,o,st,k⟩=if w= [41] then bH ⟨l,o,st,k⟩ else if cH.contains w=false then(⟨l,o,st,k⟩,false) else
 ({ aM (bp w) ⟨l,o,st,k⟩ with st:=w::(aM (bp w) ⟨l,o,st,k⟩).st,want:=true },true):=rfl
theorem tU(w:Text)(l:List Text)(o:List Step)(st:List Text)(k:Bool):eU ⟨w::l,o,st,k⟩=if opens.contains w=true then(⟨l,o,w::st,k⟩,true) else
 (⟨(w::l).drop ((w::l).take (aG w)).length,o++ [(w::l).take (aG w)],st,false⟩,bh ((w::l).take (aG w))):=rfl
theorem xA{t:Text}{r:List Text}{o:List Step}{st:List Text}(h0:0<bp t)(h1:r.headD []=wOr->1<bp t)(h2:r.headD []=wAnd->2<bp t):cq ⟨r,o,t::st,false⟩=cq ⟨r,o++ [[t]],st,false⟩:=by
 cases r with
 |nil=>
  rw[oQ,oQ]
  unfold xx
  rw[sT h0]
 |cons w l=>
  have tb:∀(o:List Step)(st:List Text),cE ⟨w::l,o,st,false⟩=cV ⟨w::l,o,st,false⟩:=λo st=>rfl
  by_cases j:w= [41]\/cH.contains w=true
  ·have e:cE ⟨w::l,o,t::st,false⟩=cE ⟨w::l,o++ [[t]],st,false⟩:=by
    rw[tb,tb,dj,dj]
    by_cases q:w= [41]
    ·rw[if_pos q,if_pos q]
     unfold bH
     rw[sT h0]
    ·have jt:cH.contains w=true:=j.resolve_left q
     have bw:bp w<bp t:=by
      rcases fz.mp jt with e|e
      ·rw[e]
       exact h2 e
      ·rw[e]
       exact h1 e
     rw[if_neg q,if_neg q,if_neg (by rw[jt];simp),if_neg (by rw[jt];simp),sT bw]
   rw[d7,d7,e]
  ·have q1:w≠ [41]:=λz=>j (.inl z)
   have q2:cH.contains w=false:=by
    cases z:cH.contains w with
    |false=>rfl
    |true=>exact absurd (.inr z) j
   have f:∀(o:List Step)(st:List Text),(cE ⟨w::l,o,st,false⟩).2=false:=λo st=>by
    rw[tb,dj]
    rw[if_neg q1,if_pos q2]
   rw[d7,d7,f,f]
   rfl
def post:Ask->List Step
 | .all=> [[wAll]]
 | .lent=> [[wLent]]
 | .shown=> [[wShown]]
 | .inside n=> [[wIn,dec 8 n]]
 | .less k n=> [[wFields.getD k [], [60],dec 8 n]]
 | .same k n=> [[wFields.getD k [], [61],dec 8 n]]
 | .more k n=> [[wFields.getD k [], [62],dec 8 n]]
 | .no q=>post q++ [[wNot]]
 | .and_ p q=>post p++(post q++ [[wAnd]])
 | .or_ p q=>post p++(post q++ [[wOr]])
def fA(w:Text):Nat:=w.foldl (λn b=>10 * n+(b - 48)) 0
theorem oR(w:Text)(d:Nat):fA (w++ [d])=10 * fA w+(d - 48):=by
 unfold fA
 rw[List.foldl_append]
 rfl
theorem LY:∀(w:Text),w≠ []->w.all isDigit=true->w.headD 0≠48->1<=fA w:=by
 intro w
 induction hn:w.length generalizing w with
 |zero=>intro h;exact absurd (List.length_eq_zero_iff.mp hn) h
 |succ n ih=>
  intro h1 h2 h3
  have e:=List.dropLast_concat_getLast h1
  rw[<-e] at h2 h3 ⊢
  rw[oR]
  rw[List.all_append,Bool.and_eq_true] at h2
  by_cases q:w.dropLast= []
  ·rw[q] at h3
   have h3:w.getLast h1≠48:=h3
   have d:=h2.2
   simp[isDigit] at d
   omega
  ·have:=ih w.dropLast (by rw[List.length_dropLast];omega) q h2.1 (by
    cases hw:w.dropLast with
    |nil=>exact absurd hw q
    |cons a l=>
     rw[hw] at h3
     exact h3)
   omega
theorem LZ:∀(f:Nat)(w:Text),w≠ []->w.length<=f->w.all isDigit=true->(w.headD 0≠48\/w.length=1)->dec f (fA w)=w:=by
 intro f
 induction f with
 |zero=>
  intro w h1 h2
  exact absurd (List.length_eq_zero_iff.mp (Nat.le_zero.mp h2)) h1
 |succ f ih=>
  intro w h1 h2 h3 h4
  have e:=List.dropLast_concat_getLast h1
  generalize hd:w.getLast h1=d at e
  generalize hx:w.dropLast=x at e
  subst e
  rw[List.all_append,Bool.and_eq_true] at h3
  have dd:48<=d/\d<=57:=by
   have z:=h3.2
   simp[isDigit] at z
   exact z
  rw[oR]
  unfold dec
  by_cases q:x= []
  ·subst q
   show(if 10 * 0+(d - 48)<10 then [48+(10 * 0+(d - 48))] else _)= [d]
   rw[if_pos (by omega)]
   congr 1
   omega
  ·have hh:x.headD 0≠48:=by
    rcases h4 with h4|h4
    ·cases x with
     |nil=>exact absurd rfl q
     |cons a l=>exact h4
    ·rw[List.length_append] at h4
     have:0<x.length:=List.length_pos_iff.mpr q
     simp at h4
     exact absurd h4 q
   have p1:=LY x q h3.1 hh
   rw[if_neg (by omega),show(10 * fA x+(d - 48)) / 10=fA x by omega,show(10 * fA x+(d - 48)) % 10=d - 48 by omega,ih x q (by rw[List.length_append] at h2;simp at h2;omega) h3.1 (.inl hh)]
   rw[show 48+(d - 48)=d by omega]
theorem qi(w:Text):number w=if isNum w=true then some (fA w) else none:=by
 unfold number isNum fA
 by_cases h1:w.length=0
 ·rw[if_pos (.inl h1),if_neg]
  rw[decide_eq_false (by omega)]
  simp
 ·have l1:1<=w.length:=by omega
  by_cases h2:7<w.length
  ·rw[if_pos (.inr (.inl h2)),if_neg]
   rw[decide_eq_false (p:=w.length<=7) (by omega)]
   simp
  ·by_cases h3:w.all isDigit=false
   ·rw[if_pos (.inr (.inr (.inl h3))),if_neg]
    rw[h3]
    simp
   ·have h3:w.all isDigit=true:=by simpa using h3
    by_cases h4:w.headD 0=48/\w.length≠1
    ·rw[if_pos (.inr (.inr (.inr h4))),if_neg]
     have:(w== [48])=false:=by
      cases z:w== [48] with
      |false=>rfl
      |true=>
       have:=eq_of_beq z
       rw[this] at h4
       exact absurd rfl h4.2
     rw[this,h4.1]
     simp
    ·rw[if_neg (by
      intro z
      rcases z with z|z|z|z
      ·exact h1 z
      ·exact h2 z
      ·rw[h3] at z;cases z
      ·exact h4 z),if_pos]
     rw[decide_eq_true l1,h3,decide_eq_true (p:=w.length<=7) (by omega)]
     by_cases h5:w.headD 0=48
     ·have h6:w.length=1:=by
       by_cases z:w.length=1
       ·exact z
       ·exact absurd ⟨h5,z⟩ h4
      match w,h6 with
      | [a],_=>
        have h5:a=48:=h5
        subst h5
        rfl
     ·have:(w.headD 0==48)=false:=by simpa using h5
      rw[this]
      simp
theorem fD{w:Text}(h:isNum w=true):w≠ []/\w.all isDigit=true/\w.length<=7/\(w.headD 0≠48\/w.length=1):=by
 unfold isNum at h
 simp only[Bool.and_eq_true,decide_eq_true_eq] at h
 obtain⟨⟨h1,h2⟩,h3,h4⟩:=h
 refine⟨λz=>by rw[z] at h1;simp at h1,h2,h3,?_⟩
 rw[Bool.or_eq_true] at h4
 rcases h4 with h4|h4
 ·right
  rw[eq_of_beq h4]
  rfl
 ·left
  simpa using h4
theorem Eb{w:Text}(h:isNum w=true):dec 8 (fA w)=w:=by
 obtain⟨h1,h2,h3,h4⟩:=fD h
 exact LZ 8 w h1 (by omega) h2 h4
theorem FQ{w:Text}{k:Nat}(h:wFields.idxOf? w=some k):wFields.getD k []=w:=by
 have:=List.of_findIdx?_eq_some h
 rw[List.getD_eq_getElem?_getD]
 cases e:wFields[k]? with
 |none=>rw[e] at this;cases this
 |some x=>
  rw[e] at this
  exact eq_of_beq this
theorem BP{w:Text}:(wFields.idxOf? w).isSome=isField w:=by
 unfold isField
 rw[Bool.eq_iff_iff,List.isSome_idxOf?]
 simp
def low(b:Nat)(st:List Text):Prop:=∀t,st.head?=some t->bp t<=b
def P2(l:List Text):Prop:=(∀q r,KS l=some (q,r)->∀o st,cq ⟨l,o,st,true⟩=cq ⟨r,o++post q,st,false⟩)/\(KS l=none->∀o st,cq ⟨l,o,st,true⟩=none)
def P1(l:List Text):Prop:=(∀q r,Hb l=some (q,r)->r.headD []≠wAnd/\∀o st,low 2 st->cq ⟨l,o,st,true⟩=cq ⟨r,o++post q,st,false⟩)/\(Hb l=none->∀o st,low 2 st->cq ⟨l,o,st,true⟩=none)
def P0(l:List Text):Prop:=(∀q r,BK l=some (q,r)->r.headD []≠wAnd/\r.headD []≠wOr/\∀o st,low 1 st->cq ⟨l,o,st,true⟩=cq ⟨r,o++post q,st,false⟩)/\(BK l=none->∀o st,low 1 st->cq ⟨l,o,st,true⟩=none)
theorem gO(l:List Text)(o:List Step)(st:List Text):cE ⟨l,o,st,false⟩=cV ⟨l,o,st,false⟩:=rfl
theorem qj(l:List Text)(o:List Step)(st:List Text):cE ⟨l,o,st,true⟩=eU ⟨l,o,st,true⟩:=rfl
theorem lj{w:Text}{r:List Text}{o:List Step}{st:List Text}(h:opens.contains w=true):cq ⟨w::r,o,st,true⟩=cq ⟨r,o,w::st,true⟩:=by
 have e:cE ⟨w::r,o,st,true⟩=(⟨r,o,w::st,true⟩,true):=by
  rw[qj,tU,if_pos h]
 rw[d7,e]
 rfl
theorem eI{w:Text}{r:List Text}{o:List Step}{st:List Text}(h:opens.contains w=false):cq ⟨w::r,o,st,true⟩=if bh ((w::r).take (aG w))=true then cq ⟨(w::r).drop ((w::r).take (aG w)).length,o++ [(w::r).take (aG w)],st,false⟩ else none:=by
 have e:cE ⟨w::r,o,st,true⟩=(⟨(w::r).drop ((w::r).take (aG w)).length,o++ [(w::r).take (aG w)],st,false⟩,bh ((w::r).take (aG w))):=by
  rw[qj,tU,if_neg (by rw[h];simp)]
 rw[d7,e]
theorem BQ{b:Nat}{st:List Text}{o:List Step}(h:low b st):closer b st o=(st,o):=by
 cases st with
 |nil=>rfl
 |cons t st=>exact i9 (Nat.not_lt.mpr (h t rfl))
theorem xB{b:Nat}{l:List Text}{st:List Text}{o:List Step}{k:Bool}(h:low b st):aM b ⟨l,o,st,k⟩=⟨l,o,st,k⟩:=by
 unfold aM
 dsimp only
 rw[BQ h]
theorem oT{w:Text}{r:List Text}{o:List Step}{st:List Text}(h:cH.contains w=true)(hb:low (bp w) st):cq ⟨w::r,o,st,false⟩=cq ⟨r,o,w::st,true⟩:=by
 have n41:w≠ [41]:=λz=>by
  rw[z] at h
  revert h
  decide
 have e:cE ⟨w::r,o,st,false⟩=(⟨r,o,w::st,true⟩,true):=by
  rw[gO,dj,if_neg n41,if_neg (by rw[h];simp),xB hb]
 rw[d7,e]
 rfl
theorem FU{r:List Text}{o:List Step}{st:List Text}:cq ⟨[41]::r,o, [40]::st,false⟩=cq ⟨r,o,st,false⟩:=by
 have e:cE ⟨[41]::r,o, [40]::st,false⟩=(⟨r,o,st,false⟩,true):=by
  rw[gO,dj,if_pos rfl]
  unfold bH
  have:aM 0 ⟨r,o, [40]::st,false⟩=⟨r,o, [40]::st,false⟩:=xB λt ht=>by
   cases ht
   decide
  rw[this]
  rfl
 rw[d7,e]
 rfl
theorem Ec{w:Text}{r:List Text}{o:List Step}{st:List Text}(h1:w≠ [41])(h2:w≠wAnd)(h3:w≠wOr):cq ⟨w::r,o,st,false⟩=none:=by
 have j:cH.contains w=false:=by
  cases z:cH.contains w with
  |false=>rfl
  |true=>exact((fz.mp z).elim h2 h3).elim
 have e:(cE ⟨w::r,o,st,false⟩).2=false:=by
  rw[gO,dj,if_neg h1,if_pos j]
 rw[d7,e]
 rfl
theorem zP{w:Text}(h:isField w=true):opens.contains w=false/\ck.contains w=false/\w≠wIn/\aG w=3:=by
 have m:w∈wFields:=by simpa [isField] using h
 simp only[wFields,List.mem_cons,List.not_mem_nil,or_false] at m
 rcases m with rfl|rfl|rfl|rfl|rfl<;>decide
theorem Iy:∀(n:Nat)(l:List Text),l.length<=n->P2 l/\P1 l/\P0 l:=by
 intro n
 induction n with
 |zero=>
  intro l hl
  have e:l= []:=List.length_eq_zero_iff.mp (Nat.le_zero.mp hl)
  subst e
  have r1:Hb []=none:=by rw[Il,D9]
  have r0:BK []=none:=by rw[Ik,r1]
  have f:∀o st,cq ⟨[],o,st,true⟩=none:=λo st=>by rw[oQ];rfl
  exact⟨⟨λq r h=>(by rw[D9] at h;cases h),λ_ o st=>f o st⟩,⟨λq r h=>(by rw[r1] at h;cases h),λ_ o st _=>f o st⟩,⟨λq r h=>(by rw[r0] at h;cases h),λ_ o st _=>f o st⟩⟩
 |succ n ih=>
  intro l hl
  have p2:P2 l:=by
   cases l with
   |nil=>exact((ih [] (Nat.zero_le _)).1)
   |cons w r=>
    have hr:r.length<=n:=by simpa using hl
    have i2:=(ih r hr).1
    have i0:=(ih r hr).2.2
    have one:∀{a:Ask},opens.contains w=false->aG w=1->ck.contains w=true->post a= [[w]]->∀o st,cq ⟨w::r,o,st,true⟩=cq ⟨r,o++post a,st,false⟩:=λ{a} h1 h2 h3 h4 o st=>by
     rw[eI h1,h2]
     show(if bh [w]=true then _ else _)=_
     rw[if_pos (show bh [w]=true from h3),h4]
     rfl
    unfold P2
    rw[Im]
    by_cases h1:w=wAll
    ·rw[if_pos h1]
     refine⟨λq s h=> ?_,λh=>nomatch h⟩
     cases h
     subst h1
     exact one (by decide) (by decide) (by decide) rfl
    ·rw[if_neg h1]
     by_cases h2:w=wLent
     ·rw[if_pos h2]
      refine⟨λq s h=> ?_,λh=>nomatch h⟩
      cases h
      subst h2
      exact one (by decide) (by decide) (by decide) rfl
     ·rw[if_neg h2]
      by_cases h3:w=wShown
      ·rw[if_pos h3]
       refine⟨λq s h=> ?_,λh=>nomatch h⟩
       cases h
       subst h3
       exact one (by decide) (by decide) (by decide) rfl
      ·rw[if_neg h3]
       by_cases h4:w=wNot
       ·rw[if_pos h4]
        subst h4
        cases e:KS r with
        |none=>exact⟨λq s h=>(by cases h),λ_ o st=>by rw[lj (by decide)];exact i2.2 e o _⟩
        |some y=>
         obtain⟨q',s'⟩:=y
         refine⟨λq s h=> ?_,λh=>by cases h⟩
         cases h
         intro o st
         rw[lj (by decide),i2.1 q' s' e o _,xA (by decide) (λ_=>by decide) (λ_=>by decide),List.append_assoc]
         rfl
       ·rw[if_neg h4]
        by_cases h5:w= [40]
        ·rw[if_pos h5]
         subst h5
         have lw:∀st:List Text,low 1 ([40]::st):=λst t ht=>by
          cases ht
          decide
         cases e:BK r with
         |none=>exact⟨λq s h=>(by cases h),λ_ o st=>by rw[lj (by decide)];exact i0.2 e o _ (lw st)⟩
         |some y=>
          obtain⟨q',s'⟩:=y
          obtain⟨na,no,go⟩:=i0.1 q' s' e
          dsimp only
          by_cases hc:s'.headD []= [41]
          ·rw[if_pos hc]
           refine⟨λq s h=> ?_,λh=>by cases h⟩
           cases h
           intro o st
           rw[lj (by decide),go o _ (lw st)]
           cases s' with
           |nil=>cases hc
           |cons a s'=>
            have hc:a= [41]:=hc
            subst hc
            exact FU
          ·rw[if_neg hc]
           refine⟨λq s h=>(by cases h),λ_ o st=> ?_⟩
           rw[lj (by decide),go o _ (lw st)]
           cases s' with
           |nil=>
            rw[oQ]
            unfold xx
            rw[xB λt ht=>by
             cases ht
             decide]
            exact if_pos (.inr (by simp))
           |cons a s'=>exact Ec hc na no
        ·rw[if_neg h5]
         have no:opens.contains w=false:=by
          cases z:opens.contains w with
          |false=>rfl
          |true=>
           have:w=wNot\/w= [40]:=by simpa [opens] using z
           exact(this.elim h4 h5).elim
         have n1:ck.contains w=false:=by
          cases z:ck.contains w with
          |false=>rfl
          |true=>
           have:w=wAll\/w=wLent\/w=wShown:=by simpa [ck] using z
           rcases this with y|y|y
           ·exact absurd y h1
           ·exact absurd y h2
           ·exact absurd y h3
         by_cases h6:w=wIn
         ·rw[if_pos h6]
          subst h6
          have cl:aG wIn=2:=by decide
          cases r with
          |nil=>
           refine⟨λq s h=>(by cases h),λ_ o st=> ?_⟩
           rw[eI no,cl]
           rfl
          |cons a r=>
           show(∀q s,(match number a with|none=>none|some n=>some (Ask.inside n,r))=some (q,s)->_)/\((match number a with|none=>none|some n=>some (Ask.inside n,r))=none->_)
           rw[qi]
           by_cases hn:isNum a=true
           ·rw[if_pos hn]
            refine⟨λq s h=> ?_,λh=>by cases h⟩
            cases h
            intro o st
            rw[eI no,cl]
            show(if bh [wIn,a]=true then _ else _)=_
            rw[if_pos (show bh [wIn,a]=true by show(wIn==wIn&&isNum a)=true;rw[hn];rfl)]
            show cq ⟨r,o++ [[wIn,a]],st,false⟩=cq ⟨r,o++ [[wIn,dec 8 (fA a)]],st,false⟩
            rw[Eb hn]
           ·rw[if_neg hn]
            refine⟨λq s h=>(by cases h),λ_ o st=> ?_⟩
            rw[eI no,cl]
            show(if bh [wIn,a]=true then _ else _)=_
            rw[if_neg (show ¬bh [wIn,a]=true by show ¬(wIn==wIn&&isNum a)=true;simpa using hn)]
         ·rw[if_neg h6]
          have fs:=BP (w:=w)
          cases hk:wFields.idxOf? w with
          |none=>
           rw[hk] at fs
           have nf:isField w=false:=fs.symm
           have cl:aG w=0:=by
            unfold aG
            rw[if_neg (by rw[n1];simp),if_neg h6,if_neg (by rw[nf];simp)]
           refine⟨λq s h=>(by cases h),λ_ o st=> ?_⟩
           rw[eI no,cl]
           rfl
          |some k=>
           rw[hk] at fs
           have yf:isField w=true:=fs.symm
           obtain⟨_,_,_,cl⟩:=zP yf
           have gk:=FQ hk
           match r with
           | []=>
             refine⟨λq s h=>(by cases h),λ_ o st=> ?_⟩
             rw[eI no,cl]
             show(if ck.contains w=true then _ else _)=_
             rw[if_neg (by rw[n1];simp)]
           | [a]=>
             refine⟨λq s h=>(by cases h),λ_ o st=> ?_⟩
             rw[eI no,cl]
             show(if (w==wIn&&isNum a)=true then _ else _)=_
             rw[if_neg (by
              have:(w==wIn)=false:=by simpa using h6
              rw[this]
              simp)]
           |a::b::r=>
            have rc:∀o st,cq ⟨w::a::b::r,o,st,true⟩=if (df.contains a&&isNum b)=true then cq ⟨r,o++ [[w,a,b]],st,false⟩ else none:=λo st=>by
             rw[eI no,cl]
             show(if (isField w&&(df.contains a&&isNum b))=true then _ else _)=_
             rw[yf,Bool.true_and]
             rfl
            show(∀q s,(match some k,number b with|some k,some n=>if a= [60] then some (Ask.less k n,r) else if a= [61] then some (Ask.same k n,r) else if a= [62] then some (Ask.more k n,r) else none|_,_=>none)=some (q,s)->_)/\((match some k,number b with|some k,some n=>if a= [60] then some (Ask.less k n,r) else if a= [61] then some (Ask.same k n,r) else if a= [62] then some (Ask.more k n,r) else none|_,_=>none)=none->_)
            rw[qi]
            by_cases hn:isNum b=true
            ·rw[if_pos hn]
             have nd:=Eb hn
             dsimp only
             by_cases a1:a= [60]
             ·rw[if_pos a1]
              subst a1
              refine⟨λq s h=> ?_,λh=>by cases h⟩
              cases h
              intro o st
              rw[rc,if_pos (by rw[hn];rfl)]
              show _=cq ⟨r,o++ [[wFields.getD k [], [60],dec 8 (fA b)]],st,false⟩
              rw[gk,nd]
             ·rw[if_neg a1]
              by_cases a2:a= [61]
              ·rw[if_pos a2]
               subst a2
               refine⟨λq s h=> ?_,λh=>by cases h⟩
               cases h
               intro o st
               rw[rc,if_pos (by rw[hn];rfl)]
               show _=cq ⟨r,o++ [[wFields.getD k [], [61],dec 8 (fA b)]],st,false⟩
               rw[gk,nd]
              ·rw[if_neg a2]
               by_cases a3:a= [62]
               ·rw[if_pos a3]
                subst a3
                refine⟨λq s h=> ?_,λh=>by cases h⟩
                cases h
                intro o st
                rw[rc,if_pos (by rw[hn];rfl)]
                show _=cq ⟨r,o++ [[wFields.getD k [], [62],dec 8 (fA b)]],st,false⟩
                rw[gk,nd]
               ·rw[if_neg a3]
                refine⟨λq s h=>(by cases h),λ_ o st=> ?_⟩
                rw[rc,if_neg]
                have:df.contains a=false:=by
                 cases z:df.contains a with
                 |false=>rfl
                 |true=>
                  have:a= [60]\/a= [61]\/a= [62]:=by simpa [df] using z
                  rcases this with y|y|y
                  ·exact absurd y a1
                  ·exact absurd y a2
                  ·exact absurd y a3
                rw[this]
                simp
            ·rw[if_neg hn]
             refine⟨λq s h=>(by cases h),λ_ o st=> ?_⟩
             rw[rc,if_neg]
             have:isNum b=false:=by simpa using hn
             rw[this]
             simp
  have p1:P1 l:=by
   unfold P1
   rw[Il]
   cases e:KS l with
   |none=>exact⟨λq s h=>(by cases h),λ_ o st _=>p2.2 e o st⟩
   |some y=>
    obtain⟨p,r⟩:=y
    have lr:=Ij e
    have go:=p2.1 p r e
    dsimp only
    by_cases hw:r.headD []=wAnd
    ·rw[if_pos hw]
     cases r with
     |nil=>cases hw
     |cons a r=>
      have hw:a=wAnd:=hw
      subst hw
      have lr:r.length<=n:=by
       have:(wAnd::r).length=r.length+1:=rfl
       omega
      have i1:=(ih r lr).2.1
      have la:∀st:List Text,low 2 (wAnd::st):=λst t ht=>by
       cases ht
       decide
      show(∀q s,(match Hb r with|none=>none|some (q,s)=>some (Ask.and_ p q,s))=some (q,s)->_)/\((match Hb r with|none=>none|some (q,s)=>some (Ask.and_ p q,s))=none->_)
      cases e1:Hb r with
      |none=>exact⟨λq s h=>(by cases h),λ_ o st hl=>by rw[go,oT (w:=wAnd) (by decide) hl];exact i1.2 e1 _ _ (la st)⟩
      |some y=>
       obtain⟨q',s'⟩:=y
       obtain⟨na,g1⟩:=i1.1 q' s' e1
       refine⟨λq s h=> ?_,λh=>by cases h⟩
       cases h
       refine⟨na,λo st hl=> ?_⟩
       rw[go,oT (w:=wAnd) (by decide) hl,g1 _ _ (la st),xA (by decide) (λ_=>by decide) (λz=>absurd z na)]
       show cq ⟨s',o++post p++post q'++ [[wAnd]],st,false⟩=cq ⟨s',o++(post p++(post q'++ [[wAnd]])),st,false⟩
       rw[List.append_assoc,List.append_assoc]
    ·rw[if_neg hw]
     refine⟨λq s h=> ?_,λh=>by cases h⟩
     cases h
     exact⟨hw,λo st _=>go o st⟩
  have p0:P0 l:=by
   unfold P0
   rw[Ik]
   have Vn:∀st:List Text,low 1 st->low 2 st:=λst h t ht=>Nat.le_trans (h t ht) (by decide)
   cases e:Hb l with
   |none=>exact⟨λq s h=>(by cases h),λ_ o st hl=>p1.2 e o st (Vn st hl)⟩
   |some y=>
    obtain⟨p,r⟩:=y
    have lr:=Ii e
    obtain⟨na,go⟩:=p1.1 p r e
    dsimp only
    by_cases hw:r.headD []=wOr
    ·rw[if_pos hw]
     cases r with
     |nil=>cases hw
     |cons a r=>
      have hw:a=wOr:=hw
      subst hw
      have lr:r.length<=n:=by
       have:(wOr::r).length=r.length+1:=rfl
       omega
      have i0:=(ih r lr).2.2
      have la:∀st:List Text,low 1 (wOr::st):=λst t ht=>by
       cases ht
       decide
      show(∀q s,(match BK r with|none=>none|some (q,s)=>some (Ask.or_ p q,s))=some (q,s)->_)/\((match BK r with|none=>none|some (q,s)=>some (Ask.or_ p q,s))=none->_)
      cases e1:BK r with
      |none=>exact⟨λq s h=>(by cases h),λ_ o st hl=>by rw[go o st (Vn st hl),oT (w:=wOr) (by decide) hl];exact i0.2 e1 _ _ (la st)⟩
      |some y=>
       obtain⟨q',s'⟩:=y
       obtain⟨Vo,Y3,g0⟩:=i0.1 q' s' e1
       refine⟨λq s h=> ?_,λh=>by cases h⟩
       cases h
       refine⟨Vo,Y3,λo st hl=> ?_⟩
       rw[go o st (Vn st hl),oT (w:=wOr) (by decide) hl,g0 _ _ (la st),xA (by decide) (λz=>absurd z Y3) (λz=>absurd z Vo)]
       show cq ⟨s',o++post p++post q'++ [[wOr]],st,false⟩=cq ⟨s',o++(post p++(post q'++ [[wOr]])),st,false⟩
       rw[List.append_assoc,List.append_assoc]
    ·rw[if_neg hw]
     refine⟨λq s h=> ?_,λh=>by cases h⟩
     cases h
     exact⟨na,hw,λo st hl=>go o st (Vn st hl)⟩
  exact⟨p2,p1,p0⟩
theorem Iz(l:List Text):cq ⟨l, [], [],true⟩=match BK l with
  |some (q, [])=>some (post q)
  |_=>none:=by
 obtain⟨_,_,h1,h2⟩:=Iy l.length l (Nat.le_refl _)
 have lw:low 1 []:=λt ht=>by cases ht
 cases e:BK l with
 |none=>exact h2 e [] [] lw
 |some y=>
  obtain⟨q,r⟩:=y
  obtain⟨na,no,go⟩:=h1 q r e
  rw[go [] [] lw]
  cases r with
  |nil=>
   rw[oQ]
   rfl
  |cons a r=>
   by_cases hc:a= [41]
   ·subst hc
    have:(cE ⟨[41]::r, []++post q, [],false⟩).2=false:=by
     rw[gO,dj,if_pos rfl]
     rfl
    rw[d7,this]
    rfl
   ·exact Ec hc na no
def isSign(b:Nat):Bool:= [40,41,60,61,62].contains b
def aN(b:Nat):Bool:=(isLetter b||isDigit b)||(isSign b||b==32)
def aP:List Nat->Nat
 | []=>0
 |b::l=>if isLetter b=true then 1+(l.takeWhile isLetter).length else if isDigit b=true then 1+(l.takeWhile isDigit).length else 1
theorem dQ(b:Nat)(l:List Nat):aP (b::l)=if isLetter b=true then 1+(l.takeWhile isLetter).length else if isDigit b=true then 1+(l.takeWhile isDigit).length else 1:=rfl
theorem ig(b:Nat)(l:List Nat):1<=aP (b::l):=by
 rw[dQ]
 split
 ·omega
 ·split<;>omega
theorem BR:∀l:List Nat,aP l<=l.length
 | []=>Nat.le_refl _
 |b::l=>by
  rw[dQ]
  have h1:=(List.takeWhile_sublist (l:=l) isLetter).length_le
  have h2:=(List.takeWhile_sublist (l:=l) isDigit).length_le
  rw[List.length_cons]
  split
  ·omega
  ·split<;>omega
def toks(l:List Nat):List Text:=
 if h:l= [] then [] else if l.headD 0=32 then toks (l.drop (aP l)) else l.take (aP l)::toks (l.drop (aP l))
termination_by l.length
decreasing_by
 all_goals
  have:0<l.length:=List.length_pos_iff.mpr h
  have p1:1<=aP l:=by
   cases l with
   |nil=>exact absurd rfl h
   |cons b l=>exact ig b l
  rw[List.length_drop]
  omega
theorem oU:toks []= []:=by rw[toks];rfl
theorem ja(b:Nat)(l:List Nat):toks (b::l)=if b=32 then toks ((b::l).drop (aP (b::l))) else(b::l).take (aP (b::l))::toks ((b::l).drop (aP (b::l))):=by
 rw[toks]
 rw[dif_neg (by simp)]
 rfl
theorem IA{b:Nat}(h:isLetter b=true):isDigit b=false:=by
 unfold isLetter at h
 unfold isDigit
 simp at h ⊢
 omega
theorem IB{b:Nat}(h:isDigit b=true):isLetter b=false:=by
 unfold isDigit at h
 unfold isLetter
 simp at h ⊢
 omega
def BU(p:Nat->Bool):Prop:=p=isLetter\/p=isDigit
theorem wj{p:Nat->Bool}(hp:BU p):∀(l cur:List Nat),cur≠ []->p (cur.headD 0)=true->parts l cur=match parts (l.dropWhile p) [] with
  |none=>none
  |some r=>some ((cur.reverse++l.takeWhile p)::r)
 | [],cur,h1,h2=>by
   show some (if cur.length=0 then [] else [cur.reverse])=some ((cur.reverse++ []):: [])
   rw[if_neg (by simpa using h1),List.append_nil]
 |b::l,cur,h1,h2=>by
  have hc0:(cur.length==0)=false:=by simpa using h1
  by_cases hb:p b=true
  ·have st:parts (b::l) cur=parts l (b::cur):=by
    show(if _\/_ then _ else _)=_
    rw[if_pos]
    rcases hp with rfl|rfl
    ·left
     rw[hb,h2]
     simp
    ·right
     rw[hb,h2]
     simp
   rw[st,wj hp l (b::cur) (by simp) hb,List.dropWhile_cons_of_pos hb,List.takeWhile_cons_of_pos hb]
   rw[List.reverse_cons,List.append_assoc]
   rfl
  ·have hb:p b=false:=by simpa using hb
   rw[List.dropWhile_cons_of_neg (by rw[hb];simp),List.takeWhile_cons_of_neg (by rw[hb];simp),List.append_nil]
   have hL:isLetter b=true->isLetter (cur.headD 0)=false:=λz=>by
    rcases hp with rfl|rfl
    ·rw[z] at hb;cases hb
    ·exact IB h2
   have hD:isDigit b=true->isDigit (cur.headD 0)=false:=λz=>by
    rcases hp with rfl|rfl
    ·exact IA h2
    ·rw[z] at hb;cases hb
   have c1:¬((isLetter b&&(cur.length==0||isLetter (cur.headD 0)))=true\/(isDigit b&&(cur.length==0||isDigit (cur.headD 0)))=true):=by
    rw[hc0,Bool.false_or,Bool.false_or]
    intro z
    rcases z with z|z
    ·rw[Bool.and_eq_true] at z
     rw[hL z.1] at z
     cases z.2
    ·rw[Bool.and_eq_true] at z
     rw[hD z.1] at z
     cases z.2
   have dn:(if cur.length=0 then([]:List Text) else [cur.reverse])= [cur.reverse]:=if_neg (by simpa using h1)
   have e1:parts (b::l) cur=if b=32 then(match parts l [] with|none=>none|some r=>some ([cur.reverse]++r)) else if b=40\/b=41\/b=60\/b=61\/b=62 then(match parts l [] with|none=>none|some r=>some ([cur.reverse]++([b]::r))) else if isLetter b=true\/isDigit b=true then(match parts l [b] with|none=>none|some r=>some ([cur.reverse]++r)) else none:=by
    rw[<-dn]
    show(if _\/_ then _ else _)=_
    rw[if_neg c1]
    rfl
   rw[e1]
   by_cases Qb:isLetter b=true\/isDigit b=true
   ·have xC:b≠32:=λz=>by subst z;rcases Qb with y|y<;>cases y
    have ns:¬(b=40\/b=41\/b=60\/b=61\/b=62):=λz=>by rcases z with z|z|z|z|z<;>subst z<;>rcases Qb with y|y<;>cases y
    have e2:parts (b::l) []=parts l [b]:=by
     show(if _\/_ then _ else _)=_
     rw[if_pos]
     rcases Qb with y|y
     ·left
      rw[y]
      rfl
     ·right
      rw[y]
      rfl
    rw[if_neg xC,if_neg ns,if_pos Qb,e2]
    rfl
   ·have e2:parts (b::l) []=if b=32 then(match parts l [] with|none=>none|some r=>some ([]++r)) else if b=40\/b=41\/b=60\/b=61\/b=62 then(match parts l [] with|none=>none|some r=>some ([]++([b]::r))) else if isLetter b=true\/isDigit b=true then(match parts l [b] with|none=>none|some r=>some ([]++r)) else none:=by
     show(if _\/_ then _ else _)=_
     rw[if_neg (λz=>Qb (z.imp (λy=>(Bool.and_eq_true _ _▸y).1) (λy=>(Bool.and_eq_true _ _▸y).1)))]
     rfl
    rw[e2]
    by_cases xC:b=32
    ·rw[if_pos xC,if_pos xC]
     cases parts l []<;>rfl
    ·rw[if_neg xC,if_neg xC]
     by_cases ns:b=40\/b=41\/b=60\/b=61\/b=62
     ·rw[if_pos ns,if_pos ns]
      cases parts l []<;>rfl
     ·rw[if_neg ns,if_neg ns,if_neg Qb,if_neg Qb]
theorem zQ{b:Nat}:isSign b=true↔b=40\/b=41\/b=60\/b=61\/b=62:=by simp[isSign]
theorem L0{α:Type}(p:α->Bool)(l:List α):l.drop (l.takeWhile p).length=l.dropWhile p:=by
 have h:=List.takeWhile_append_dropWhile (p:=p) (l:=l)
 conv=>lhs;rw[<-h]
 rw[List.drop_left']
 rw[h]
theorem L1{α:Type}(p:α->Bool)(l:List α):l.take (l.takeWhile p).length=l.takeWhile p:=by
 have h:=List.takeWhile_append_dropWhile (p:=p) (l:=l)
 conv=>lhs;rw[<-h]
 rw[List.take_left']
 rw[h]
theorem IC{p:Nat->Bool}(hp:BU p)(l:List Nat):(l.dropWhile p).all aN=l.all aN:=by
 have h:=List.takeWhile_append_dropWhile (p:=p) (l:=l)
 conv=>rhs;rw[<-h,List.all_append]
 have:(l.takeWhile p).all aN=true:=by
  rw[List.all_eq_true]
  intro x hx
  have:=List.all_eq_true.mp (List.all_takeWhile (p:=p) (l:=l)) x hx
  unfold aN
  rcases hp with rfl|rfl<;>rw[this]<;>simp
 rw[this,Bool.true_and]
theorem BV:∀(n:Nat)(l:List Nat),l.length<=n->parts l []=if l.all aN=true then some (toks l) else none:=by
 intro n
 induction n with
 |zero=>
  intro l hl
  have e:l= []:=List.length_eq_zero_iff.mp (Nat.le_zero.mp hl)
  subst e
  rw[oU]
  rfl
 |succ n ih=>
  intro l hl
  cases l with
  |nil=>exact ih [] (Nat.zero_le _)
  |cons b l=>
   have hl:l.length<=n:=by simpa using hl
   have go:∀{p:Nat->Bool},BU p->p b=true->b≠32->parts (b::l) []=parts l [b]->aP (b::l)=1+(l.takeWhile p).length->aN b=true->parts (b::l) []=if (b::l).all aN=true then some (toks (b::l)) else none:=λ{p} hp hb xC e pl kb=>by
    have hd:(l.dropWhile p).length<=n:=Nat.le_trans (List.dropWhile_sublist (l:=l) p).length_le hl
    rw[e,wj hp l [b] (by simp) hb,ih _ hd,IC hp,List.all_cons,kb,Bool.true_and,ja,if_neg xC,pl,Nat.add_comm 1,List.drop_succ_cons,List.take_succ_cons,L0,L1]
    cases l.all aN<;>rfl
   by_cases hL:isLetter b=true
   ·have xC:b≠32:=λz=>by subst z;cases hL
    refine go (.inl rfl) hL xC ?_ ?_ ?_
    ·show(if _\/_ then _ else _)=_
     rw[if_pos (.inl (by rw[hL];rfl))]
    ·rw[dQ,if_pos hL]
    ·unfold aN
     rw[hL]
     rfl
   ·by_cases hD:isDigit b=true
    ·have xC:b≠32:=λz=>by subst z;cases hD
     refine go (.inr rfl) hD xC ?_ ?_ ?_
     ·show(if _\/_ then _ else _)=_
      rw[if_pos (.inr (by rw[hD];rfl))]
     ·rw[dQ,if_neg hL,if_pos hD]
     ·unfold aN
      rw[hD]
      simp
    ·have pl:aP (b::l)=1:=by
      rw[dQ,if_neg hL,if_neg hD]
     have e2:parts (b::l) []=if b=32 then(match parts l [] with|none=>none|some r=>some ([]++r)) else if b=40\/b=41\/b=60\/b=61\/b=62 then(match parts l [] with|none=>none|some r=>some ([]++([b]::r))) else if isLetter b=true\/isDigit b=true then(match parts l [b] with|none=>none|some r=>some ([]++r)) else none:=by
      show(if _\/_ then _ else _)=_
      rw[if_neg (λz=>z.elim (λy=>hL (Bool.and_eq_true _ _▸y).1) (λy=>hD (Bool.and_eq_true _ _▸y).1))]
      rfl
     have hL':isLetter b=false:=by simpa using hL
     have hD':isDigit b=false:=by simpa using hD
     have kb:aN b=(isSign b||b==32):=by
      unfold aN
      rw[hL',hD']
      rfl
     rw[e2,ja,pl,List.all_cons,kb,ih l hl]
     by_cases xC:b=32
     ·rw[if_pos xC,if_pos xC]
      subst xC
      show _=if l.all aN=true then some (toks l) else none
      cases l.all aN<;>rfl
     ·rw[if_neg xC,if_neg xC]
      have b32:(b==32)=false:=by simpa using xC
      rw[b32,Bool.or_false]
      by_cases ns:b=40\/b=41\/b=60\/b=61\/b=62
      ·rw[if_pos ns,zQ.mpr ns,Bool.true_and]
       show _=if l.all aN=true then some ([b]::toks l) else none
       cases l.all aN<;>rfl
      ·rw[if_neg ns,if_neg (λz=>z.elim hL hD),if_neg]
       have:isSign b=false:=by
        cases z:isSign b with
        |false=>rfl
        |true=>exact absurd (zQ.mp z) ns
       rw[this]
       simp
theorem IE(t:List Nat)(ht:t.length<=120):(∃q,readAsk t=some q/\t.all aN=true/\cq ⟨toks t, [], [],true⟩=some (post q)/\∃f l r,ask f 0 l=some (q,r))\/(readAsk t=none/\(t.all aN=false\/cq ⟨toks t, [], [],true⟩=none)):=by
 have e:=BV t.length t (Nat.le_refl _)
 by_cases k:t.all aN=true
 ·rw[if_pos k] at e
  have pl:=i6 t [] _ e
  rw[if_pos (show([]:Text).length=0 from rfl)] at pl
  rw[BO e (by omega),Iz]
  cases h:BK (toks t) with
  |none=>exact .inr ⟨rfl,.inr rfl⟩
  |some y=>
   obtain⟨q,r⟩:=y
   cases r with
   |nil=>exact .inl ⟨q,rfl,k,rfl,_,_,_,h⟩
   |cons a r=>exact .inr ⟨rfl,.inr rfl⟩
 ·have k:t.all aN=false:=by simpa using k
  refine .inr ⟨?_,.inl k⟩
  rw[if_neg (by rw[k];simp)] at e
  unfold readAsk
  rw[e]
theorem fold_at{α β:Type}{f:β->α->Option β}{l:List α}{a b:β}(h:l.foldlM f a=some b):∀k,k<=l.length->∃c,(l.take k).foldlM f a=some c
 | 0,_=>⟨a,rfl⟩
 |k+1,hk=>by
  have e:l.foldlM f a=(l.take (k+1)).foldlM f a >>= λc=>(l.drop (k+1)).foldlM f c:=by
   conv=>lhs;rw[<-List.take_append_drop (k+1) l]
   rw[List.foldlM_append]
  cases q:(l.take (k+1)).foldlM f a with
  |none=>rw[e,q] at h;cases h
  |some c=>exact⟨c,rfl⟩
theorem wk{α β:Type}{f:β->α->Option β}{l:List α}{a b c:β}{k:Nat}{x:α}(h:l.foldlM f a=some b)(hx:l[k]? =some x)(hc:(l.take k).foldlM f a=some c):∃d,f c x=some d/\(l.take (k+1)).foldlM f a=some d:=by
 obtain⟨d,hd⟩:=fold_at h (k+1) (List.getElem?_eq_some_iff.mp hx).1
 have e:l.take (k+1)=l.take k++ [x]:=by
  rw[List.take_add_one,hx]
  rfl
 rw[e,List.foldlM_append,hc] at hd
 have hd:(some c >>= λc=> [x].foldlM f c)=some d:=hd
 cases q:f c x with
 |none=>
  have: [x].foldlM f c=none:=by
   show(f c x >>= λy=> [].foldlM f y)=none
   rw[q]
   rfl
  have hd: [x].foldlM f c=some d:=hd
  rw[this] at hd
  cases hd
 |some y=>
  refine⟨y,rfl,?_⟩
  rw[e,List.foldlM_append,hc]
  show [x].foldlM f c=some y
  show(f c x >>= λy=> [].foldlM f y)=some y
  rw[q]
  rfl
def Ed(h:House)(t:Nat):Step->Bool
 | [w]=>if w=wAll then true else if w=wLent then(h.thing t).back.isSome else(h.place (h.here t)).kind==1
 | [_,n]=>h.inside (h.here t) (fA n)
 | [w,s,n]=>if s= [60] then decide (field h t ((wFields.idxOf? w).getD 0)<fA n) else if s= [61] then field h t ((wFields.idxOf? w).getD 0)==fA n else decide (fA n<field h t ((wFields.idxOf? w).getD 0))
 |_=>false
def cF(h:House)(t:Nat)(st:List Bool)(s:Step):Option (List Bool):=
 if s= [wNot] then(match st with|a::r=>some ((!a)::r)|_=>none)
 else if s= [wAnd] then(match st with|b::a::r=>some ((a&&b)::r)|_=>none)
 else if s= [wOr] then(match st with|b::a::r=>some ((a||b)::r)|_=>none)
 else if bh s=true then some (Ed h t s::st) else none
def gp:Ask->Bool
 | .inside n=>decide (n<10000000)
 | .less k n=>decide (k<5)&&decide (n<10000000)
 | .same k n=>decide (k<5)&&decide (n<10000000)
 | .more k n=>decide (k<5)&&decide (n<10000000)
 | .no q=>gp q
 | .and_ p q=>gp p&&gp q
 | .or_ p q=>gp p&&gp q
 |_=>true
theorem Qc:∀(w:Text),w.all isDigit=true->fA w<10 ^ w.length:=by
 intro w
 induction hn:w.length generalizing w with
 |zero=>
  intro _
  rw[List.length_eq_zero_iff.mp hn]
  decide
 |succ n ih=>
  intro h
  have h1:w≠ []:=λz=>by rw[z] at hn;cases hn
  have e:=List.dropLast_concat_getLast h1
  rw[<-e] at h ⊢
  rw[List.all_append,Bool.and_eq_true] at h
  have:=ih w.dropLast (by rw[List.length_dropLast];omega) h.1
  have d:=h.2
  simp[isDigit] at d
  rw[oR,Nat.pow_succ]
  omega
theorem wm{w:Text}{n:Nat}(h:number w=some n):n<10000000:=by
 rw[qi] at h
 by_cases q:isNum w=true
 ·rw[if_pos q] at h
  cases h
  obtain⟨_,h2,h3,_⟩:=fD q
  exact Nat.lt_of_lt_of_le (Qc w h2) (Nat.le_trans (Nat.pow_le_pow_right (by decide) h3) (by decide))
 ·rw[if_neg q] at h
  cases h
theorem Qe{w:Text}{k:Nat}(h:wFields.idxOf? w=some k):k<5:=by
 have:=List.of_findIdx?_eq_some h
 cases e:wFields[k]? with
 |none=>rw[e] at this;cases this
 |some x=>exact(List.getElem?_eq_some_iff.mp e).1
theorem nO:∀(f lh:Nat)(l:List Text)(q:Ask)(r:List Text),ask f lh l=some (q,r)->gp q=true
 | 0,_,_,_,_,h=>by cases h
 |f+1,lh,l,q,r,h=>by
  unfold ask at h
  by_cases h0:lh=0
  ·rw[if_pos h0] at h
   cases e1:ask f 1 l with
   |none=>rw[e1] at h;cases h
   |some y=>
    obtain⟨p,r1⟩:=y
    rw[e1] at h
    have l1:=nO f 1 l p r1 e1
    dsimp only at h
    by_cases hw:r1.headD []=wOr
    ·rw[if_pos hw] at h
     cases e2:ask f 0 (r1.drop 1) with
     |none=>rw[e2] at h;cases h
     |some y=>
      obtain⟨q2,s⟩:=y
      rw[e2] at h
      have i2:=nO f 0 _ q2 s e2
      cases h
      show(gp p&&gp q2)=true
      rw[l1,i2]
      rfl
    ·rw[if_neg hw] at h
     cases h
     exact l1
  ·rw[if_neg h0] at h
   by_cases h1:lh=1
   ·rw[if_pos h1] at h
    cases e1:ask f 2 l with
    |none=>rw[e1] at h;cases h
    |some y=>
     obtain⟨p,r1⟩:=y
     rw[e1] at h
     have l1:=nO f 2 l p r1 e1
     dsimp only at h
     by_cases hw:r1.headD []=wAnd
     ·rw[if_pos hw] at h
      cases e2:ask f 1 (r1.drop 1) with
      |none=>rw[e2] at h;cases h
      |some y=>
       obtain⟨q2,s⟩:=y
       rw[e2] at h
       have i2:=nO f 1 _ q2 s e2
       cases h
       show(gp p&&gp q2)=true
       rw[l1,i2]
       rfl
     ·rw[if_neg hw] at h
      cases h
      exact l1
   ·rw[if_neg h1] at h
    cases l with
    |nil=>cases h
    |cons w t=>
     dsimp only at h
     split at h
     ·cases h;rfl
     ·split at h
      ·cases h;rfl
      ·split at h
       ·cases h;rfl
       ·split at h
        ·cases e2:ask f 2 t with
         |none=>rw[e2] at h;cases h
         |some y=>
          obtain⟨q2,s⟩:=y
          rw[e2] at h
          have i2:=nO f 2 _ q2 s e2
          cases h
          exact i2
        ·split at h
         ·cases e2:ask f 0 t with
          |none=>rw[e2] at h;cases h
          |some y=>
           obtain⟨q2,s⟩:=y
           rw[e2] at h
           dsimp only at h
           split at h
           ·have i2:=nO f 0 _ q2 s e2
            cases h
            exact i2
           ·cases h
         ·split at h
          ·split at h
           ·cases h
           ·next n hn=>
            cases h
            exact decide_eq_true (wm hn)
          ·split at h
           ·next k n hk hn=>
            have o:(decide (k<5)&&decide (n<10000000))=true:=by rw[decide_eq_true (Qe hk),decide_eq_true (wm hn)];rfl
            split at h
            ·cases h;exact o
            ·split at h
             ·cases h;exact o
             ·split at h
              ·cases h;exact o
              ·cases h
           ·cases h
theorem IG:∀(f n:Nat),0<f->dec f n≠ []
 |f+1,n,_=>by
  unfold dec
  split
  ·simp
  ·simp
theorem oV:∀(f n:Nat),n<10 ^ f->fA (dec f n)=n
 | 0,n,h=>by
   have:n=0:=by simpa using h
   subst this
   rfl
 |f+1,n,h=>by
  unfold dec
  by_cases q:n<10
  ·rw[if_pos q]
   show 10 * 0+(48+n - 48)=n
   omega
  ·rw[if_neg q,oR,oV f (n / 10) (by rw[Nat.pow_succ] at h;omega)]
   omega
theorem Ee:∀(f n:Nat),(dec f n).all isDigit=true
 | 0,_=>rfl
 |f+1,n=>by
  unfold dec
  by_cases q:n<10
  ·rw[if_pos q]
   simp[isDigit]
   omega
  ·rw[if_neg q,List.all_append,Ee f (n / 10)]
   simp[isDigit]
   omega
theorem Ef:∀(f n k:Nat),n<10 ^ k->1<=k->(dec f n).length<=k
 | 0,_,_,_,h=>Nat.zero_le _
 |f+1,n,k,h,h1=>by
  unfold dec
  by_cases q:n<10
  ·rw[if_pos q]
   exact h1
  ·rw[if_neg q,List.length_append]
   have k2:2<=k:=by
    by_cases z:k=1
    ·subst z
     simp at h
     omega
    ·omega
   have:=Ef f (n / 10) (k - 1) (by
    have e:k=(k - 1)+1:=by omega
    rw[e,Nat.pow_succ] at h
    omega) (by omega)
   show(dec f (n / 10)).length+1<=k
   omega
theorem zR:∀(f n:Nat),0<f->1<=n->n<10 ^ f->(dec f n).headD 0≠48
 |f+1,n,_,h,hn=>by
  unfold dec
  by_cases q:n<10
  ·rw[if_pos q]
   show 48+n≠48
   omega
  ·rw[if_neg q]
   have f0:0<f:=by
    by_cases z:f=0
    ·subst z
     simp at hn
     omega
    ·omega
   have:=zR f (n / 10) f0 (by omega) (by rw[Nat.pow_succ] at hn;omega)
   cases e:dec f (n / 10) with
   |nil=>exact absurd e (IG f _ f0)
   |cons a l=>
    rw[e] at this
    exact this
theorem ik{n:Nat}(h:n<10000000):isNum (dec 8 n)=true:=by
 unfold isNum
 have l1:1<=(dec 8 n).length:=List.length_pos_iff.mpr (IG 8 n (by decide))
 have l2:(dec 8 n).length<=7:=Ef 8 n 7 h (by decide)
 rw[decide_eq_true l1,Ee,decide_eq_true l2]
 by_cases q:n=0
 ·subst q
  decide
 ·have hh:=zR 8 n (by decide) (by omega) (by omega)
  have:((dec 8 n).headD 0==48)=false:=by simpa using hh
  rw[this]
  simp
theorem md{k:Nat}(h:k<5):wFields.idxOf? (wFields.getD k [])=some k/\isField (wFields.getD k [])=true:=by
 match k,h with
 | 0,_=>decide
 | 1,_=>decide
 | 2,_=>decide
 | 3,_=>decide
 | 4,_=>decide
theorem gL(h:House)(t:Nat):∀(q:Ask)(st:List Bool),gp q=true->(post q).foldlM (cF h t) st=some (holds h t q::st)
 | .all,st,_=>rfl
 | .lent,st,_=>rfl
 | .shown,st,_=>rfl
 | .inside n,st,o=>by
   have o:n<10000000:=of_decide_eq_true o
   show(cF h t st [wIn,dec 8 n] >>= λy=>some y)=_
   have c:bh [wIn,dec 8 n]=true:=by
    show(wIn==wIn&&isNum (dec 8 n))=true
    rw[ik o]
    rfl
   have e:cF h t st [wIn,dec 8 n]=some (h.inside (h.here t) n::st):=by
    unfold cF
    rw[if_neg (by simp),if_neg (by simp),if_neg (by simp),if_pos c]
    show some (h.inside (h.here t) (fA (dec 8 n))::st)=_
    rw[oV 8 n (by omega)]
   rw[e]
   rfl
 | .less k n,st,o=>by
   obtain⟨o1,o2⟩:=(Bool.and_eq_true _ _).mp o
   have o1:=of_decide_eq_true o1
   have o2:=of_decide_eq_true o2
   obtain⟨i1,i2⟩:=md o1
   have c:bh [wFields.getD k [], [60],dec 8 n]=true:=by
    show(isField _&&(df.contains [60]&&isNum (dec 8 n)))=true
    rw[i2,ik o2]
    rfl
   have e:cF h t st [wFields.getD k [], [60],dec 8 n]=some (decide (field h t k<n)::st):=by
    unfold cF
    rw[if_neg (by simp),if_neg (by simp),if_neg (by simp),if_pos c]
    show some (decide (field h t ((wFields.idxOf? (wFields.getD k [])).getD 0)<fA (dec 8 n))::st)=_
    rw[oV 8 n (by omega),i1]
    rfl
   show(cF h t st _ >>= λy=>some y)=_
   rw[e]
   rfl
 | .same k n,st,o=>by
   obtain⟨o1,o2⟩:=(Bool.and_eq_true _ _).mp o
   have o1:=of_decide_eq_true o1
   have o2:=of_decide_eq_true o2
   obtain⟨i1,i2⟩:=md o1
   have c:bh [wFields.getD k [], [61],dec 8 n]=true:=by
    show(isField _&&(df.contains [61]&&isNum (dec 8 n)))=true
    rw[i2,ik o2]
    rfl
   have e:cF h t st [wFields.getD k [], [61],dec 8 n]=some ((field h t k==n)::st):=by
    unfold cF
    rw[if_neg (by simp),if_neg (by simp),if_neg (by simp),if_pos c]
    show some ((field h t ((wFields.idxOf? (wFields.getD k [])).getD 0)==fA (dec 8 n))::st)=_
    rw[oV 8 n (by omega),i1]
    rfl
   show(cF h t st _ >>= λy=>some y)=_
   rw[e]
   rfl
 | .more k n,st,o=>by
   obtain⟨o1,o2⟩:=(Bool.and_eq_true _ _).mp o
   have o1:=of_decide_eq_true o1
   have o2:=of_decide_eq_true o2
   obtain⟨i1,i2⟩:=md o1
   have c:bh [wFields.getD k [], [62],dec 8 n]=true:=by
    show(isField _&&(df.contains [62]&&isNum (dec 8 n)))=true
    rw[i2,ik o2]
    rfl
   have e:cF h t st [wFields.getD k [], [62],dec 8 n]=some (decide (n<field h t k)::st):=by
    unfold cF
    rw[if_neg (by simp),if_neg (by simp),if_neg (by simp),if_pos c]
    show some (decide (fA (dec 8 n)<field h t ((wFields.idxOf? (wFields.getD k [])).getD 0))::st)=_
    rw[oV 8 n (by omega),i1]
    rfl
   show(cF h t st _ >>= λy=>some y)=_
   rw[e]
   rfl
 | .no q,st,o=>by
   show(post q++ [[wNot]]).foldlM (cF h t) st=_
   rw[List.foldlM_append,gL h t q st o]
   rfl
 | .and_ p q,st,o=>by
   obtain⟨o1,o2⟩:=(Bool.and_eq_true _ _).mp o
   show(post p++(post q++ [[wAnd]])).foldlM (cF h t) st=_
   rw[List.foldlM_append,gL h t p st o1]
   show(post q++ [[wAnd]]).foldlM (cF h t) (holds h t p::st)=_
   rw[List.foldlM_append,gL h t q _ o2]
   rfl
 | .or_ p q,st,o=>by
   obtain⟨o1,o2⟩:=(Bool.and_eq_true _ _).mp o
   show(post p++(post q++ [[wOr]])).foldlM (cF h t) st=_
   rw[List.foldlM_append,gL h t p st o1]
   show(post q++ [[wOr]]).foldlM (cF h t) (holds h t p::st)=_
   rw[List.foldlM_append,gL h t q _ o2]
   rfl
def brk(p:Text×Nat)(least:Nat):Text:=if least<=p.2 then p.1 else 40::(p.1++ [41])
def tW:Step->Text
 | []=> []
 | [a]=>a
 |a::l=>a++32::tW l
def bY(st:List (Text×Nat))(s:Step):Option (List (Text×Nat)):=
 if s= [wNot] then(match st with|a::r=>some ((wNot++32::brk a 3,3)::r)|_=>none)
 else if s= [wAnd] then(match st with|b::a::r=>some ((brk a 3++32::(wAnd++32::brk b 2),2)::r)|_=>none)
 else if s= [wOr] then(match st with|b::a::r=>some ((brk a 2++32::(wOr++32::brk b 1),1)::r)|_=>none)
 else if bh s=true then some ((tW s,3)::st) else none
def vf:Ask->Nat
 | .and_ _ _=>2
 | .or_ _ _=>1
 |_=>3
theorem oW(q:Ask)(lh:Nat)(hl:lh<=2):brk (writeAsk 0 q,vf q) (lh+1)=writeAsk lh q:=by
 have hi:∀q,vf q=3->(∀l,writeAsk l q=writeAsk 0 q)->brk (writeAsk 0 q,vf q) (lh+1)=writeAsk lh q:=λq h1 h2=>by
  unfold brk
  rw[h1,h2 lh,if_pos (by show lh+1<=3;omega)]
 cases q with
 |and_ p q=>
  unfold brk
  show(if lh+1<=2 then _ else _)=inBrackets (decide (1<lh)) _
  by_cases z:lh+1<=2
  ·rw[if_pos z,decide_eq_false (by omega)]
   rfl
  ·rw[if_neg z,decide_eq_true (by omega)]
   rfl
 |or_ p q=>
  unfold brk
  show(if lh+1<=1 then _ else _)=inBrackets (decide (0<lh)) _
  by_cases z:lh+1<=1
  ·rw[if_pos z,decide_eq_false (by omega)]
   rfl
  ·rw[if_neg z,decide_eq_true (by omega)]
   rfl
 |_=>exact hi _ rfl λ_=>rfl
theorem fF:∀(q:Ask)(st:List (Text×Nat)),gp q=true->(post q).foldlM bY st=some ((writeAsk 0 q,vf q)::st)
 | .all,st,_=>rfl
 | .lent,st,_=>rfl
 | .shown,st,_=>rfl
 | .inside n,st,o=>by
   have o:n<10000000:=of_decide_eq_true o
   have c:bh [wIn,dec 8 n]=true:=by
    show(wIn==wIn&&isNum (dec 8 n))=true
    rw[ik o]
    rfl
   have e:bY st [wIn,dec 8 n]=some ((wIn++32::dec 8 n,3)::st):=by
    unfold bY
    rw[if_neg (by simp),if_neg (by simp),if_neg (by simp),if_pos c]
    rfl
   show(bY st _ >>= λy=>some y)=_
   rw[e]
   rfl
 | .less k n,st,o=>by
   obtain⟨o1,o2⟩:=(Bool.and_eq_true _ _).mp o
   have o1:=of_decide_eq_true o1
   have o2:=of_decide_eq_true o2
   obtain⟨i1,i2⟩:=md o1
   have c:bh [wFields.getD k [], [60],dec 8 n]=true:=by
    show(isField _&&(df.contains [60]&&isNum (dec 8 n)))=true
    rw[i2,ik o2]
    rfl
   have e:bY st [wFields.getD k [], [60],dec 8 n]=some ((wFields.getD k []++([32,60,32]++dec 8 n),3)::st):=by
    unfold bY
    rw[if_neg (by simp),if_neg (by simp),if_neg (by simp),if_pos c]
    rfl
   show(bY st _ >>= λy=>some y)=_
   rw[e]
   rfl
 | .same k n,st,o=>by
   obtain⟨o1,o2⟩:=(Bool.and_eq_true _ _).mp o
   have o1:=of_decide_eq_true o1
   have o2:=of_decide_eq_true o2
   obtain⟨i1,i2⟩:=md o1
   have c:bh [wFields.getD k [], [61],dec 8 n]=true:=by
    show(isField _&&(df.contains [61]&&isNum (dec 8 n)))=true
    rw[i2,ik o2]
    rfl
   have e:bY st [wFields.getD k [], [61],dec 8 n]=some ((wFields.getD k []++([32,61,32]++dec 8 n),3)::st):=by
    unfold bY
    rw[if_neg (by simp),if_neg (by simp),if_neg (by simp),if_pos c]
    rfl
   show(bY st _ >>= λy=>some y)=_
   rw[e]
   rfl
 | .more k n,st,o=>by
   obtain⟨o1,o2⟩:=(Bool.and_eq_true _ _).mp o
   have o1:=of_decide_eq_true o1
   have o2:=of_decide_eq_true o2
   obtain⟨i1,i2⟩:=md o1
   have c:bh [wFields.getD k [], [62],dec 8 n]=true:=by
    show(isField _&&(df.contains [62]&&isNum (dec 8 n)))=true
    rw[i2,ik o2]
    rfl
   have e:bY st [wFields.getD k [], [62],dec 8 n]=some ((wFields.getD k []++([32,62,32]++dec 8 n),3)::st):=by
    unfold bY
    rw[if_neg (by simp),if_neg (by simp),if_neg (by simp),if_pos c]
    rfl
   show(bY st _ >>= λy=>some y)=_
   rw[e]
   rfl
 | .no q,st,o=>by
   show(post q++ [[wNot]]).foldlM bY st=_
   rw[List.foldlM_append,fF q st o]
   show some ((wNot++32::brk (writeAsk 0 q,vf q) (2+1),3)::st)=_
   rw[oW q 2 (by decide)]
   rfl
 | .and_ p q,st,o=>by
   obtain⟨o1,o2⟩:=(Bool.and_eq_true _ _).mp o
   show(post p++(post q++ [[wAnd]])).foldlM bY st=_
   rw[List.foldlM_append,fF p st o1]
   show(post q++ [[wAnd]]).foldlM bY _=_
   rw[List.foldlM_append,fF q _ o2]
   show some ((brk (writeAsk 0 p,vf p) (2+1)++32::(wAnd++32::brk (writeAsk 0 q,vf q) (1+1)),2)::st)=_
   rw[oW p 2 (by decide),oW q 1 (by decide)]
   rfl
 | .or_ p q,st,o=>by
   obtain⟨o1,o2⟩:=(Bool.and_eq_true _ _).mp o
   show(post p++(post q++ [[wOr]])).foldlM bY st=_
   rw[List.foldlM_append,fF p st o1]
   show(post q++ [[wOr]]).foldlM bY _=_
   rw[List.foldlM_append,fF q _ o2]
   show some ((brk (writeAsk 0 p,vf p) (1+1)++32::(wOr++32::brk (writeAsk 0 q,vf q) (0+1)),1)::st)=_
   rw[oW p 1 (by decide),oW q 0 (by decide)]
   rfl
end Mu
namespace Ev
open PySem PySem.Spec PyProof.Rows L2
def se(X:Cx)(e:Expr):TE:=λσ H Q=>∀(ag:List (Addr×Obj))(s:Shared),Inv X ag σ H s->wpAny (model X.prog X.w) X.A (eval e X.env) (EP X ag σ Q) X.xe s
def st(X:Cx)(e:Expr):TT:=λσ H Q=>∀(ag:List (Addr×Obj))(s:Shared),Inv X ag σ H s->wpAny (model X.prog X.w) X.A (isTrue e X.env (eval e X.env)) (TP X ag σ Q) X.xe s
def sw(X:Cx)(e:Expr):TT:=λσ H Q=>∀(whole:Sem Value)(ag:List (Addr×Obj))(s:Shared),Inv X ag σ H s->wpAny (model X.prog X.w) X.A (isTrue e X.env whole) (TP X ag σ Q) X.xe s
def sa(X:Cx)(es:List Expr):TA:=λσ H Q=>∀(pos:Pos)(ag:List (Addr×Obj))(s:Shared),Inv X ag σ H s->wpAny (model X.prog X.w) X.A (spliced (backTo pos (starEach es X.env))) (AP X ag σ Q) X.xe s
def sb(X:Cx)(b:List Stmt):TS:=λD σ H=>∀(ag:List (Addr×Obj))(s:Shared),Inv X ag σ H s->wpAny (model X.prog X.w) X.A (execs b X.env) (SP X ag D) X.xe s
section
variable{X:Cx}{e:Expr}{es:List Expr}{b:List Stmt}{σ:L2.St}{H:Hp}
theorem az:PE X e (se X e):=λag s _ _ _ I h=>h ag s I
theorem il:PT X e (st X e):=λag s _ _ _ I h=>h ag s I
theorem N2:PW X e (sw X e):=λwh ag s _ _ _ I h=>h wh ag s I
theorem mQ:PA X es (sa X es):=λpos ag s _ _ _ I h=>h pos ag s I
theorem aD:Bl X b (sb X b):=λag s _ _ _ I h=>h ag s I
theorem aY{t:TE}{Q:VK}(h:PE X e t)(q:t σ H Q):se X e σ H Q:=λag s I=>h ag s σ H Q I q
theorem zS{t:TT}{Q:Bool->Hp->Prop}(h:PT X e t)(q:t σ H Q):st X e σ H Q:=λag s I=>h ag s σ H Q I q
theorem Eg{t:TT}{Q:Bool->Hp->Prop}(h:PW X e t)(q:t σ H Q):sw X e σ H Q:=λwh ag s I=>h wh ag s σ H Q I q
theorem N3{t:TA}{Q:List V->Hp->Prop}(h:PA X es t)(q:t σ H Q):sa X es σ H Q:=λpos ag s I=>h pos ag s σ H Q I q
theorem cQ{t:TS}{D:Ends}(h:Bl X b t)(q:t D σ H):sb X b D σ H:=λag s I=>h ag s σ H D I q
end
inductive Sh where
 |v (x:V)
 |l (xs:List V)
 |n (xs:List V)
 |t (xs:List V)
def Sh.ok(K:W.Frag):Sh->V->Hp->Prop
 | .v x,y,_=>y=x
 | .l xs,y,H=>∃a,y=.ref a/\aF K H a xs
 | .n xs,y,H=>∃a,y=.ref a/\H a=some (.lst xs)
 | .t xs,y,H=>∃a,y=.ref a/\pZ K H a xs
theorem au.tup{K:W.Frag}{H H':Hp}{a:Addr}{xs:List V}(e:au H H')(h:pZ K H a xs):pZ K H' a xs:=by
 rcases h with(h|⟨o,h⟩)|h
 ·exact .inl (.inl (e _ _ h))
 ·exact .inl (.inr ⟨o,e _ _ h⟩)
 ·exact .inr h
theorem Sh.mono{K:W.Frag}{H H':Hp}(S:au H H'):∀{sh:Sh}{y:V},sh.ok K y H->sh.ok K y H'
 | .v _,_,h=>h
 | .l _,_,⟨a,e,h⟩=>⟨a,e,S.seq h⟩
 | .n _,_,⟨a,e,h⟩=>⟨a,e,S _ _ h⟩
 | .t _,_,⟨a,e,h⟩=>⟨a,e,au.tup S h⟩
abbrev dv(K:W.Frag)(H:Hp):List Sh->List V->Prop:=Paired λsh y=>sh.ok K y H
theorem au.upd{H:Hp}{p:Addr}{o:HO}(h:H p=none):au H (upd H p o):=λb u e=>by
 rw[aj (aE e h)];exact e
def E(X:Cx)(e:Expr)(σ:L2.St)(H:Hp)(sh:Sh):Prop:=∀H1,au H H1->∀Q:VK,(∀v H2,au H1 H2->sh.ok X.K v H2->Q v H2)->se X e σ H1 Q
def T(X:Cx)(e:Expr)(σ:L2.St)(H:Hp)(b:Bool):Prop:=∀H1,au H H1->∀Q:Bool->Hp->Prop,(∀H2,au H1 H2->Q b H2)->st X e σ H1 Q
def W(X:Cx)(e:Expr)(σ:L2.St)(H:Hp)(b:Bool):Prop:=∀H1,au H H1->∀Q:Bool->Hp->Prop,(∀H2,au H1 H2->Q b H2)->sw X e σ H1 Q
def A(X:Cx)(es:List Expr)(σ:L2.St)(H:Hp)(l:List Sh):Prop:=∀H1,au H H1->∀Q:List V->Hp->Prop,(∀vs H2,au H1 H2->dv X.K H2 l vs->Q vs H2)->sa X es σ H1 Q
def S(X:Cx)(b:List Stmt)(σ:L2.St)(H:Hp)(sh:Sh):Prop:=∀H1,au H H1->∀D:Ends,(∀v H2,au H1 H2->sh.ok X.K v H2->D.rt v H2)->sb X b D σ H1
def B(X:Cx)(b:List Stmt)(σ:L2.St)(H:Hp)(aO:L2.St):Prop:=∀H1,au H H1->∀D:Ends,(∀H2,au H1 H2->D.nx aO H2)->sb X b D σ H1
section
variable{X:Cx}{a b c e:Expr}{es:List Expr}{bd rest:List Stmt}{σ aO:L2.St}{H H':Hp}{sh sh':Sh}{l:List Sh}{pos pos':Pos}
theorem T.up{k:Bool}(S:au H H')(h:T X e σ H k):T X e σ H' k:=λH1 S1=>h H1 (S.trans S1)
theorem E.cast(h:E X e σ H sh)(q:sh=sh'):E X e σ H sh':=q▸h
theorem T.cast{k k':Bool}(h:T X e σ H k)(q:k=k'):T X e σ H k':=q▸h
theorem S.cast(h:S X bd σ H sh)(q:sh=sh'):S X bd σ H sh':=q▸h
theorem E.rd{xs:List V}(h:E X e σ H (.n xs)):E X e σ H (.l xs):=λH1 S1 Q hQ=>h H1 S1 Q λv H2 S2 ⟨p,q,r⟩=>hQ v H2 S2 ⟨p,q,aF.of r⟩
theorem E.lst{p:Addr}{xs:List V}(h:E X e σ H (.v (.ref p)))(q:aF X.K H p xs):E X e σ H (.l xs):=λH1 S1 Q hQ=>h H1 S1 Q λv H2 S2 r=>hQ v H2 S2 ⟨p,r,(S1.trans S2).seq q⟩
theorem E.own{p:Addr}{xs:List V}(h:E X e σ H (.v (.ref p)))(q:H p=some (.lst xs)):E X e σ H (.n xs):=λH1 S1 Q hQ=>h H1 S1 Q λv H2 S2 r=>hQ v H2 S2 ⟨p,r,(S1.trans S2) _ _ q⟩
theorem int{i:Int}{j:Nat}:E X (.Constant (.int i) j pos) σ H (.v (.int i)):=λ_ _ _ h=>aY OL (h _ _ (au.refl _) rfl)
theorem bl{k:Bool}{j:Nat}:E X (.Constant (.bool k) j pos) σ H (.v (.bl k)):=λ_ _ _ h=>aY SK (h _ _ (au.refl _) rfl)
theorem non{j:Nat}:E X (.Constant .none j pos) σ H (.v .non):=λ_ _ _ h=>aY OO (h _ _ (au.refl _) rfl)
theorem str{x:Str}{j:Nat}:E X (.Constant (.str x) j pos) σ H (.v (.str x)):=λ_ _ _ h=>aY OQ (h _ _ (au.refl _) rfl)
theorem nm(i:Nat){x:Str}{y:V}(hs:σ[i]? =some (some y):=by rfl)(hN:X.N[i]? =some x:=by rfl)(hv:Sx X.env.scope x:=by first|exact Or.inl rfl|exact Or.inr (Or.inl rfl)|exact Or.inr (Or.inr rfl))(hd:(x==("__debug__":Str))=false:=by decide)
 (KN:(x==("__classdict__":Str))=false:=by decide):E X (.Name x pos) σ H (.v y):=λ_ _ _ h=>aY (OJ hN hv hd KN) ⟨y,hs,h _ _ (au.refl _) rfl⟩
theorem gl{x:Str}{y:V}{u:Value}(hm:X.mg x=some u)(r:RelV y u)(hg:Gl X x:=by rfl)(hd:(x==("__debug__":Str))=false:=by decide):E X (.Name x pos) σ H (.v y):=λ_ _ _ h=>aY (K4 hg hm r hd) (h _ _ (au.refl _) rfl)
theorem KW{r:R2}(hp:PE X e (RD r (se X a) (se X b)))(ha:E X a σ H sh)(hb:E X b σ H sh'){z:Sh}
 (hr:∀H2,au H H2->∀x y,sh.ok X.K x H2->sh'.ok X.K y H2->∀Q:VK,(∀v H3,au H2 H3->z.ok X.K v H3->Q v H3)->r x y H2 Q):E X e σ H z:=λH1 S1 Q hQ=>
 aY hp (ha H1 S1 _ λx H2 S2 ox=>hb H2 (S1.trans S2) _ λy H3 S3 oy=>hr H3 ((S1.trans S2).trans S3) x y (Sh.mono S3 ox) oy Q λv H4 S4 ov=>hQ v H4 ((S2.trans S3).trans S4) ov)
section
variable{i j:Int}
theorem add(ha:E X a σ H (.v (.int i)))(hb:E X b σ H (.v (.int j))):E X (.BinOp a .Add b pos) σ H (.v (.int (i+j))):=
 KW (ot O8 az az) ha hb λ_ _ _ _ ox oy _ hQ=>⟨i,j,ox,oy,hQ _ _ (au.refl _) rfl⟩
theorem sub(ha:E X a σ H (.v (.int i)))(hb:E X b σ H (.v (.int j))):E X (.BinOp a .Sub b pos) σ H (.v (.int (i - j))):=
 KW (ot O9 az az) ha hb λ_ _ _ _ ox oy _ hQ=>⟨i,j,ox,oy,hQ _ _ (au.refl _) rfl⟩
theorem mul(hc:Lb i j)(ha:E X a σ H (.v (.int i)))(hb:E X b σ H (.v (.int j))):E X (.BinOp a .Mult b pos) σ H (.v (.int (i * j))):=
 KW (ot Pa az az) ha hb λ_ _ _ _ ox oy _ hQ=>⟨i,j,ox,oy,hc,hQ _ _ (au.refl _) rfl⟩
theorem fdiv(hc:Tf i j)(ha:E X a σ H (.v (.int i)))(hb:E X b σ H (.v (.int j))):E X (.BinOp a .FloorDiv b pos) σ H (.v (.int (i / j))):=
 KW (ot Lc az az) ha hb λ_ _ _ _ ox oy _ hQ=>⟨i,j,ox,oy,hc,hQ _ _ (au.refl _) rfl⟩
theorem neg(ha:E X a σ H (.v (.int i))):E X (.UnaryOp .USub a pos) σ H (.v (.int (-i))):=λH1 S1 Q hQ=>
 aY (Td Pb az) (ha H1 S1 _ λx H2 S2 ox=>⟨i,ox,hQ _ _ S2 rfl⟩)
end
theorem cat{xs ys:List V}(hz:xs.length+ys.length<=sizeLine)(ha:E X a σ H (.n xs))(hb:E X b σ H (.n ys)):E X (.BinOp a .Add b pos) σ H (.n (xs++ys)):=
 KW (ot HK az az) ha hb λ_ _ _ _ ⟨p,ep,hp⟩⟨q,eq,hq⟩ _ hQ=>⟨p,q,xs,ys,ep,eq,hp,hq,hz,λr hr=>hQ _ _ (au.upd hr) ⟨r,rfl,ak⟩⟩
def Cm(X:Cx)(op:CmpOp)(H:Hp)(sh sh':Sh)(k:Bool):Prop:=∃r,oq X (compareOp op) r/\∀H2,au H H2->∀x y,sh.ok X.K x H2->sh'.ok X.K y H2->∀Q:VK,Q (.bl k) H2->r x y H2 Q
theorem cI{op:CmpOp}{k:Bool}(hc:Cm X op H sh sh' k)(ha:E X a σ H sh)(hb:E X b σ H sh')(hm:behindInMarks op b=false:=by first|exact Ht _|rfl):E X (.Compare a [op] [b] pos) σ H (.v (.bl k)):=by
 obtain⟨r,ho,hr⟩:=hc
 exact KW (Le ho az az hm) ha hb λH2 S2 x y ox oy Q hQ=>hr H2 S2 x y ox oy Q (hQ _ _ (au.refl _) rfl)
theorem ai{op:CmpOp}{k:Bool}(hc:Cm X op H sh sh' k)(ha:E X a σ H sh)(hb:E X b σ H sh')(hm:behindInMarks op b=false:=by first|exact Ht _|rfl):T X (.Compare a [op] [b] pos) σ H k:=by
 obtain⟨r,ho,hr⟩:=hc
 exact λH1 S1 Q hQ=>zS (Lf ho az az hm) (ha H1 S1 _ λx H2 S2 ox=>hb H2 (S1.trans S2) _ λy H3 S3 oy=>hr H3 ((S1.trans S2).trans S3) x y (Sh.mono S3 ox) oy _ ⟨k,rfl,hQ H3 (S2.trans S3)⟩)
section
variable{i j:Int}
theorem zT:Cm X .Lt H (.v (.int i)) (.v (.int j)) (decide (i<j)):=⟨_,Ti,λ_ _ _ _ ox oy _ q=>⟨i,j,ox,oy,q⟩⟩
theorem N4:Cm X .LtE H (.v (.int i)) (.v (.int j)) (decide (i<=j)):=⟨_,Tj,λ_ _ _ _ ox oy _ q=>⟨i,j,ox,oy,q⟩⟩
theorem rS:Cm X .Gt H (.v (.int i)) (.v (.int j)) (decide (j<i)):=⟨_,Tn,λ_ _ _ _ ox oy _ q=>⟨i,j,ox,oy,q⟩⟩
theorem RM:Cm X .GtE H (.v (.int i)) (.v (.int j)) (decide (j<=i)):=⟨_,To,λ_ _ _ _ ox oy _ q=>⟨i,j,ox,oy,q⟩⟩
theorem IH:decide (V.int i=V.int j)=decide (i=j):=decide_eq_decide.mpr ⟨λq=>V.int.inj q,λq=>by rw[q]⟩
theorem cg:Cm X .Eq H (.v (.int i)) (.v (.int j)) (decide (i=j)):=⟨_,NS,λ_ _ x y ox oy Q q=>by
 have ex:x=V.int i:=ox
 have ey:y=V.int j:=oy
 subst ex ey
 exact⟨rfl,by rw[IH];exact q⟩⟩
theorem Xs:Cm X .NotEq H (.v (.int i)) (.v (.int j)) (!decide (i=j)):=⟨_,NT,λ_ _ x y ox oy Q q=>by
 have ex:x=V.int i:=ox
 have ey:y=V.int j:=oy
 subst ex ey
 exact⟨rfl,by rw[IH];exact q⟩⟩
end
theorem FV{x:V}:Cm X .Is H (.v x) (.v .non) (decide (x=.non)):=⟨_,Pg,λ_ _ y z oy oz Q q=>by
 have ey:y=x:=oy
 subst ey
 exact⟨oz,q⟩⟩
theorem tX{x:V}:Cm X .IsNot H (.v x) (.v .non) (!decide (x=.non)):=⟨_,Ld,λ_ _ y z oy oz Q q=>by
 have ey:y=x:=oy
 subst ey
 exact⟨oz,q⟩⟩
theorem Xu{x:V}{xs:List V}(fx:eG x=true)(fs:xs.all eG=true):Cm X .In H (.v x) (.l xs) (HF x xs):=⟨_,p7,λ_ _ y z oy ⟨p,ep,hp⟩ Q q=>by
 have ey:y=x:=oy
 subst ey
 exact⟨p,xs,ep,.inl hp,fx,fs,q⟩⟩
theorem BW{x:V}{xs:List V}(fx:eG x=true)(fs:xs.all eG=true):Cm X .NotIn H (.v x) (.l xs) (!HF x xs):=⟨_,oA,λ_ _ y z oy ⟨p,ep,hp⟩ Q q=>by
 have ey:y=x:=oy
 subst ey
 exact⟨p,xs,ep,.inl hp,fx,fs,q⟩⟩
theorem Xv{x:V}{xs:List V}(fx:eG x=true)(fs:xs.all eG=true):Cm X .In H (.v x) (.t xs) (HF x xs):=⟨_,p7,λ_ _ y z oy ⟨p,ep,hp⟩ Q q=>by
 have ey:y=x:=oy
 subst ey
 exact⟨p,xs,ep,.inr hp,fx,fs,q⟩⟩
theorem aI{k:Bool}(h:E X e σ H (.v (.bl k)))(he:∀whole,isTrue e X.env whole=(do let v <-whole;standAt e.pos;holding [v] (truthy v)):=by intro _;rfl):T X e σ H k:=λH1 S1 Q hQ=>
 zS (Hj az he) (h H1 S1 _ λv H2 S2 ov=>⟨k,ov,hQ H2 S2⟩)
theorem tY{k:Bool}(h:W X e σ H k):T X e σ H k:=λH1 S1 Q hQ ag s I=>h H1 S1 Q hQ _ ag s I
theorem xD{k:Bool}(h:T X a σ H k):W X (.BoolOp .And [a] pos) σ H k:=λH1 S1 Q hQ=>Eg (K5 il) (h H1 S1 Q hQ)
theorem gP{k:Bool}(h:T X a σ H k):W X (.BoolOp .Or [a] pos) σ H k:=λH1 S1 Q hQ=>Eg (OS il) (h H1 S1 Q hQ)
theorem w_and{k m:Bool}(h:T X a σ H k)(h':k=true->W X (.BoolOp .And (b::es) pos) σ H m):W X (.BoolOp .And (a::b::es) pos) σ H (k&&m):=λH1 S1 Q hQ=>
 Eg (OU il N2) (h H1 S1 _ λH2 S2=>by
  cases k with
  |true=>exact h' rfl H2 (S1.trans S2) Q λH3 S3=>hQ H3 (S2.trans S3)
  |false=>exact hQ H2 S2)
theorem w_or{k m:Bool}(h:T X a σ H k)(h':k=false->W X (.BoolOp .Or (b::es) pos) σ H m):W X (.BoolOp .Or (a::b::es) pos) σ H (k||m):=λH1 S1 Q hQ=>
 Eg (SM il N2) (h H1 S1 _ λH2 S2=>by
  cases k with
  |true=>exact hQ H2 S2
  |false=>exact h' rfl H2 (S1.trans S2) Q λH3 S3=>hQ H3 (S2.trans S3))
theorem cz{k:Bool}(h:T X a σ H k):T X (.UnaryOp .Not a pos) σ H (!k):=λH1 S1 Q hQ=>zS (L2.Hk il) (h H1 S1 _ λH2 S2=>hQ H2 S2)
theorem iq{op:BoolOp}(h:E X a σ H sh):E X (.BoolOp op [a] pos) σ H sh:=λH1 S1 Q hQ=>aY (OV az) (h H1 S1 Q hQ)
theorem ka{k m:Bool}(h:E X a σ H (.v (.bl k)))(h':k=true->E X (.BoolOp .And (b::es) pos) σ H (.v (.bl m))):E X (.BoolOp .And (a::b::es) pos) σ H (.v (.bl (k&&m))):=λH1 S1 Q hQ=>
 aY (OW az az) (h H1 S1 _ λv H2 S2 ov=>⟨k,ov,by
  cases k with
  |true=>exact h' rfl H2 (S1.trans S2) Q λv H3 S3 ov=>hQ v H3 (S2.trans S3) ov
  |false=>exact hQ _ H2 S2 rfl⟩)
theorem L3{k m:Bool}(h:E X a σ H (.v (.bl k)))(h':k=false->E X (.BoolOp .Or (b::es) pos) σ H (.v (.bl m))):E X (.BoolOp .Or (a::b::es) pos) σ H (.v (.bl (k||m))):=λH1 S1 Q hQ=>
 aY (SR az az) (h H1 S1 _ λv H2 S2 ov=>⟨k,ov,by
  cases k with
  |true=>exact hQ _ H2 S2 rfl
  |false=>exact h' rfl H2 (S1.trans S2) Q λv H3 S3 ov=>hQ v H3 (S2.trans S3) ov⟩)
theorem Ui{k:Bool}(h:E X a σ H (.v (.bl k))):E X (.UnaryOp .Not a pos) σ H (.v (.bl (!k))):=λH1 S1 Q hQ=>aY (L2.Hl az) (h H1 S1 _ λv H2 S2 ov=>⟨k,ov,hQ _ H2 S2 rfl⟩)
theorem Qg{k:Bool}(h:T X c σ H k)(h1:k=true->E X a σ H sh)(h2:k=false->E X b σ H sh):E X (.IfExp c a b pos) σ H sh:=λH1 S1 Q hQ=>
 aY (y8 il az az) (h H1 S1 _ λH2 S2=>by
  cases k with
  |true=>exact h1 rfl H2 (S1.trans S2) Q λv H3 S3 ov=>hQ v H3 (S2.trans S3) ov
  |false=>exact h2 rfl H2 (S1.trans S2) Q λv H3 S3 ov=>hQ v H3 (S2.trans S3) ov)
theorem chain{op op':CmpOp}{sc:Sh}{k m:Bool}(h1:Cm X op H sh sh' k)(h2:Cm X op' H sh' sc m)(ha:E X a σ H sh)(hb:E X b σ H sh')(hc:E X c σ H sc)
 (hm:lastMarks [op,op'] [b,c]=false:=by with_unfolding_all rfl):E X (.Compare a [op,op'] [b,c] pos) σ H (.v (.bl (k&&m))):=by
 obtain⟨r,ho,hr⟩:=h1
 obtain⟨r',DM,Vm⟩:=h2
 exact λH1 S1 Q hQ=>aY (Hu ho DM az az az hm) (ha H1 S1 _ λx H2 S2 ox=>hb H2 (S1.trans S2) _ λy H3 S3 oy=>hr H3 ((S1.trans S2).trans S3) x y (Sh.mono S3 ox) oy _ ⟨k,rfl,by
  cases k with
  |true=>exact hc H3 ((S1.trans S2).trans S3) _ λz H4 S4 oz=>Vm H4 (((S1.trans S2).trans S3).trans S4) y z (Sh.mono S4 oy) oz Q (hQ _ H4 ((S2.trans S3).trans S4) rfl)
  |false=>exact hQ _ H3 (S2.trans S3) rfl⟩)
def Fd(K:W.Frag)(H:Hp)(p:Addr)(f:Str)(x:V):Prop:=∃C dx fs,H p=some (.ins C dx fs)/\wW K C/\bX K C f/\fs.lookup f=some x
theorem Fd.up{K:W.Frag}{p:Addr}{f:Str}{x:V}(S:au H H'):Fd K H p f x->Fd K H' p f x:=λ⟨C,dx,fs,h,r⟩=>⟨C,dx,fs,S _ _ h,r⟩
theorem fld{p:Addr}{f:Str}{x:V}(h:E X e σ H (.v (.ref p)))(hf:Fd X.K H p f x)(hb:attributeBase e f X.env (eval e X.env)=eval e X.env:=by rfl):E X (.Attribute e f pos) σ H (.v x):=λH1 S1 Q hQ=>by
 obtain⟨C,dx,fs,hp,cl,na,lk⟩:=hf
 exact aY (Pj az hb) (h H1 S1 _ λv H2 S2 ov=>⟨p,C,dx,fs,x,ov,(S1.trans S2) _ _ hp,cl,na,lk,hQ x H2 S2 rfl⟩)
theorem ix{xs:List V}{i:Int}{x:V}(ha:E X a σ H (.l xs))(hb:E X b σ H (.v (.int i)))(hi:qP xs i=some x)(hs:wX b:=by intro _ _;rfl):E X (.Subscript a b pos) σ H (.v x):=
 KW (NW Li az az hs) ha hb λ_ _ _ _ ⟨p,ep,hp⟩ oy _ hQ=>⟨p,xs,i,x,ep,oy,hp,hi,hQ _ _ (au.refl _) rfl⟩
theorem Xw{xs:List V}{i:Int}{x:V}(ha:E X a σ H (.t xs))(hb:E X b σ H (.v (.int i)))(hi:qP xs i=some x)(hs:wX b:=by intro _ _;rfl):E X (.Subscript a b pos) σ H (.v x):=
 KW (NW Pp az az hs) ha hb λ_ _ _ _ ⟨p,ep,hp⟩ oy _ hQ=>⟨p,xs,i,x,ep,oy,hp,hi,hQ _ _ (au.refl _) rfl⟩
theorem a0:A X [] σ H []:=λH1 _ Q hQ=>N3 du (hQ [] H1 (au.refl _) .nil)
theorem a1(h:E X e σ H sh)(h':A X es σ H l)(hs:starEach (e::es) X.env=(false,eval e X.env)::starEach es X.env:=by rfl):A X (e::es) σ H (sh::l):=λH1 S1 Q hQ=>
 N3 (bJ az mQ hs) (h H1 S1 _ λv H2 S2 ov=>h' H2 (S1.trans S2) _ λvs H3 S3 os=>hQ (v::vs) H3 (S2.trans S3) (.cons (Sh.mono S3 ov) os))
def vs(xs:List V):List Sh:=xs.map .v
theorem dv.vs{K:W.Frag}:∀{xs ys:List V},dv K H (Ev.vs xs) ys->ys=xs
 | [],_,.nil=>rfl
 |x::xs,_,.cons r t=>by
  have e:_=x:=r
  rw[e,dv.vs t]
theorem lst{xs:List V}(h:A X es σ H (vs xs))(hz:xs.length<=sizeLine):E X (.List es pos) σ H (.n xs):=λH1 S1 Q hQ=>
 aY (nD mQ) (h H1 S1 _ λys H2 S2 os=>by
  have e:=os.vs
  subst e
  exact⟨hz,λp hp=>hQ _ _ (S2.trans (au.upd hp)) ⟨p,rfl,ak⟩⟩)
theorem tup{xs:List V}{k:Nat}(h:A X es σ H (vs xs))(hz:xs.length<=sizeLine):E X (.Tuple es k pos) σ H (.t xs):=λH1 S1 Q hQ=>
 aY (Pk mQ) (h H1 S1 _ λys H2 S2 os=>by
  have e:=os.vs
  subst e
  exact⟨hz,λp hp=>hQ _ _ (S2.trans (au.upd hp)) ⟨p,rfl,pZ.of ak⟩⟩)
theorem qV{x:Str}{id:String}{r:List V->Hp->VK->Prop}{p:Pos}{z:Sh}(hc:j7 X (.builtin id) r)(hm:X.mg x=none)(hv:bootBuiltins x=some (.builtin id))(ha:A X (e::es) σ H l)
 (hr:∀H2,au H H2->∀ys,dv X.K H2 l ys->∀Q:VK,(∀v H3,au H2 H3->z.ok X.K v H3->Q v H3)->r ys H2 Q)(hg:Gl X x:=by rfl)(hn:x≠"__name__":=by decide)(tK:(x==("__debug__":Str))=false:=by decide)
 (he:starEach (e::es) X.env=(false,eval e X.env)::starEach es X.env:=by rfl)(hpl:(backTo pos (starEach es X.env)).any (·.1)=false:=by rfl):E X (.Call (.Name x p) (e::es) [] pos) σ H z:=λH1 S1 Q hQ=>
 aY (HB hc hg hm hv mQ hn tK he hpl) (ha H1 S1 _ λys H2 S2 os=>hr H2 (S1.trans S2) ys os Q λv H3 S3 ov=>hQ v H3 (S2.trans S3) ov)
abbrev Pre:=Hp->List Sh->Sh->Prop
def Y4(K:W.Frag)(P:Pre):Sp:=λys H Q _=>∃l z,dv K H l ys/\P H l z/\∀v H',au H H'->z.ok K v H'->Q v H'
def Pre.Up(P:Pre):Prop:=∀H H' l z,au H H'->P H l z->P H' l z
structure Def(X:Cx)(x:Str)(P:Pre):Prop where
 ex:∃(k:Nat)(f:Addr)(fd:FuncData)(ps:List Str),bD X.prog X.w X.K X.mg X.ae eT k f fd ps (Y4 X.K P)/\dC k X.A/\X.mg x=some (.ref f)/\W.keepIn X.K (.ref f)=true/\Binds X.K fd ps []
 up:P.Up
theorem call{x:Str}{P:Pre}{p:Pos}{z:Sh}(D:Def X x P)(ha:A X (e::es) σ H l)(hP:P H l z)(hg:Gl X x:=by rfl)(tK:(x==("__debug__":Str))=false:=by decide)
 (he:starEach (e::es) X.env=(false,eval e X.env)::starEach es X.env:=by rfl)(hpl:(backTo pos (starEach es X.env)).any (·.1)=false:=by rfl):E X (.Call (.Name x p) (e::es) [] pos) σ H z:=λH1 S1 Q hQ=>by
 obtain⟨k,f,fd,ps,F,hr,hm,hk,hb⟩:=D.ex
 refine aY (jr (E:=E0) F hr hg hm hk hb .nil mN mQ tK he hpl) (ha H1 S1 _ λys H2 S2 os=> ?_)
 rw[List.append_nil]
 exact⟨l,z,os,D.up _ _ _ _ (S1.trans S2) hP,λv H3 S3 ov=>hQ v H3 (S2.trans S3) ov⟩
theorem len{xs:List V}{p:Pos}(ha:A X [e] σ H [.l xs])(hm:X.mg "len"=none)(hg:Gl X "len":=by rfl)(he:starEach [e] X.env=(false,eval e X.env)::starEach [] X.env:=by rfl):E X (.Call (.Name "len" p) [e] [] pos) σ H (.v (.int xs.length)):=
 qV (l:= [.l xs]) xa hm PySem.boot_len ha (λH2 _ ys os Q hQ=>by
  cases os with
  |cons r t=>
   cases t
   obtain⟨q,eq,hq⟩:=r
   subst eq
   exact⟨q,xs,rfl,.inl hq,hQ _ _ (au.refl _) rfl⟩) hg (he:=he) (hpl:=rfl)
theorem any{bs:List Bool}{p:Pos}(ha:A X [e] σ H [.l (bs.map V.bl)])(hm:X.mg "any"=none)(hc:X.calm=true:=by rfl)(hg:Gl X "any":=by rfl)(hv:bootBuiltins "any"=some (.builtin "any"):=by decide+kernel)(he:starEach [e] X.env=(false,eval e X.env)::starEach [] X.env:=by rfl):E X (.Call (.Name "any" p) [e] [] pos) σ H (.v (.bl (bs.any id))):=
 qV (l:= [.l (bs.map V.bl)]) (PD hc) hm hv ha (λH2 _ ys os Q hQ=>by
  cases os with
  |cons r t=>
   cases t
   obtain⟨q,eq,hq⟩:=r
   subst eq
   exact⟨q,bs,rfl,hq,hQ _ _ (au.refl _) rfl⟩) hg (he:=he) (hpl:=rfl)
theorem all{bs:List Bool}{p:Pos}(ha:A X [e] σ H [.l (bs.map V.bl)])(hm:X.mg "all"=none)(hc:X.calm=true:=by rfl)(hg:Gl X "all":=by rfl)(hv:bootBuiltins "all"=some (.builtin "all"):=by decide+kernel)(he:starEach [e] X.env=(false,eval e X.env)::starEach [] X.env:=by rfl):E X (.Call (.Name "all" p) [e] [] pos) σ H (.v (.bl (bs.all id))):=
 qV (l:= [.l (bs.map V.bl)]) (PF hc) hm hv ha (λH2 _ ys os Q hQ=>by
  cases os with
  |cons r t=>
   cases t
   obtain⟨q,eq,hq⟩:=r
   subst eq
   exact⟨q,bs,rfl,hq,hQ _ _ (au.refl _) rfl⟩) hg (he:=he) (hpl:=rfl)
theorem max2{i j:Int}{p:Pos}(ha:A X [a,b] σ H [.v (.int i),.v (.int j)])(hm:X.mg "max"=none)(hc:X.calm=true:=by rfl)(hg:Gl X "max":=by rfl)(hv:bootBuiltins "max"=some (.builtin "max"):=by decide+kernel)(he:starEach [a,b] X.env=(false,eval a X.env)::starEach [b] X.env:=by rfl)(hpl:(backTo pos (starEach [b] X.env)).any (·.1)=false:=by rfl):E X (.Call (.Name "max" p) [a,b] [] pos) σ H (.v (.int (if j > i then j else i))):=
 qV (l:= [.v (.int i),.v (.int j)]) (Fg hc) hm hv ha (λH2 _ ys os Q hQ=>by
  have e:=dv.vs (xs:= [V.int i,V.int j]) os
  subst e
  exact⟨i,j,rfl,hQ _ _ (au.refl _) rfl⟩) hg (he:=he) (hpl:=hpl)
theorem min2{i j:Int}{p:Pos}(ha:A X [a,b] σ H [.v (.int i),.v (.int j)])(hm:X.mg "min"=none)(hc:X.calm=true:=by rfl)(hg:Gl X "min":=by rfl)(hv:bootBuiltins "min"=some (.builtin "min"):=by decide+kernel)(he:starEach [a,b] X.env=(false,eval a X.env)::starEach [b] X.env:=by rfl)(hpl:(backTo pos (starEach [b] X.env)).any (·.1)=false:=by rfl):E X (.Call (.Name "min" p) [a,b] [] pos) σ H (.v (.int (if j<i then j else i))):=
 qV (l:= [.v (.int i),.v (.int j)]) (Fh hc) hm hv ha (λH2 _ ys os Q hQ=>by
  have e:=dv.vs (xs:= [V.int i,V.int j]) os
  subst e
  exact⟨i,j,rfl,hQ _ _ (au.refl _) rfl⟩) hg (he:=he) (hpl:=hpl)
theorem Xx{ns:List Int}{m:Int}{p:Pos}(ha:A X [e] σ H [.l (ns.map V.int)])(h1:m∈ns)(h2:∀y,y∈ns->y<=m)(hm:X.mg "max"=none)(hc:X.calm=true:=by rfl)(hg:Gl X "max":=by rfl)(hv:bootBuiltins "max"=some (.builtin "max"):=by decide+kernel)(he:starEach [e] X.env=(false,eval e X.env)::starEach [] X.env:=by rfl):E X (.Call (.Name "max" p) [e] [] pos) σ H (.v (.int m)):=
 qV (l:= [.l (ns.map V.int)]) (PB hc) hm hv ha (λH2 _ ys os Q hQ=>by
  cases os with
  |cons r t=>
   cases t
   obtain⟨q,eq,hq⟩:=r
   subst eq
   refine⟨q,ns,rfl,hq,List.length_pos_of_mem h1,λm' Uj h2'=>hQ _ _ (au.refl _) ?_⟩
   have e:m'=m:=Int.le_antisymm (h2 _ Uj) (h2' _ h1)
   subst e
   rfl) hg (he:=he) (hpl:=rfl)
theorem aw(h:E X e σ H sh):S X (.Return (some e) pos::rest) σ H sh:=λH1 S1 D hD=>cQ (aU (wR az) (lT (sts:=rest))) (h H1 S1 _ λv H2 S2 ov=>hD v H2 S2 ov)
theorem zU{k:Bool}(h:T X c σ H k)(h1:k=true->S X bd σ H sh)(h2:k=false->S X rest σ H sh):S X (.If c bd [] pos::rest) σ H sh:=λH1 S1 D hD=>
 cQ (aU (DQ il aD lS) aD) (h H1 S1 _ λH2 S2=>by
  cases k with
  |true=>exact h1 rfl H2 (S1.trans S2) _ λv H3 S3 ov=>hD v H3 (S2.trans S3) ov
  |false=>exact h2 rfl H2 (S1.trans S2) _ λv H3 S3 ov=>hD v H3 (S2.trans S3) ov)
theorem qW{k:Bool}{sh1 sh2:Sh}(h:T X c σ H k)(h1:k=true->S X bd σ H sh1)(h2:k=false->S X rest σ H sh2):S X (.If c bd [] pos::rest) σ H (bif k then sh1 else sh2):=by
 cases k with
 |true=>exact zU h (λq=>h1 q) (λq=>nomatch q)
 |false=>exact zU h (λq=>nomatch q) (λq=>h2 q)
theorem N5{k:Bool}{sh1 sh2:Sh}(h:T X c σ H k)(h1:k=true->E X a σ H sh1)(h2:k=false->E X b σ H sh2):E X (.IfExp c a b pos) σ H (bif k then sh1 else sh2):=by
 cases k with
 |true=>exact Qg h (λq=>h1 q) (λq=>nomatch q)
 |false=>exact Qg h (λq=>nomatch q) (λq=>h2 q)
theorem gQ(i:Nat){x:Str}{y:V}(h:E X e σ H (.v y))(h':S X rest (σ.set i (some y)) H sh)(hN:X.N.Nodup)(hi:X.N[i]? =some x:=by rfl)(hx:Loc X.env.scope x:=by exact Or.inl rfl)
 (hs:swapsWith e (some (.Name x pos')) pos.line X.env=pure false:=by rfl)(hf:X.fn x=true\/X.env.scope.names.lookup x=some .local:=by first|exact .inl rfl|exact .inr rfl|assumption):S X (.Assign [.Name x pos'] e pos::rest) σ H sh:=λH1 S1 D hD=>
 cQ (aU (p5 hN hi hx az hs hf) aD) (h H1 S1 _ λv H2 S2 ov=>by
  have ev:v=y:=ov
  subst ev
  exact h' H2 (S1.trans S2) D λv H3 S3 ov=>hD v H3 (S2.trans S3) ov)
theorem II(i:Nat){x:Str}(h:E X e σ H sh')(h':∀y H',au H H'->sh'.ok X.K y H'->S X rest (σ.set i (some y)) H' sh)(hN:X.N.Nodup)(hi:X.N[i]? =some x:=by rfl)(hx:Loc X.env.scope x:=by exact Or.inl rfl)
 (hs:swapsWith e (some (.Name x pos')) pos.line X.env=pure false:=by rfl)(hf:X.fn x=true\/X.env.scope.names.lookup x=some .local:=by first|exact .inl rfl|exact .inr rfl|assumption):S X (.Assign [.Name x pos'] e pos::rest) σ H sh:=λH1 S1 D hD=>
 cQ (aU (p5 hN hi hx az hs hf) aD) (h H1 S1 _ λv H2 S2 ov=>h' v H2 (S1.trans S2) ov H2 (au.refl _) D λv H3 S3 ov=>hD v H3 (S2.trans S3) ov)
theorem B.cast{xE:L2.St}(h:B X bd σ H aO)(q:aO=xE):B X bd σ H xE:=q▸h
theorem wo:B X [] σ H σ:=λH1 _ D hD=>cQ lS (hD H1 (au.refl _))
theorem Eh(i:Nat){x:Str}{y:V}(h:E X e σ H (.v y))(h':B X rest (σ.set i (some y)) H aO)(hN:X.N.Nodup)(hi:X.N[i]? =some x:=by rfl)(hx:Loc X.env.scope x:=by exact Or.inl rfl)
 (hs:swapsWith e (some (.Name x pos')) pos.line X.env=pure false:=by rfl)(hf:X.fn x=true\/X.env.scope.names.lookup x=some .local:=by first|exact .inl rfl|exact .inr rfl|assumption):B X (.Assign [.Name x pos'] e pos::rest) σ H aO:=λH1 S1 D hD=>
 cQ (aU (p5 hN hi hx az hs hf) aD) (h H1 S1 _ λv H2 S2 ov=>by
  have ev:v=y:=ov
  subst ev
  exact h' H2 (S1.trans S2) D λH3 S3=>hD H3 (S2.trans S3))
theorem Uk{iter:Expr}(i:Nat){x:Str}{xs:List V}(F:Nat->L2.St)(h0:σ=F 0)(hl:E X iter σ H (.l xs))(ht:∀k y,xs[k]? =some y->B X bd ((F k).set i (some y)) H (F (k+1)))(h':S X rest (F xs.length) H sh)
 (hp:PassesOwn (model X.prog X.w) X.A X.env X.xe)(hc:X.calm=true:=by rfl)(hN:X.N.Nodup)(hi:X.N[i]? =some x:=by rfl)(hx:Loc X.env.scope x:=by exact Or.inl rfl)
 (hs:∀x,foldedSetIterable iter X.env x=pure x:=by intro _;rfl)(hf:X.fn x=true\/X.env.scope.names.lookup x=some .local:=by first|exact .inl rfl|exact .inr rfl|assumption):
 S X (.For (.Name x pos') iter bd [] pos::rest) σ H sh:=λH1 S1 D hD=>by
 subst h0
 refine cQ (aU (wU hp hc (sN az) (fK hN hi hx hf) aD hs) aD) (hl H1 S1 _ λv H2 S2 ⟨p,ep,hq⟩=>⟨p,ep,⟨xs,hq⟩,?_⟩)
 refine zc (K:=X.K) (a:=p) (xs:=xs) (λk τ H'=>τ=F k/\au H2 H') ⟨rfl,au.refl _⟩ (λk τ H' _ ⟨_,S3⟩=>S3.seq hq) (λk y τ H' hy ⟨qk,S3⟩=> ?_) (λτ H' ⟨qk,S3⟩=> ?_)
 ·subst qk
  exact ht k y hy H' ((S1.trans S2).trans S3) _ λH4 S4=>⟨rfl,S3.trans S4⟩
 ·subst qk
  exact h' H' ((S1.trans S2).trans S3) D λv H4 S4 ov=>hD v H4 ((S2.trans S3).trans S4) ov
end
section
variable{X:Cx}{σ:L2.St}{H:Hp}
def sts(X:Cx)(ifs:List Expr):TT:=λσ H Q=>∀(ag:List (Addr×Obj))(s:Shared),Inv X ag σ H s->
 wpAny (model X.prog X.w) X.A (forIn ifs true λc r=>if r=true then do let ok <-isTrue c X.env (eval c X.env);pure (ForInStep.yield ok) else pure (ForInStep.yield r)) (TP X ag σ Q) X.xe s
theorem IJ{ifs:List Expr}{t:TT}{Q:Bool->Hp->Prop}(h:RK X ifs t)(q:t σ H Q):sts X ifs σ H Q:=λag s I=>h ag s σ H Q I q
def Ts(X:Cx)(ifs:List Expr)(σ:L2.St)(H:Hp)(b:Bool):Prop:=∀H1,au H H1->∀Q:Bool->Hp->Prop,(∀H2,au H1 H2->Q b H2)->sts X ifs σ H1 Q
theorem iQ:Ts X [] σ H true:=λH1 _ Q hQ=>IJ Lx (hQ H1 (au.refl _))
theorem jB{c:Expr}{k:Bool}(h:T X c σ H k):Ts X [c] σ H k:=λH1 S1 Q hQ=>IJ (Ly il) (h H1 S1 Q hQ)
theorem cO{α:Type}{xs:List α}{k:Nat}{y:α}(hy:xs[k]? =some y):xs.take (k+1)=xs.take k++ [y]:=by
 rw[List.take_add_one,hy]
 rfl
def KY{α:Type}(L:List α)(g:α->V)(σ:L2.St)(i:Nat)(p:α->Bool)(H:Hp):TT:=λτ H' Q=>∃y,y∈L/\τ=(wipe σ [i]).set i (some (g y))/\au H H'/\∀IK,au H' IK->Q (p y) IK
def KZ{α:Type}(L:List α)(g:α->V)(σ:L2.St)(i:Nat)(p:α->Bool)(f:α->V)(H:Hp):TE:=λτ H' Q=>∃y,y∈L/\p y=true/\τ=(wipe σ [i]).set i (some (g y))/\au H H'/\∀IK,au H' IK->Q (f y) IK
def Y5(xs:List V)(σ:L2.St)(i j:Nat)(p:V×Nat->Bool)(H:Hp):TT:=λτ H' Q=>∃y k,xs[k]? =some y/\τ=((wipe σ [i,j]).set i (some (.int (k:Nat)))).set j (some y)/\au H H'/\∀IK,au H' IK->Q (p (y,k)) IK
def Y6(xs:List V)(σ:L2.St)(i j:Nat)(p:V×Nat->Bool)(f:V×Nat->V)(H:Hp):TE:=λτ H' Q=>∃y k,xs[k]? =some y/\p (y,k)=true/\τ=((wipe σ [i,j]).set i (some (.int (k:Nat)))).set j (some y)/\au H H'/\∀IK,au H' IK->Q (f (y,k)) IK
theorem cR{α:Type}(p:α->Bool)(l:List α)(y:α):(l++ [y]).filter p=if p y=true then l.filter p++ [y] else l.filter p:=by
 rw[List.filter_append,List.filter_cons,List.filter_nil]
 by_cases h:p y=true
 ·rw[if_pos h,if_pos h]
 ·rw[if_neg h,if_neg h,List.append_nil]
theorem IL{α β:Type}(p:α->Bool)(f:α->β)(l:List α)(k:Nat):(((l.take k).filter p).map f).length<=l.length:=by
 rw[List.length_map]
 exact Nat.le_trans (List.length_filter_le _ _) (by rw[List.length_take];omega)
theorem lc{α:Type}{elt iter:Expr}{ifs:List Expr}{scope:Scope}{pos mG:Pos}{x:Str}(i:Nat){L:List α}(g:α->V)(p:α->Bool)(f:α->V)(hl:E X iter σ H (.l (L.map g)))
 (ht:∀y,y∈L->∀(s:Shared)(H0:Hp)(C:Addr)(cl:List (Str×Addr))(fp:List Addr),Ts (X.iN s H0 scope (compEnvC scope cl C X.env) fp) ifs ((wipe σ [i]).set i (some (g y))) H (p y))
 (he:∀y,y∈L->p y=true->∀(s:Shared)(H0:Hp)(C:Addr)(cl:List (Str×Addr))(fp:List Addr),E (X.iN s H0 scope (compEnvC scope cl C X.env) fp) elt ((wipe σ [i]).set i (some (g y))) H (.v (f y)))
 (hz:L.length<sizeLine)(hN:X.N.Nodup)(hi:X.N[i]? =some x:=by rfl)(hx:∀cl C,L2.Loc (compEnvC scope cl C X.env).scope x:=by exact λ_ _=>Or.inl rfl)(ok:mK X.N X.env.scope scope [(x,i)]:=by exact kX rfl)
 (hf:∀(s:Shared)(H0:Hp)(C:Addr)(cl:List (Str×Addr))(fp:List Addr),(X.iN s H0 scope (compEnvC scope cl C X.env) fp).fn x=true\/(X.iN s H0 scope (compEnvC scope cl C X.env) fp).env.scope.names.lookup x=some .local:=by exact λ_ _ _ _ _=>Or.inr rfl)
 (hc:X.calm=true:=by rfl)(hs:∀x,foldedSetIterable iter X.env x=pure x:=by intro _;rfl):
 E X (.ListComp elt [⟨.Name x mG,iter,ifs,0⟩] scope pos) σ H (.n ((L.filter p).map f)):=λH1 S1 Q hQ=>by
 refine aY (D0 (own:= [(x,i)]) (tt:=KY L g σ i p H) (te:=KZ L g σ i p f H) hc hN (sN az) ok (λs H0 C cl fp=>fK (i:=i) hN hi (hx cl C) (hf s H0 C cl fp))
  (λs H0 C cl fp ag s1 τ H' Q' I ⟨y,hy,qk,SH,hq⟩=> ?_) (λs H0 C cl fp ag s1 τ H' Q' I ⟨y,hy,py,qk,SH,hq⟩=> ?_) hs) ?_
 ·subst qk
  exact ht y hy s H0 C cl fp H' SH _ (λH2 S2=>hq H2 S2) ag s1 I
 ·subst qk
  exact he y hy py s H0 C cl fp H' SH _ (λv H2 S2 ov=>by
   have ev:v=f y:=ov
   subst ev
   exact hq H2 S2) ag s1 I
 ·refine hl H1 S1 _ λv H2 S2 ⟨q,ep,hq⟩=>⟨q,ep,⟨_,hq⟩,λD hD=> ?_⟩
  refine D1 (K:=X.K) (a:=q) (xs:=L.map g) (g:=gn i) (tt:=KY L g σ i p H) (te:=KZ L g σ i p f H) (vs:= [i]) (σ:=σ) (Qd:=λH'=>Q (.ref D) H') (λk H'=>au H2 H'/\H' D=some (.lst (((L.take k).filter p).map f))) ⟨au.upd hD,ak⟩ (λk H' _ ⟨S3,_⟩=>S3.seq hq) (λk z H' Bg ⟨S3,hd⟩=> ?_) (λH' ⟨S3,hd⟩=> ?_)
  ·rw[List.getElem?_map] at Bg
   cases hy:L[k]? with
   |none=>
    rw[hy] at Bg
    cases Bg
   |some y=>
    rw[hy] at Bg
    have ez:g y=z:=Option.some.inj Bg
    subst ez
    have my:=List.mem_of_getElem? hy
    refine⟨?_,y,my,rfl,(S1.trans S2).trans S3,λH4 S4=> ?_⟩
    ·show wipe ((wipe σ [i]).set i (some (g y))) [i]=wipe σ [i]
     simp[wipe]
    ·by_cases py:p y=true
     ·dsimp only
      rw[if_pos py]
      refine⟨y,my,py,rfl,((S1.trans S2).trans S3).trans S4,λH5 S5=>⟨_,S5 _ _ (S4 _ _ hd),Nat.lt_of_le_of_lt (IL p f L k) hz,λb o e=> ?_,?_⟩⟩
      ·rw[aj (aE e hD)]
       exact S5 _ _ (S4 _ _ (S3 _ _ e))
      ·rw[ak,cO hy,cR,if_pos py,List.map_append]
       rfl
     ·dsimp only
      rw[if_neg py]
      refine⟨S3.trans S4,?_⟩
      rw[cO hy,cR,if_neg py]
      exact S4 _ _ hd
  ·rw[List.length_map,List.take_length] at hd
   exact hQ _ _ (S2.trans S3) ⟨D,rfl,hd⟩
theorem filter_all{α:Type}(L:List α):L.filter (λ_=>true)=L:=List.filter_eq_self.mpr λ_ _=>rfl
theorem L4{K:W.Frag}{a:Addr}{xs:List V}{g:TG}{tt:TT}{te:TE}{vs:List Nat}{σ:L2.St}{H1:Hp}{D:Addr}{Qd:Hp->Prop}(Pv:Nat->Hp->Prop)(h0:Pv 0 (upd H1 D (.lst [])))(hl:∀i H,i<=xs.length->Pv i H->aF K H a xs)
 (hs:∀i x H T,xs[i]? =some x->Pv i H->H T=none->g (.ref T) (wipe σ vs) (upd H T (.tup [.int (i:Nat),x])) λeQ H2=>wipe eQ vs=wipe σ vs/\tt eQ H2 λb H3=>
   if b=true then te eQ H3 λy H4=>∃acc,H4 D=some (.lst acc)/\acc.length<sizeLine/\Pv (i+1) (upd H4 D (.lst (acc++ [y]))) else Pv (i+1) H3)(hd:∀H,Pv xs.length H->Qd H):
 ∃W:Nat->Nat->Hp->Prop,(∃m,W 0 m (upd H1 D (.lst [])))/\∀i m H,W i m H->
  ((T7 K a).stop i H/\Qd H)\/((T7 K a).go i H/\∃Nx:Hp->Prop,(∀H',Nx H'->∃m',m'<m/\W (i+1) m' H')/\∀x H',(T7 K a).KP i H x H'->g x (wipe σ vs) H' λeQ H2=>wipe eQ vs=wipe σ vs/\tt eQ H2 λb H3=>
   if b=true then te eQ H3 λy H4=>∃acc,H4 D=some (.lst acc)/\acc.length<sizeLine/\Nx (upd H4 D (.lst (acc++ [y]))) else Nx H3):=by
 refine⟨λi m H=>m=xs.length - i/\i<=xs.length/\Pv i H,⟨xs.length,by simp,Nat.zero_le _,h0⟩,?_⟩
 rintro i m H ⟨rfl,hi,p⟩
 have q:=hl i H hi p
 by_cases gJ:i<xs.length
 ·refine .inr ⟨⟨xs,xs[i],q,by simp[gJ]⟩,Pv (i+1),λH' p'=>⟨xs.length - (i+1),by omega,rfl,gJ,p'⟩,λx H' y=> ?_⟩
  obtain⟨T,z,e1,hT,e2,y⟩:=y
  subst e1 e2
  exact hs i z _ T (y xs q) p hT
 ·have e:i=xs.length:=by omega
  subst e
  exact .inl ⟨⟨xs,q,Nat.le_refl _⟩,hd H p⟩
theorem zV{xs:List V}{k:Nat}{y:V}(hy:xs[k]? =some y):(xs.take (k+1)).zipIdx=(xs.take k).zipIdx++ [(y,k)]:=by
 have hk:k<xs.length:=(List.getElem?_eq_some_iff.mp hy).1
 rw[cO hy,List.zipIdx_append]
 have e:(xs.take k).length=k:=by
  rw[List.length_take]
  omega
 rw[e,Nat.zero_add]
 rfl
theorem Y7{elt iter:Expr}{ifs:List Expr}{scope:Scope}{pos mG np xp ep cp:Pos}{kk:Nat}{n x:Str}(i j:Nat){xs:List V}(p:V×Nat->Bool)(f:V×Nat->V)(hl:E X iter σ H (.l xs))(hij:i≠j)
 (ht:∀y k,xs[k]? =some y->∀(s:Shared)(H0:Hp)(C:Addr)(cl:List (Str×Addr))(fp:List Addr),Ts (X.iN s H0 scope (compEnvC scope cl C X.env) fp) ifs (((wipe σ [i,j]).set i (some (.int (k:Nat)))).set j (some y)) H (p (y,k)))
 (he:∀y k,xs[k]? =some y->p (y,k)=true->∀(s:Shared)(H0:Hp)(C:Addr)(cl:List (Str×Addr))(fp:List Addr),E (X.iN s H0 scope (compEnvC scope cl C X.env) fp) elt (((wipe σ [i,j]).set i (some (.int (k:Nat)))).set j (some y)) H (.v (f (y,k))))
 (hz:xs.length<sizeLine)(hm:X.mg "enumerate"=none)(hN:X.N.Nodup)(hi:X.N[i]? =some n:=by rfl)(hj:X.N[j]? =some x:=by rfl)(hn:∀cl C,L2.Loc (compEnvC scope cl C X.env).scope n:=by exact λ_ _=>Or.inl rfl)(hx:∀cl C,L2.Loc (compEnvC scope cl C X.env).scope x:=by exact λ_ _=>Or.inl rfl)(ok:mK X.N X.env.scope scope [(n,i),(x,j)]:=by exact kX rfl)
 (SG:∀(s:Shared)(H0:Hp)(C:Addr)(cl:List (Str×Addr))(fp:List Addr),(X.iN s H0 scope (compEnvC scope cl C X.env) fp).fn n=true\/(X.iN s H0 scope (compEnvC scope cl C X.env) fp).env.scope.names.lookup n=some .local:=by exact λ_ _ _ _ _=>Or.inr rfl)
 (hfx:∀(s:Shared)(H0:Hp)(C:Addr)(cl:List (Str×Addr))(fp:List Addr),(X.iN s H0 scope (compEnvC scope cl C X.env) fp).fn x=true\/(X.iN s H0 scope (compEnvC scope cl C X.env) fp).env.scope.names.lookup x=some .local:=by exact λ_ _ _ _ _=>Or.inr rfl)
 (hU:starEach [iter] X.env= [(false,eval iter X.env)]:=by rfl)(hg:Gl X "enumerate":=by rfl)(hc:X.calm=true:=by rfl)(hs:∀x,foldedSetIterable (.Call (.Name "enumerate" ep) [iter] [] cp) X.env x=pure x:=by intro _;rfl):
 E X (.ListComp elt [⟨.Tuple [.Name n np,.Name x xp] kk mG,.Call (.Name "enumerate" ep) [iter] [] cp,ifs,0⟩] scope pos) σ H (.n ((xs.zipIdx.filter p).map f)):=λH1 S1 Q hQ=>by
 refine aY (D0 (own:= [(n,i),(x,j)]) (tt:=Y5 xs σ i j p H) (te:=Y6 xs σ i j p f H) (g:=O1 X.K 2 (za (gn i) (za (gn j) O0))) hc hN (LH hg hm (bJ az du hU) hU) ok
  (λs H0 C cl fp=>O2 (X:=X.iN s H0 scope (compEnvC scope cl C X.env) fp) (n:=2) hc (zb (fK (X:=X.iN s H0 scope (compEnvC scope cl C X.env) fp) (i:=i) hN hi (hn cl C) (SG s H0 C cl fp)) (zb (fK (X:=X.iN s H0 scope (compEnvC scope cl C X.env) fp) (i:=j) hN hj (hx cl C) (hfx s H0 C cl fp)) K6)))
  (λs H0 C cl fp ag s1 τ H' Q' I ⟨y,k,hy,qk,SH,hq⟩=> ?_) (λs H0 C cl fp ag s1 τ H' Q' I ⟨y,k,hy,py,qk,SH,hq⟩=> ?_) hs) ?_
 ·subst qk
  exact ht y k hy s H0 C cl fp H' SH _ (λH2 S2=>hq H2 S2) ag s1 I
 ·subst qk
  exact he y k hy py s H0 C cl fp H' SH _ (λv H2 S2 ov=>by
   have ev:v=f (y,k):=ov
   subst ev
   exact hq H2 S2) ag s1 I
 ·refine hl H1 S1 _ λv H2 S2 ⟨q,ep,hq⟩=>⟨q,xs,by rw[ep],hq,λD hD=> ?_⟩
  refine L4 (K:=X.K) (a:=q) (xs:=xs) (g:=O1 X.K 2 (za (gn i) (za (gn j) O0))) (tt:=Y5 xs σ i j p H) (te:=Y6 xs σ i j p f H) (vs:= [i,j]) (σ:=σ) (Qd:=λH'=>Q (.ref D) H') (λk H'=>au H2 H'/\H' D=some (.lst (((xs.take k).zipIdx.filter p).map f))) ⟨au.upd hD,ak⟩ (λk H' _ ⟨S3,_⟩=>S3.seq hq) (λk y H' T hy ⟨S3,hd⟩ hT=> ?_) (λH' ⟨S3,hd⟩=> ?_)
  ·have ST:au H' (L2.upd H' T (.tup [.int (k:Nat),y])):=au.upd hT
   refine⟨T,_,rfl,pZ.of ak,rfl,_,_,rfl,_,_,rfl,rfl,?_,y,k,hy,rfl,((S1.trans S2).trans S3).trans ST,λH4 S4=> ?_⟩
   ·show wipe (((wipe σ [i,j]).set i (some (V.int (k:Nat)))).set j (some y)) [i,j]=wipe σ [i,j]
    simp only[wipe,List.set_set]
    rw[List.set_comm _ _ hij,List.set_set]
    simp only[List.set_set]
   ·have S5:=S3.trans (ST.trans S4)
    by_cases py:p (y,k)=true
    ·dsimp only
     rw[if_pos py]
     refine⟨y,k,hy,py,rfl,(S1.trans S2).trans S5,λH5 S6=>⟨_,S6 _ _ (S4 _ _ (ST _ _ hd)),?_,λb o e=> ?_,?_⟩⟩
     ·refine Nat.lt_of_le_of_lt ?_ hz
      rw[List.length_map]
      refine Nat.le_trans (List.length_filter_le _ _) ?_
      rw[List.length_zipIdx,List.length_take]
      omega
     ·rw[aj (aE e hD)]
      exact S6 _ _ (S5 _ _ e)
     ·rw[ak,zV hy,cR,if_pos py,List.map_append]
      rfl
    ·dsimp only
     rw[if_neg py]
     refine⟨S5,?_⟩
     rw[zV hy,cR,if_neg py]
     exact S4 _ _ (ST _ _ hd)
  ·rw[List.take_length] at hd
   exact hQ _ _ (S2.trans S3) ⟨D,rfl,hd⟩
end
structure Cal(P:Program)(w:World)(K:W.Frag)(mg:Str->Option Value)(ae:Heap)(x:Str)(k:Nat)(R:Pre):Prop where
 ex:∃(f:Addr)(fd:FuncData)(ps:List Str),bD P w K mg ae eT k f fd ps (Y4 K R)/\mg x=some (.ref f)/\W.keepIn K (.ref f)=true/\Binds K fd ps []
 up:R.Up
section
variable{P:Program}{w:World}{K:W.Frag}{mg:Str->Option Value}{ae:Heap}
theorem Cal.at{X:Cx}{x:Str}{k j:Nat}{R:Pre}(C:Cal X.prog X.w X.K X.mg X.ae x k R)(hr:dC j X.A)(h:k<=j:=by decide):Def X x R:=by
 obtain⟨f,fd,ps,F,hm,hk,hb⟩:=C.ex
 exact⟨⟨k,f,fd,ps,F,hr.mono h,hm,hk,hb⟩,C.up⟩
abbrev bx(P:Program)(w:World)(K:W.Frag)(mg:Str->Option Value)(ae:Heap)(N:List Str)(x:Str)(st:Stmt)(f:Addr)(aK:Value)(A:Around)(aq:List Env)(s:Shared)(H:Hp)(E:XK):Cx:=(Bt eT P w K mg ae N x (ah st) f aK A aq s H E).SV
theorem Ei{H:Hp}{l:List Sh}{ys:List V}(h:dv K H l ys):l.length=ys.length:=Paired.length h
theorem Cal.of{x:Str}{st:Stmt}{f:Addr}{fd:FuncData}{N ps:List Str}{k:Nat}{R:Pre}(F:jq K x x st f fd)(hm:mg x=some (.ref f))(b:Binds K fd ps [])(Sc:ao N ps (ah st))(up:R.Up)(len:∀H l z,R H l z->l.length=ps.length)
 (body:∀(aK:Value)(A:Around)(aq:List Env)(s:Shared)(H:Hp)(E:XK)(l:List Sh)(z:Sh)(ys:List V),dC k (A.deeper (envOfC x (ah st) s.heap.objs.size f aK))->dv K H l ys->R H l z->
   S (bx P w K mg ae N x st f aK A aq s H E) (bL st) (start N ys) H z):Cal P w K mg ae x (k+1) R:=by
 refine⟨⟨f,fd,ps,F.ok Sc (λvs H Q E h=> ?_) (λaK A aq s H vs Q E hr h=> ?_),hm,F.kp,b⟩,up⟩
 ·obtain⟨l,z,os,hR,_⟩:=h
  rw[<-Ei os]
  exact len H l z hR
 ·obtain⟨l,z,os,hR,hQ⟩:=h
  exact⟨_,aD,body aK A aq s H E l z vs hr os hR H (au.refl _) _ λv H2 S2 ov=>hQ v H2 S2 ov⟩
end
section
variable{X:Cx}{σ:L2.St}{H:Hp}
theorem L5{α:Type}{iter:Expr}(i:Nat){L:List α}(g:α->V)(p:α->Bool)(f:α->V)(hl:E X iter σ H (.l (L.map g)))(hz:L.length<sizeLine){H1:Hp}(S1:au H H1){Q:VK}(hQ:∀v H2,au H1 H2->(Sh.n ((L.filter p).map f)).ok X.K v H2->Q v H2):
 RL (NQ X.K (se X iter)) (gn i) (KY L g σ i p H) (KZ L g σ i p f H) [i] σ H1 Q:=by
 refine hl H1 S1 _ λv H2 S2 ⟨q,ep,hq⟩=>⟨q,ep,⟨_,hq⟩,λD hD=> ?_⟩
 refine D1 (K:=X.K) (a:=q) (xs:=L.map g) (g:=gn i) (tt:=KY L g σ i p H) (te:=KZ L g σ i p f H) (vs:= [i]) (σ:=σ) (Qd:=λH'=>Q (.ref D) H') (λk H'=>au H2 H'/\H' D=some (.lst (((L.take k).filter p).map f))) ⟨au.upd hD,ak⟩ (λk H' _ ⟨S3,_⟩=>S3.seq hq) (λk z H' Bg ⟨S3,hd⟩=> ?_) (λH' ⟨S3,hd⟩=> ?_)
 ·rw[List.getElem?_map] at Bg
  cases hy:L[k]? with
  |none=>
   rw[hy] at Bg
   cases Bg
  |some y=>
   rw[hy] at Bg
   have ez:g y=z:=Option.some.inj Bg
   subst ez
   have my:=List.mem_of_getElem? hy
   refine⟨?_,y,my,rfl,(S1.trans S2).trans S3,λH4 S4=> ?_⟩
   ·show wipe ((wipe σ [i]).set i (some (g y))) [i]=wipe σ [i]
    simp[wipe]
   ·by_cases py:p y=true
    ·dsimp only
     rw[if_pos py]
     refine⟨y,my,py,rfl,((S1.trans S2).trans S3).trans S4,λH5 S5=>⟨_,S5 _ _ (S4 _ _ hd),Nat.lt_of_le_of_lt (IL p f L k) hz,λb o e=> ?_,?_⟩⟩
     ·rw[aj (aE e hD)]
      exact S5 _ _ (S4 _ _ (S3 _ _ e))
     ·rw[ak,cO hy,cR,if_pos py,List.map_append]
      rfl
    ·dsimp only
     rw[if_neg py]
     refine⟨S3.trans S4,?_⟩
     rw[cO hy,cR,if_neg py]
     exact S4 _ _ hd
 ·rw[List.length_map,List.take_length] at hd
  exact hQ _ _ (S2.trans S3) ⟨D,rfl,hd⟩
theorem Xy{α:Type}{elt iter:Expr}{ifs:List Expr}{scope:Scope}{pos mG py HR:PySem.Pos}{x y:Str}{rest:List Stmt}{sh:Sh}(j i:Nat){L:List α}(g:α->V)(p:α->Bool)(f:α->V)(hl:E X iter σ H (.l (L.map g)))
 (ht:∀y,y∈L->∀(s:Shared)(H0:Hp)(C:Addr)(cl:List (Str×Addr))(fp:List Addr),Ts (X.iN s H0 scope (compEnvC scope cl C X.env) fp) ifs ((wipe σ [i]).set i (some (g y))) H (p y))
 (he:∀y,y∈L->p y=true->∀(s:Shared)(H0:Hp)(C:Addr)(cl:List (Str×Addr))(fp:List Addr),E (X.iN s H0 scope (compEnvC scope cl C X.env) fp) elt ((wipe σ [i]).set i (some (g y))) H (.v (f y)))
 (h':∀a H',au H H'->H' a=some (.lst ((L.filter p).map f))->S X rest (σ.set j (some (.ref a))) H' sh)(hz:L.length<sizeLine)(hN:X.N.Nodup)(hj:X.N[j]? =some y:=by rfl)(Vi:X.env.scope.names.lookup y=some .local:=by rfl)
 (W0:swapsWith (.ListComp elt [⟨.Name x mG,iter,ifs,0⟩] scope pos) (some (.Name y py)) HR.line X.env=pure true:=by exact LC rfl rfl rfl rfl)
 (hi:X.N[i]? =some x:=by rfl)(hx:∀cl C,L2.Loc (compEnvC scope cl C X.env).scope x:=by exact λ_ _=>Or.inl rfl)(ok:mK X.N X.env.scope scope [(x,i)]:=by exact kX rfl)
 (hf:∀(s:Shared)(H0:Hp)(C:Addr)(cl:List (Str×Addr))(fp:List Addr),(X.iN s H0 scope (compEnvC scope cl C X.env) fp).fn x=true\/(X.iN s H0 scope (compEnvC scope cl C X.env) fp).env.scope.names.lookup x=some .local:=by exact λ_ _ _ _ _=>Or.inr rfl)
 (hc:X.calm=true:=by rfl)(hs:∀x,foldedSetIterable iter X.env x=pure x:=by intro _;rfl):
 S X (.Assign [.Name y py] (.ListComp elt [⟨.Name x mG,iter,ifs,0⟩] scope pos) HR::rest) σ H sh:=λH1 S1 D hD=>by
 refine cQ (aU (HQ (i:=j) (own:= [(x,i)]) (tt:=KY L g σ i p H) (te:=KZ L g σ i p f H) hc hN hj Vi W0 (sN az) ok (λs H0 C cl fp=>fK (i:=i) hN hi (hx cl C) (hf s H0 C cl fp))
  (λs H0 C cl fp ag s1 τ H' Q' I ⟨y,hy,qk,SH,hq⟩=> ?_) (λs H0 C cl fp ag s1 τ H' Q' I ⟨y,hy,py,qk,SH,hq⟩=> ?_) hs) aD) ?_
 ·subst qk
  exact ht y hy s H0 C cl fp H' SH _ (λH2 S2=>hq H2 S2) ag s1 I
 ·subst qk
  exact he y hy py s H0 C cl fp H' SH _ (λv H2 S2 ov=>by
   have ev:v=f y:=ov
   subst ev
   exact hq H2 S2) ag s1 I
 ·refine L5 (Q:=λv H2=>sb X rest D (σ.set j (some v)) H2) i g p f hl hz S1 λv H2 S2 ov=> ?_
  ·obtain⟨a,ea,ha⟩:=ov
   subst ea
   exact h' a H2 (S1.trans S2) ha H2 (au.refl _) D λv H3 S3 ov=>hD v H3 (S2.trans S3) ov
end
section
variable{X:Cx}{σ:L2.St}{H:Hp}{a lo hi:Expr}{pos p2:PySem.Pos}
theorem xF(xs:List V)(i j:Nat):va xs (some (i:Int)) (some (j:Int))=(xs.drop i).take (j - i):=by
 unfold va
 rw[HT.sO,HT.sO]
 by_cases h:i<=xs.length
 ·rw[show min i xs.length=i by omega]
  by_cases h2:j<=xs.length
  ·rw[show min j xs.length=j by omega]
  ·rw[show min j xs.length=xs.length by omega,List.take_of_length_le (by rw[List.length_drop];exact Nat.le_refl _),List.take_of_length_le (by rw[List.length_drop];omega)]
 ·rw[show min i xs.length=xs.length by omega,List.drop_length,List.drop_of_length_le (by omega),List.take_nil,List.take_nil]
theorem E.Xz{e:Expr}{p:Addr}{xs:List V}(h:E X e σ H (.v (.ref p)))(q:pZ X.K H p xs):E X e σ H (.t xs):=λH1 S1 Q hQ=>h H1 S1 Q λv H2 S2 r=>hQ v H2 S2 ⟨p,r,au.tup (S1.trans S2) q⟩
end
end Ev
namespace Nn
open PySem PySem.Spec PyProof.Rows L2
structure Plain(K:W.Frag)(C:Addr):Prop where
 eq:W.findIn K (.ref C) "__eq__"=some (some (.builtin "object.__eq__"))
 ob:W.mroIn K C (.type "object")=some true
 sub:W.subIn K (.type "NoneType") (.ref C)=some false
section
variable{prog:Program}{w:World}{A:Around}{E:Value->Shared->Prop}{s:Shared}{K:W.Frag}{x C:Addr}{ox:Obj}{od:Option Obj}
theorem Qh{M:Model}{Q:Fin->Shared->Prop}(hq:Q (.done (.ret .notImplemented)) s):wpAny M A (Builtin.«object.__eq__» ⟨[.ref x,.none], []⟩) Q E s:=by
 unfold Builtin.«object.__eq__»
 repeat (first|with_reducible refine wpAny_of_eq (rfl:isSame (.ref x) .none=pure false) ?_|wp_step)
 exact hq
theorem Qi{Q:Value->Shared->Prop}(X:K.In s.heap)(I:W.InstAt s.heap x ox C od)(p:Plain K C)(h:Q .notImplemented s):wpAny (model prog w) A (call (.builtin "object.__eq__") [.ref x,.none]) Q E s:=
 wpAny_call (codeAny_call_builtin PySem.F.cmp_object.eq.plain PySem.F.cmpEntry_eq (W.check_slot (i:="object.__eq__") (owner:="object") (n:="__eq__") PySem.F.cmpKind_eq PySem.F.cmpSplit_eq (I.type.andThen (W.looks_mroIn X p.ob)) (PySem.F.cmpArgs_eq _ _) (Qh h)))
theorem L6{M:Model}{args:List Value}{Q:Option Value->Shared->Prop}(X:K.In s.heap)(I:W.InstAt s.heap x ox C od)(p:Plain K C)
 (h:wpAny M A (call (.builtin "object.__eq__") (.ref x::args)) (λv=>Q (some v)) E s):wpAny M A (callSpecialIfBound? (.ref x) "__eq__" args) Q E s:=by
 simp only[callSpecialIfBound?,bindSpecialIfBound?]
 refine wpAny_holding (wpAny_bind (wpAny_bind (wpAny_bind (I.type.here ((W.looks_findIn X p.eq).here ?_)))))
 refine wpAny_bind (wpAny_askSetting (wpAny_ite ?_))
 have fin:wpAny M A (do let v <-call (.builtin "object.__eq__") ([.ref x]++args);pure (some v)) Q E s:=wpAny_bind (wpAny_mono h (λv s' h'=>wpAny_pure h') λ_ _ h'=>h')
 split
 ·exact wpAny_bind ((W.Looks.of_pure (PySem.F.cmp_object.eq.bind _)).here (wpAny_pure (by exact fin)))
 ·exact wpAny_tryCatch (wpAny_bind ((W.Looks.of_pure (PySem.F.cmp_object.eq.bind _)).here (wpAny_pure (by exact fin))))
theorem tryInst{Q:Option Value->Shared->Prop}(X:K.In s.heap)(I:W.InstAt s.heap x ox C od)(p:Plain K C)(h:Q none s):wpAny (model prog w) A (tryCompare (.ref x) "__eq__" .none) Q E s:=by
 unfold tryCompare
 exact wpAny_bind (L6 X I p (Qi X I p (wpAny_pure h)))
theorem Qj(X:K.In s.heap)(I:W.InstAt s.heap x ox C od)(p:Plain K C)(hu:A.units<cLine):SeqAt.RcAt A s (.ref x) .none false:=λprog w E Q h=>by
 unfold richCompare
 simp only[PySem.oneThing_ref,PySem.cmpInfo_Eq]
 refine wpAny_holding (wpAny_bind (wpAny_cRoomFor hu ?_))
 refine wpAny_bind (I.type.here (wpAny_bind (m:=typeOf .none) (wpAny_of_eq rfl ?_)))
 rw[if_pos (by rfl)]
 refine wpAny_bind ((W.looks_subIn X p.sub).here ?_)
 simp only[Bool.false_eq_true,if_false,Bool.not_false,if_true]
 refine wpAny_bind (m:=tryCompare (.ref x) _ .none) (tryInst X I p ?_)
 refine wpAny_bind (m:=tryCompare .none _ (.ref x)) (wpAny_tryCompare_declines (T:="NoneType") rfl PySem.F.slot_NoneType_eq_refl (call_gives PySem.F.slot_NoneType_eq_refl rfl PySem.F.entry_NoneType_eq (PySem.F.args_NoneType_eq_2 _ _) (PySem.SeqAt.NoneType___eq___none_ref_0 x) ⟨rfl,?_⟩))
 exact wpAny_bind (wpAny_rule (wpAny_bind (wpAny_of_eq (rfl:isSame (.ref x) .none=pure false) (wpAny_pure h))))
theorem Qk(X:K.In s.heap)(I:W.InstAt s.heap x ox C od)(p:Plain K C)(hu:A.units<cLine):SeqAt.EqAt A s (.ref x) .none false:=λprog w E Q h=>by
 unfold eqBool
 refine wpAny_holding ?_
 refine wpAny_ite_split (λhab=>absurd (eq_of_beq hab) nofun) (λ_=> ?_)
 exact wpAny_bind (Qj X I p hu prog w E _ (wpAny_truthy_bool h))
end
def RP(K:W.Frag)(H:Hp)(y:V):Prop:=y=.non\/∃a C dx fs,y=.ref a/\H a=some (.ins C dx fs)/\Plain K C
def Ql:Value->Bool
 | .none=>true
 |_=>false
def vN(y:V):Bool:=decide (y=.non)
section
variable{X:Cx}{ag:List (Addr×Obj)}{σ:L2.St}{H:Hp}{s:Shared}
theorem BX{y:V}{u:Value}(r:RelV y u):Ql u=vN y:=by
 cases y with
 |non=>cases r;rfl
 |bl _=>cases r;rfl
 |int _=>obtain⟨t,rfl⟩:=r;rfl
 |str _=>obtain⟨t,rfl⟩:=r;rfl
 |y2 _=>obtain⟨t,rfl⟩:=r;rfl
 |Sl _=>obtain⟨t,rfl⟩:=r;rfl
 |ref _=>cases r;rfl
 |ty _=>cases r;rfl
theorem xG{A:Around}(I:Inv X ag σ H s)(hu:A.units<cLine):∀{xs:List V}{us:List Value},Vals xs us->(∀y∈xs,RP X.K H y)->∀u∈us,SeqAt.EqAt A s u .none (Ql u)
 |_,_,.nil,_=>λu hu=>by cases hu
 |y::xs,u::us,.cons r t,f=>λu' Ha=>by
  rcases List.mem_cons.mp Ha with e|Ha
  ·subst e
   rcases f y List.mem_cons_self with e|⟨a,C,dx,fs,e,ha,p⟩
   ·subst e
    cases r
    exact SeqAt.EqAt.same _
   ·subst e
    cases r
    obtain⟨mA,O,_⟩:=wV I.cW ha
    obtain⟨od,J,_⟩:=O.look
    exact Qk I.E8 J p hu
  ·exact xG I hu t (λz hz=>f z (List.mem_cons_of_mem _ hz)) u' Ha
theorem any_none:∀{xs:List V}{us:List Value},Vals xs us->us.any Ql=xs.any vN
 |_,_,.nil=>rfl
 |_,_,.cons r t=>by rw[List.any_cons,List.any_cons,BX r,any_none t]
def XA(K:W.Frag)(neg:Bool):R2:=λx y H Q=>∃p xs,x=.non/\y=.ref p/\aF K H p xs/\(∀z∈xs,RP K H z)/\Q (.bl (if neg then !xs.any vN else xs.any vN)) H
theorem FW(hu:X.A.units+64<cLine):oq X (compareOp .NotIn) (XA X.K true):=by
 intro ag s σ H x y v u Q I rx ry h
 obtain⟨p,xs,rfl,rfl,hq,f,q⟩:=h
 cases rx
 cases ry
 obtain⟨its,r,pl,hz⟩:=I.list hq
 refine SeqAt.notIn_listAt Ql pl.isList (λw hw=>xG I (by show X.A.units+1<cLine;omega) r f w (by simpa using hw)) ⟨.bl _,H,I,rfl,?_⟩
 rw[show its.toArray.any Ql=its.any Ql by simp,any_none r]
 exact q
def L7(K:W.Frag):V->List V->Hp->VK->Prop:=λx xs H Q=>∃(a:Addr)(ys:List V)(j:Nat),x=V.ref a/\xs= [.non]/\aF K H a ys/\(∀z∈ys,RP K H z)/\ys[j]? =some .non/\(∀(m:Nat)(z:V),m<j->ys[m]? =some z->z≠.non)/\Q (.int (j:Nat)) H
theorem FX(hu:X.A.units+64<cLine):HD X "list.index" (L7 X.K):=by
 intro ag s σ H x xs v us Q I rx WC h
 obtain⟨a,ys,j,rfl,rfl,hs,f,hz,By,q⟩:=h
 cases rx
 cases WC with
 |cons ry rt=>
  cases rt
  cases ry
  obtain⟨its,rv,⟨⟨cls,dd,data,sl⟩,n,ho,hc,Ls,hd⟩,hlen⟩:=I.list hs
  simp only at hc hd
  subst hc hd
  obtain⟨u,Ha,ru⟩:=rv.get hz
  obtain⟨RH,WG⟩:=List.getElem?_eq_some_iff.mp Ha
  have Z5:=rv.length
  have hj:j<its.toArray.size:=by simpa using RH
  have NZ:=sizeLine_eq
  refine call_meets PySem.F.slot_list_index ⟨_,ho,rfl⟩ PySem.F.entry_list_index (PySem.F.args_list_index_2 _ _)
   (SeqAt.list_indexAt a its.toArray n dd sl .none Ql j hj (by omega) ?_ ?_) ⟨ho,λu' TV=>xG I ?_ rv f u' (by simpa using TV),?_⟩
  ·have e1:its.toArray[j]=u:=by simpa using WG
   rw[e1,BX ru]
   rfl
  ·intro m hm TQ
   have Z6:m<its.length:=by simpa using hm
   have WH:m<ys.length:=by omega
   have pY:ys[m]? =some ys[m]:=List.getElem?_eq_getElem WH
   obtain⟨u2,TV,WK⟩:=rv.get pY
   obtain⟨_,WL⟩:=List.getElem?_eq_some_iff.mp TV
   have e1:its.toArray[m]=u2:=by simpa using WL
   rw[e1,BX WK]
   exact decide_eq_false (By m _ TQ pY)
  ·first
    | (show X.A.units+1<cLine;omega)
    | (show X.A.units+2<cLine;omega)
    | (show X.A.units+1+1<cLine;omega)
  ·exact⟨.int (j:Nat),H,I.tok _,⟨_,rfl⟩,q⟩
end
def Y8(i:Int):Value->Bool
 | .int k _=>k==i
 |_=>false
theorem qm{α β:Type}(f:α->β):∀(l:List α)(j:Nat),(l.map f).eraseIdx j=(l.eraseIdx j).map f
 | [],_=>rfl
 |_::_,0=>rfl
 |a::l,j+1=>by
  show f a::(l.map f).eraseIdx j=f a::(l.eraseIdx j).map f
  rw[qm f l j]
section
variable{X:Cx}
def L8:V->List V->Hp->VK->Prop:=λx vs H Q=>∃(l:Addr)(ns:List Int)(i:Int)(j:Nat),x=.ref l/\vs= [.int i]/\H l=some (.lst (ns.map V.int))/\ns[j]? =some i/\(∀m,m<j->ns[m]?≠some i)/\Q .non (upd H l (.lst ((ns.eraseIdx j).map V.int)))
theorem ints_get{ns:List Int}{its:List Value}(r:Vals (ns.map V.int) its){m:Nat}{u:Value}(h:its[m]? =some u):∃k t,ns[m]? =some k/\u=.int k t:=by
 have hl:=r.length
 rw[List.length_map] at hl
 obtain⟨hm,_⟩:=List.getElem?_eq_some_iff.mp h
 have hn:ns[m]? =some ns[m]:=List.getElem?_eq_getElem (by omega)
 obtain⟨u',Ha,ru⟩:=r.get (i:=m) (x:=.int ns[m]) (by rw[List.getElem?_map,hn];rfl)
 rw[h] at Ha
 cases Ha
 obtain⟨t,e⟩:=ru
 exact⟨_,t,hn,e⟩
theorem FY:Ve X "list.remove" L8:=by
 intro ag s σ H x vs v us Q I rx rv h
 obtain⟨l,ns,i,j,rfl,rfl,hH,hj,By,q⟩:=h
 cases rx
 obtain⟨u,rfl,ru⟩:=rv.one
 obtain⟨t,rfl⟩:=ru
 obtain⟨z,its,n,r,hl,e⟩:=I.zo hH
 have hlen:its.length=ns.length:=by rw[<-hl,List.length_map]
 have RH:j<ns.length:=(List.getElem?_eq_some_iff.mp hj).1
 have hja:j<its.toArray.size:=by simpa [hlen] using RH
 refine call_meets F.slot_list_remove ⟨_,e,rfl⟩ F.entry_list_remove (F.args_list_remove_2 _ _)
  (MeetsSeq.list_remove l its.toArray n (.int i t) (Y8 i) (λy hy=> ?_) j hja ?_ ?_) ⟨e,?_⟩
 ·obtain⟨m,hm⟩:=List.getElem?_of_mem (show y∈its by simpa using hy)
  obtain⟨k,t',_,rfl⟩:=ints_get r hm
  exact MeetsSeq.EqGives.int k i t' t
 ·have hu:its[j]? =some its.toArray[j]:=by simp
  obtain⟨k,t',hk,eu⟩:=ints_get r hu
  rw[eu]
  rw[hj] at hk
  cases hk
  simp[Y8]
 ·intro m hm TQ
  have hu:its[m]? =some its.toArray[m]:=by simp
  obtain⟨k,t',hk,eu⟩:=ints_get r hu
  rw[eu]
  show(k==i)=false
  refine beq_eq_false_iff_ne.mpr λz=>By m TQ ?_
  rw[hk,z]
 ·refine⟨.non,_,I.Lk (ys:=(ns.eraseIdx j).map V.int) (its':=its.eraseIdx j) hH e ?_ ?_ ?_,rfl,q⟩
  ·first
    | (rw[List.eraseIdxIfInBounds_toArray])
    |simp
  ·have:=r.eraseIdx j
   rw[qm] at this
   exact this
  ·rw[List.length_map]
   have:=vS ns j
   rw[List.length_map] at z
   omega
end
end Nn
namespace Ev
open PySem PySem.Spec PyProof.Rows L2
theorem xH{K:W.Frag}{H:Hp}:∀ns:List Int,tM K H (ns.map V.int) (ns.map PyData.int)
 | []=>.nil
 |n::r=>.cons (.int n) (xH r)
theorem lay_ints:∀ns:List Int,PyData.canLayAll0 (ns.map PyData.int)=true
 | []=>rfl
 |n::r=>by
  show(true&&PyData.canLayAll0 (r.map PyData.int))=true
  rw[lay_ints r]
  rfl
theorem tZ:∀ns:List Int,PyData.depthAll (ns.map PyData.int)<=1
 | []=>by simp[PyData.depthAll]
 |n::r=>by
  have:=tZ r
  simp only[List.map_cons,PyData.depthAll,PyData.depth]
  omega
theorem shaped_ints(ns:List Int):SeqAt.shaped (.list (ns.map PyData.int))=true:=by
 unfold SeqAt.shaped
 have h1:PyData.canLay0 (.list (ns.map PyData.int))=true:=lay_ints ns
 have h2:=tZ ns
 rw[h1]
 have h3:PyData.depth (.list (ns.map PyData.int))<=64:=by
  simp only[PyData.depth]
  omega
 simp[h3]
theorem XB{X:Cx}{H:Hp}{ns ms:List Int}(hu:X.A.units+64<cLine):Cm X .Eq H (.l (ns.map V.int)) (.l (ms.map V.int)) (decide (ns=ms)):=⟨_,PH hu,λ_ _ x y ⟨p,ep,hp⟩⟨q,eq,hq⟩ Q h=>by
 subst ep eq
 refine⟨.list (ns.map PyData.int),.list (ms.map PyData.int),.lst hp (xH ns),.lst hq (xH ms),shaped_ints ns,shaped_ints ms,?_⟩
 have e:PyData.eqv (.list (ns.map PyData.int)) (.list (ms.map PyData.int))=decide (ns=ms):=by
  simp only[PyData.eqv]
  exact W.ked_eqvAll ns ms
 rw[e]
 exact h⟩
end Ev
namespace Mu
open PySem
def consts:List (Str×Int):= [(("STORE":Str),0),(("HALL":Str),1),(("AWAY":Str),3),(("LAST_DAY":Str),2000),(("MOST_PLACES":Str),12),(("MOST_ROOM":Str),24),(("MOST_UNITS":Str),10000),(("MOST_THINGS":Str),24),(("MOST_LETTERS":Str),8),(("MOST_MATERIAL":Str),7),(("MOST_LIMIT":Str),1000000),(("MOST_HARM":Str),5),(("HARM_BAD_FOR_HALL":Str),3),(("MOST_SHOWS":Str),6),(("MOST_ENTRIES":Str),400),(("ENTRY_NUMBERS":Str),13),(("MOST_BYTES":Str),120),(("MOST_DIGITS":Str),7),(("START":Str),0),(("PLACE":Str),1),(("LIGHT_layout":Str),2),(("THING":Str),3),(("MOVE":Str),4),(("DAY":Str),5),(("HARM_layout":Str),6),(("LEND":Str),7),(("HOME":Str),8),(("SHOW":Str),9),(("BOOK":Str),10),(("UNBOOK":Str),11),(("HANG":Str),12),(("DOWN":Str),13),(("CANCEL":Str),14),(("WHERE":Str),15),(("DOSE":Str),16),(("UNTIL":Str),17),(("INSIDE":Str),18),(("OVERDUE":Str),19),(("MUST":Str),20),(("FIND":Str),21),(("WRITE":Str),22),(("ENTRY":Str),23),(("NOT_REFUSED":Str),0),(("NO_SUCH":Str),-2),(("NOT_SO":Str),-6),(("NO_ROOM":Str),-12),(("NOT_THE_TIME":Str),-13),(("IS_HUNG":Str),-15),(("TAKEN":Str),-16),(("ALREADY":Str),-17),(("WRONG":Str),-22),(("TOO_MANY":Str),-28),(("TOO_MUCH_LIGHT":Str),-33),(("HARMED":Str),-61),(("NO_QUESTION":Str),-71),(("LOG_FULL":Str),-75),(("TOO_LONG":Str),-75),(("LETTER_A":Str),97),(("LETTER_Z":Str),122)]
open PySem PySem.Spec PyProof.Rows L2 Ev
open Km383 (House Book)
def top(i:Nat):Stmt:=PySem.Challenge.pw_museumhouse_s01_answers.main.body.getD i (.Pass ⟨0,0,0,0⟩)
def nV(n:Nat):V:=.int n
def Qm(h:House)(p:Nat):V:=if p=0 then .non else .int (h.place p).up
def dW(h:House)(p:Nat):List (Str×V):= [("up",Qm h p),("kind",.int (h.place p).kind),("room",.int (h.place p).room),("light",.int (h.lightOn p h.today))]
def Ej:Option Nat->V
 |none=>.non
 |some b=>.int b
def bz(h:House)(t:Nat)(nl ll sl:Addr):List (Str×V):= [("name",.ref nl),("material",.int (h.thing t).material),("limit",.int (h.thing t).limit),("harm",.int (h.thing t).harm),("came",.int (h.thing t).came),("place",.int (h.here t)),("back",Ej (h.thing t).back),("stays",.ref sl),("lights",.ref ll)]
def iu(s:Km383.Show)(bl:Addr):List (Str×V):= [("hall",.int s.place),("first",.int s.first),("over",.int s.end_),("hung",.bl s.hung),("booked",.ref bl)]
def sU(h:House)(lp lt ls le:Addr):List (Str×V):= [("today",.int h.today),("places",.ref lp),("things",.ref lt),("shows",.ref ls),("entries",.ref le)]
def aC(h:House)(t:Nat):List Nat:=(List.range (h.today - (h.thing t).came+1)).map λk=>h.dose t ((h.thing t).came+k)
def a6(h:House)(t:Nat):List Nat:=(List.range (h.today - (h.thing t).came)).map λk=>(h.where_ t ((h.thing t).came+k)).getD 0
theorem jC{h g:House}{i:Nat}(ht:g.today=h.today)(hc:(g.thing i).came=(h.thing i).came)(hw:∀d,d<h.today->g.where_ i d=h.where_ i d):a6 g i=a6 h i:=by
 unfold a6
 rw[ht,hc]
 apply List.map_congr_left
 intro k hk
 rw[List.mem_range] at hk
 rw[hw _ (by omega)]
structure Tx(K:W.Frag)(CM CP CT CS:Addr):Prop where
 m:wW K CM
 mf:∀f∈(["today","places","things","shows","entries"]:List Str),bX K CM f
 p:wW K CP
 pf:∀f∈(["up","kind","room","light"]:List Str),bX K CP f
 t:wW K CT
 tf:∀f∈(["name","material","limit","harm","came","place","back","stays","lights"]:List Str),bX K CT f
 s:wW K CS
 sf:∀f∈(["hall","first","over","hung","booked"]:List Str),bX K CS f
 sp:Nn.Plain K CS
 ip:W.nsIn K mainGlobals "Place"=some (some (.ref CP))
 it:W.nsIn K mainGlobals "Thing"=some (some (.ref CT))
 is:W.nsIn K mainGlobals "Show"=some (some (.ref CS))
structure aQ where
 lp:Addr
 lt:Addr
 ls:Addr
 le:Addr
 pa:List Addr
 ta:List (Addr×Addr×Addr×Addr)
 sa:List (Option (Addr×Addr))
 ea:List Addr
def cJ:Option (Addr×Addr)->V
 |none=>.non
 |some a=>.ref a.1
inductive Spot where
 |mu|lp|lt|ls|le
 |pl (i:Nat)|th (i:Nat)|nm (i:Nat)|li (i:Nat)|st (i:Nat)|sh (i:Nat)|bk (i:Nat)|en (i:Nat)
 deriving DecidableEq
def aQ.at(m:Addr)(A:aQ):Spot->Option Addr
 | .mu=>some m
 | .lp=>some A.lp
 | .lt=>some A.lt
 | .ls=>some A.ls
 | .le=>some A.le
 | .pl i=>A.pa[i]?
 | .th i=>A.ta[i]?.map (·.1)
 | .nm i=>A.ta[i]?.map (·.2.1)
 | .li i=>A.ta[i]?.map (·.2.2.1)
 | .st i=>A.ta[i]?.map (·.2.2.2)
 | .sh i=>(A.sa.getD i none).map (·.1)
 | .bk i=>(A.sa.getD i none).map (·.2)
 | .en i=>A.ea[i]?
inductive cK where
 |ins (C:Addr) (fs:List (Str×V))
 |lst (xs:List V)
def cK.holds(H:Hp)(a:Addr):cK->Prop
 | .ins C fs=>∃dx,H a=some (.ins C dx fs)
 | .lst xs=>H a=some (.lst xs)
theorem cK.up{H H':Hp}(S:au H H'){a:Addr}:∀{e:cK},e.holds H a->e.holds H' a
 | .ins _ _,⟨dx,h⟩=>⟨dx,S _ _ h⟩
 | .lst _,h=>S _ _ h
theorem cK.some{H:Hp}{a:Addr}:∀{e:cK},e.holds H a->∃o,H a=some o
 | .ins _ _,⟨dx,h⟩=>⟨_,h⟩
 | .lst _,h=>⟨_,h⟩
theorem cK.of{H H':Hp}{a:Addr}(q:H' a=H a):∀{e:cK},e.holds H a->e.holds H' a
 | .ins _ _,⟨dx,h⟩=>⟨dx,q.trans h⟩
 | .lst _,h=>q.trans h
structure Cs where
 m:Addr
 p:Addr
 t:Addr
 s:Addr
abbrev Book.show(b:Book)(e:Nat):Km383.Show:=House.aH b.house e
def dG(A:aQ)(t:Nat):Addr×Addr×Addr×Addr:=A.ta.getD t (0,0,0,0)
def exp(C:Cs)(b:Book)(A:aQ):Spot->cK
 | .mu=>.ins C.m (sU b.house A.lp A.lt A.ls A.le)
 | .lp=>.lst (A.pa.map .ref)
 | .lt=>.lst (A.ta.map λx=>.ref x.1)
 | .ls=>.lst (A.sa.map cJ)
 | .le=>.lst (A.ea.map .ref)
 | .pl i=>.ins C.p (dW b.house i)
 | .th i=>.ins C.t (bz b.house i (dG A i).2.1 (dG A i).2.2.1 (dG A i).2.2.2)
 | .nm i=>.lst ((b.house.thing i).name.map nV)
 | .li i=>.lst ((aC b.house i).map nV)
 | .st i=>.lst ((a6 b.house i).map nV)
 | .sh i=>.ins C.s (iu (Book.show b i) ((A.sa.getD i none).getD (0,0)).2)
 | .bk i=>.lst ((Book.show b i).things.map nV)
 | .en i=>.lst ((Km383.told (b.log.reverse.getD i (.day 0))).map nV)
structure d8(H:Hp)(C:Cs)(m:Addr)(b:Book)(A:aQ):Prop where
 ex:∀(P:Spot)(a:Addr),A.at m P=some a->(exp C b A P).holds H a
 inj:∀(P Q:Spot)(a:Addr),A.at m P=some a->A.at m Q=some a->P=Q
 np:A.pa.length=b.house.places.length
 nt:A.ta.length=b.house.things.length
 ns:A.sa.length=b.house.shows.length
 ne:A.ea.length=b.log.length
 so:∀e:Nat,(A.sa.getD e none).isSome=(b.house.show_ e).isSome
structure Rep(K:W.Frag)(H:Hp)(m:Addr)(b:Book)(A:aQ):Prop where
 ex:∃C:Cs,Tx K C.m C.p C.t C.s/\d8 H C m b A
 inv:cj b.house
 log:b.log.length<=400
theorem d8.up{H H':Hp}{C:Cs}{m:Addr}{b:Book}{A:aQ}(S:au H H')(R:d8 H C m b A):d8 H' C m b A:=⟨λP a h=>cK.up S (R.ex P a h),R.inj,R.np,R.nt,R.ns,R.ne,R.so⟩
theorem Rep.up{K:W.Frag}{H H':Hp}{m:Addr}{b:Book}{A:aQ}(S:au H H')(R:Rep K H m b A):Rep K H' m b A:=
 let⟨C,T,R'⟩:=R.ex
 ⟨⟨C,T,R'.up S⟩,R.inv,R.log⟩
theorem lq{A:aQ}{t:Nat}{x:Addr×Addr×Addr×Addr}(h:A.ta[t]? =some x):dG A t=x:=by
 unfold dG
 rw[List.getD_eq_getElem?_getD,h]
 rfl
theorem dX{A:aQ}{e:Nat}{o:Option (Addr×Addr)}(h:A.sa[e]? =some o):A.sa.getD e none=o:=by
 rw[List.getD_eq_getElem?_getD,h]
 rfl
section
variable{K:W.Frag}{H:Hp}{m:Addr}{b:Book}{A:aQ}
theorem Rep.fM(R:Rep K H m b A){f:Str}{x:V}(hf:f∈(["today","places","things","shows","entries"]:List Str))(hx:(sU b.house A.lp A.lt A.ls A.le).lookup f=some x):Fd K H m f x:=by
 obtain⟨C,T,R⟩:=R.ex
 obtain⟨dx,hm⟩:=R.ex .mu m rfl
 exact⟨C.m,dx,_,hm,T.m,T.mf _ hf,hx⟩
theorem Rep.dg(R:Rep K H m b A):Fd K H m "today" (.int b.house.today):=R.fM (by decide) rfl
theorem Rep.dw(R:Rep K H m b A):Fd K H m "places" (.ref A.lp):=R.fM (by decide) rfl
theorem Rep.aX(R:Rep K H m b A):Fd K H m "things" (.ref A.lt):=R.fM (by decide) rfl
theorem Rep.dY(R:Rep K H m b A):Fd K H m "shows" (.ref A.ls):=R.fM (by decide) rfl
theorem Rep.jb(R:Rep K H m b A):Fd K H m "entries" (.ref A.le):=R.fM (by decide) rfl
theorem Rep.lp(R:Rep K H m b A):H A.lp=some (.lst (A.pa.map .ref)):=let⟨_,_,R⟩:=R.ex;R.ex .lp _ rfl
theorem Rep.lt(R:Rep K H m b A):H A.lt=some (.lst (A.ta.map λx=>.ref x.1)):=let⟨_,_,R⟩:=R.ex;R.ex .lt _ rfl
theorem Rep.ls(R:Rep K H m b A):H A.ls=some (.lst (A.sa.map cJ)):=let⟨_,_,R⟩:=R.ex;R.ex .ls _ rfl
theorem Rep.le(R:Rep K H m b A):H A.le=some (.lst (A.ea.map .ref)):=let⟨_,_,R⟩:=R.ex;R.ex .le _ rfl
theorem Rep.np(R:Rep K H m b A):A.pa.length=b.house.places.length:=let⟨_,_,R⟩:=R.ex;R.np
theorem Rep.nt(R:Rep K H m b A):A.ta.length=b.house.things.length:=let⟨_,_,R⟩:=R.ex;R.nt
theorem Rep.ns(R:Rep K H m b A):A.sa.length=b.house.shows.length:=let⟨_,_,R⟩:=R.ex;R.ns
theorem Rep.ne(R:Rep K H m b A):A.ea.length=b.log.length:=let⟨_,_,R⟩:=R.ex;R.ne
theorem Rep.fP(R:Rep K H m b A){p:Nat}{a:Addr}(h:A.pa[p]? =some a){f:Str}{x:V}(hf:f∈(["up","kind","room","light"]:List Str))(hx:(dW b.house p).lookup f=some x):Fd K H a f x:=by
 obtain⟨C,T,R⟩:=R.ex
 obtain⟨dx,ha⟩:=R.ex (.pl p) a h
 exact⟨C.p,dx,_,ha,T.p,T.pf _ hf,hx⟩
theorem Rep.fUp(R:Rep K H m b A){p:Nat}{a:Addr}(h:A.pa[p]? =some a):Fd K H a "up" (Qm b.house p):=R.fP h (by decide) rfl
theorem Rep.N6(R:Rep K H m b A){p:Nat}{a:Addr}(h:A.pa[p]? =some a):Fd K H a "kind" (.int (b.house.place p).kind):=R.fP h (by decide) rfl
theorem Rep.IQ(R:Rep K H m b A){p:Nat}{a:Addr}(h:A.pa[p]? =some a):Fd K H a "room" (.int (b.house.place p).room):=R.fP h (by decide) rfl
theorem Rep.BZ(R:Rep K H m b A){p:Nat}{a:Addr}(h:A.pa[p]? =some a):Fd K H a "light" (.int (b.house.lightOn p b.house.today)):=R.fP h (by decide) rfl
theorem Rep.fT(R:Rep K H m b A){t:Nat}{y:Addr×Addr×Addr×Addr}(h:A.ta[t]? =some y){f:Str}{x:V}(hf:f∈(["name","material","limit","harm","came","place","back","stays","lights"]:List Str))(hx:(bz b.house t y.2.1 y.2.2.1 y.2.2.2).lookup f=some x):Fd K H y.1 f x:=by
 obtain⟨C,T,R⟩:=R.ex
 obtain⟨dx,ha⟩:=R.ex (.th t) y.1 (by show(A.ta[t]?).map (·.1)=_;rw[h];rfl)
 rw[lq h] at ha
 exact⟨C.t,dx,_,ha,T.t,T.tf _ hf,hx⟩
theorem Rep.Ul(R:Rep K H m b A){t:Nat}{y:Addr×Addr×Addr×Addr}(h:A.ta[t]? =some y):Fd K H y.1 "name" (.ref y.2.1):=R.fT h (by decide) rfl
theorem Rep.FZ(R:Rep K H m b A){t:Nat}{y:Addr×Addr×Addr×Addr}(h:A.ta[t]? =some y):Fd K H y.1 "material" (.int (b.house.thing t).material):=R.fT h (by decide) rfl
theorem Rep.xI(R:Rep K H m b A){t:Nat}{y:Addr×Addr×Addr×Addr}(h:A.ta[t]? =some y):Fd K H y.1 "limit" (.int (b.house.thing t).limit):=R.fT h (by decide) rfl
theorem Rep.N7(R:Rep K H m b A){t:Nat}{y:Addr×Addr×Addr×Addr}(h:A.ta[t]? =some y):Fd K H y.1 "harm" (.int (b.house.thing t).harm):=R.fT h (by decide) rfl
theorem Rep.Ek(R:Rep K H m b A){t:Nat}{y:Addr×Addr×Addr×Addr}(h:A.ta[t]? =some y):Fd K H y.1 "came" (.int (b.house.thing t).came):=R.fT h (by decide) rfl
theorem Rep.gR(R:Rep K H m b A){t:Nat}{y:Addr×Addr×Addr×Addr}(h:A.ta[t]? =some y):Fd K H y.1 "place" (.int (b.house.here t)):=R.fT h (by decide) rfl
theorem Rep.IU(R:Rep K H m b A){t:Nat}{y:Addr×Addr×Addr×Addr}(h:A.ta[t]? =some y):Fd K H y.1 "back" (Ej (b.house.thing t).back):=R.fT h (by decide) rfl
theorem Rep.L9(R:Rep K H m b A){t:Nat}{y:Addr×Addr×Addr×Addr}(h:A.ta[t]? =some y):Fd K H y.1 "lights" (.ref y.2.2.1):=R.fT h (by decide) rfl
theorem Rep.Um(R:Rep K H m b A){t:Nat}{y:Addr×Addr×Addr×Addr}(h:A.ta[t]? =some y):H y.2.1=some (.lst ((b.house.thing t).name.map nV)):=let⟨_,_,R⟩:=R.ex;R.ex (.nm t) y.2.1 (by show(A.ta[t]?).map (·.2.1)=_;rw[h];rfl)
theorem Rep.Ma(R:Rep K H m b A){t:Nat}{y:Addr×Addr×Addr×Addr}(h:A.ta[t]? =some y):H y.2.2.1=some (.lst ((aC b.house t).map nV)):=let⟨_,_,R⟩:=R.ex;R.ex (.li t) y.2.2.1 (by show(A.ta[t]?).map (·.2.2.1)=_;rw[h];rfl)
theorem Rep.Qn(R:Rep K H m b A){t:Nat}{y:Addr×Addr×Addr×Addr}(h:A.ta[t]? =some y):Fd K H y.1 "stays" (.ref y.2.2.2):=R.fT h (by decide) rfl
theorem Rep.Qo(R:Rep K H m b A){t:Nat}{y:Addr×Addr×Addr×Addr}(h:A.ta[t]? =some y):H y.2.2.2=some (.lst ((a6 b.house t).map nV)):=let⟨_,_,R⟩:=R.ex;R.ex (.st t) y.2.2.2 (by show(A.ta[t]?).map (·.2.2.2)=_;rw[h];rfl)
structure F0(K:W.Frag)(H:Hp)(a bl:Addr)(s:Km383.Show):Prop where
 wq:Fd K H a "hall" (.int s.place)
 qo:Fd K H a "first" (.int s.first)
 wt:Fd K H a "over" (.int s.end_)
 t4:Fd K H a "hung" (.bl s.hung)
 dy:Fd K H a "booked" (.ref bl)
 booked:H bl=some (.lst (s.things.map nV))
theorem F0.up{H':Hp}{a bl:Addr}{s:Km383.Show}(S:au H H')(h:F0 K H a bl s):F0 K H' a bl s:=⟨h.wq.up S,h.qo.up S,h.wt.up S,h.t4.up S,h.dy.up S,S _ _ h.booked⟩
theorem Rep.show_(R:Rep K H m b A){e:Nat}{x:Addr×Addr}(h:A.sa[e]? =some (some x)):∃s,b.house.shows[e]? =some (some s)/\F0 K H x.1 x.2 s:=by
 obtain⟨C,T,R⟩:=R.ex
 have hD:=dX h
 have hs:=R.so e
 rw[hD] at hs
 cases q:b.house.show_ e with
 |none=>rw[q] at hs;cases hs
 |some s=>
  have es:Book.show b e=s:=by
   unfold Book.show House.aH
   rw[q]
   rfl
  obtain⟨dx,ha⟩:=R.ex (.sh e) x.1 (by show(A.sa.getD e none).map (·.1)=_;rw[hD];rfl)
  have hb:=R.ex (.bk e) x.2 (by show(A.sa.getD e none).map (·.2)=_;rw[hD];rfl)
  rw[hD,es] at ha
  have hb:H x.2=some (.lst ((Book.show b e).things.map nV)):=hb
  rw[es] at hb
  have fd:∀{f:Str}{y:V},f∈(["hall","first","over","hung","booked"]:List Str)->(iu s x.2).lookup f=some y->Fd K H x.1 f y:=λhf hy=>⟨C.s,dx,_,ha,T.s,T.sf _ hf,hy⟩
  exact⟨s,lb q,fd (by decide) rfl,fd (by decide) rfl,fd (by decide) rfl,fd (by decide) rfl,fd (by decide) rfl,hb⟩
theorem Rep.nL(R:Rep K H m b A){e:Nat}(h:A.sa[e]? =some none):b.house.shows[e]? =some none:=by
 obtain⟨C,T,R⟩:=R.ex
 have hs:=R.so e
 rw[dX h] at hs
 have hl:e<b.house.shows.length:=by
  rw[<-R.ns]
  exact(List.getElem?_eq_some_iff.mp h).1
 cases q:b.house.shows[e]? with
 |none=>
  rw[List.getElem?_eq_none_iff] at q
  omega
 |some o=>
  rw[jx q] at hs
  cases o with
  |none=>rfl
  |some s=>cases hs
theorem Rep.xJ(R:Rep K H m b A){p:Nat}(h:p<b.house.places.length):∃a,A.pa[p]? =some a:=⟨_,List.getElem?_eq_getElem (by rw[R.np];exact h)⟩
theorem Rep.sV(R:Rep K H m b A){t:Nat}(h:t<b.house.things.length):∃x,A.ta[t]? =some x:=⟨_,List.getElem?_eq_getElem (by rw[R.nt];exact h)⟩
end
structure Gs(mg:Str->Option Value):Prop where
 b:∀x∈(["len","any","all","max","min","enumerate","range"]:List Str),mg x=none
 c:∀x i,consts.lookup x=some i->∃t,mg x=some (.int i t)
def Dn(K:W.Frag)(mg:Str->Option Value)(x:Str)(i:Nat):Prop:=∃(f:Addr)(fd:FuncData),jq K x x (top i) f fd/\mg x=some (.ref f)
section
variable{P:Program}{w:World}{K:W.Frag}{mg:Str->Option Value}{ae:Heap}
theorem Gs.k{X:Cx}(G:Gs X.mg){x:Str}{i:Int}{σ:L2.St}{H:Hp}{pos:PySem.Pos}(h:consts.lookup x=some i:=by rfl)(hg:Gl X x:=by rfl)(hd:(x==("__debug__":Str))=false:=by decide):E X (.Name x pos) σ H (.v (.int i)):=by
 obtain⟨t,e⟩:=G.c x i h
 exact gl e ⟨t,rfl⟩ hg hd
def Rq(K:W.Frag)(φ:Addr->Book->aQ->List Sh->Sh->Prop):Pre:=λH l z=>∃m b A,Rep K H m b A/\φ m b A l z
theorem Rq.up{φ:Addr->Book->aQ->List Sh->Sh->Prop}:(Rq K φ).Up:=λ_ _ _ _ S ⟨m,b,A,R,h⟩=>⟨m,b,A,R.up S,h⟩
theorem Cal.ofD{x:Str}{i:Nat}{N ps:List Str}{k:Nat}{R:Pre}(D:Dn K mg x i)(hb:∀(f:Addr)(fd:FuncData),jq K x x (top i) f fd->Binds K fd ps [])(Sc:ao N ps (ah (top i)))(up:R.Up)
 (body:∀(f:Addr)(aK:Value)(A:Around)(aq:List Env)(s:Shared)(H:Hp)(E:XK)(l:List Sh)(z:Sh)(ys:List V),dC k (A.deeper (envOfC x (ah (top i)) s.heap.objs.size f aK))->dv K H l ys->R H l z->
   S (bx P w K mg ae N x (top i) f aK A aq s H E) (bL (top i)) (start N ys) H z)(len:∀H l z,R H l z->l.length=ps.length:=by intro _ _ _ h;repeat (first| (rw[h.1];rfl)| (rw[h];rfl)| (obtain⟨_,h⟩:=h))):Cal P w K mg ae x (k+1) R:=by
 obtain⟨f,fd,F,hm⟩:=D
 exact Cal.of F hm (hb f fd F) Sc up len (body f)
theorem b5{N Q:List Str}{sc:Scope}(a:sc.kind=.function:=by rfl)(b:sc.isCoroutine=false:=by rfl)(c:sc.isGenerator=false:=by rfl)(d:decide N.Nodup=true:=by kernel_rfl)(e:N.take Q.length=Q:=by rfl)(f:decide (∀x∈Q,sc.names.lookup x=some .local\/sc.names.lookup x=some .cell)=true:=by kernel_rfl)(g:decide (∀y∈sc.names,y.2≠.free)=true:=by kernel_rfl):ao N Q sc:=⟨a,b,c,of_decide_eq_true d,e,of_decide_eq_true f,of_decide_eq_true g⟩
theorem h8{x q:Str}{st:Stmt}{f:Addr}{fd:FuncData}{a0:Str}(F:jq K x q st f fd)(h:∀(kV doc pm:Value)(an:Option Addr)(aK ct u0:Value),bindArgs (W.fnOf x q (dE st) (bL st) (ah st) .none kV doc pm an aK ct) ⟨[u0], []⟩=pure [(a0,u0)]:=by intros;rfl):Binds K fd [a0] []:=F.binds λkV doc pm an aK ct us hl=>by
 rcases us with _|⟨u0,_|⟨_,_⟩⟩
 ·cases hl
 ·exact h kV doc pm an aK ct u0
 ·cases hl
theorem Bh{x:Str}{i:Nat}{a0:Str}(h:∀(kV doc pm:Value)(an:Option Addr)(aK ct u0:Value),bindArgs (W.fnOf x x (dE (top i)) (bL (top i)) (ah (top i)) .none kV doc pm an aK ct) ⟨[u0], []⟩=pure [(a0,u0)]:=by intros;rfl)(f:Addr)(fd:FuncData)(F:jq K x x (top i) f fd):Binds K fd [a0] []:=h8 F h
theorem Xe{x q:Str}{st:Stmt}{f:Addr}{fd:FuncData}{a0 a1:Str}(F:jq K x q st f fd)(h:∀(kV doc pm:Value)(an:Option Addr)(aK ct u0 u1:Value),bindArgs (W.fnOf x q (dE st) (bL st) (ah st) .none kV doc pm an aK ct) ⟨[u0,u1], []⟩=pure [(a0,u0),(a1,u1)]:=by intros;rfl):Binds K fd [a0,a1] []:=F.binds λkV doc pm an aK ct us hl=>by
 rcases us with _|⟨u0,_|⟨u1,_|⟨_,_⟩⟩⟩
 ·cases hl
 ·cases hl
 ·exact h kV doc pm an aK ct u0 u1
 ·cases hl
theorem mH{x:Str}{i:Nat}{a0 a1:Str}(h:∀(kV doc pm:Value)(an:Option Addr)(aK ct u0 u1:Value),bindArgs (W.fnOf x x (dE (top i)) (bL (top i)) (ah (top i)) .none kV doc pm an aK ct) ⟨[u0,u1], []⟩=pure [(a0,u0),(a1,u1)]:=by intros;rfl)(f:Addr)(fd:FuncData)(F:jq K x x (top i) f fd):Binds K fd [a0,a1] []:=Xe F h
theorem Xf{x q:Str}{st:Stmt}{f:Addr}{fd:FuncData}{a0 a1 a2:Str}(F:jq K x q st f fd)(h:∀(kV doc pm:Value)(an:Option Addr)(aK ct u0 u1 u2:Value),bindArgs (W.fnOf x q (dE st) (bL st) (ah st) .none kV doc pm an aK ct) ⟨[u0,u1,u2], []⟩=pure [(a0,u0),(a1,u1),(a2,u2)]:=by intros;rfl):Binds K fd [a0,a1,a2] []:=F.binds λkV doc pm an aK ct us hl=>by
 rcases us with _|⟨u0,_|⟨u1,_|⟨u2,_|⟨_,_⟩⟩⟩⟩
 ·cases hl
 ·cases hl
 ·cases hl
 ·exact h kV doc pm an aK ct u0 u1 u2
 ·cases hl
theorem mU{x:Str}{i:Nat}{a0 a1 a2:Str}(h:∀(kV doc pm:Value)(an:Option Addr)(aK ct u0 u1 u2:Value),bindArgs (W.fnOf x x (dE (top i)) (bL (top i)) (ah (top i)) .none kV doc pm an aK ct) ⟨[u0,u1,u2], []⟩=pure [(a0,u0),(a1,u1),(a2,u2)]:=by intros;rfl)(f:Addr)(fd:FuncData)(F:jq K x x (top i) f fd):Binds K fd [a0,a1,a2] []:=Xf F h
theorem h9{x q:Str}{st:Stmt}{f:Addr}{fd:FuncData}{a0 a1 a2 a3:Str}(F:jq K x q st f fd)(h:∀(kV doc pm:Value)(an:Option Addr)(aK ct u0 u1 u2 u3:Value),bindArgs (W.fnOf x q (dE st) (bL st) (ah st) .none kV doc pm an aK ct) ⟨[u0,u1,u2,u3], []⟩=pure [(a0,u0),(a1,u1),(a2,u2),(a3,u3)]:=by intros;rfl):Binds K fd [a0,a1,a2,a3] []:=F.binds λkV doc pm an aK ct us hl=>by
 rcases us with _|⟨u0,_|⟨u1,_|⟨u2,_|⟨u3,_|⟨_,_⟩⟩⟩⟩⟩
 ·cases hl
 ·cases hl
 ·cases hl
 ·cases hl
 ·exact h kV doc pm an aK ct u0 u1 u2 u3
 ·cases hl
theorem RQ{x:Str}{i:Nat}{a0 a1 a2 a3:Str}(h:∀(kV doc pm:Value)(an:Option Addr)(aK ct u0 u1 u2 u3:Value),bindArgs (W.fnOf x x (dE (top i)) (bL (top i)) (ah (top i)) .none kV doc pm an aK ct) ⟨[u0,u1,u2,u3], []⟩=pure [(a0,u0),(a1,u1),(a2,u2),(a3,u3)]:=by intros;rfl)(f:Addr)(fd:FuncData)(F:jq K x x (top i) f fd):Binds K fd [a0,a1,a2,a3] []:=h9 F h
theorem Xg{x q:Str}{st:Stmt}{f:Addr}{fd:FuncData}{a0 a1 a2 a3 a4:Str}(F:jq K x q st f fd)(h:∀(kV doc pm:Value)(an:Option Addr)(aK ct u0 u1 u2 u3 u4:Value),bindArgs (W.fnOf x q (dE st) (bL st) (ah st) .none kV doc pm an aK ct) ⟨[u0,u1,u2,u3,u4], []⟩=pure [(a0,u0),(a1,u1),(a2,u2),(a3,u3),(a4,u4)]:=by intros;rfl):Binds K fd [a0,a1,a2,a3,a4] []:=F.binds λkV doc pm an aK ct us hl=>by
 rcases us with _|⟨u0,_|⟨u1,_|⟨u2,_|⟨u3,_|⟨u4,_|⟨_,_⟩⟩⟩⟩⟩⟩
 ·cases hl
 ·cases hl
 ·cases hl
 ·cases hl
 ·cases hl
 ·exact h kV doc pm an aK ct u0 u1 u2 u3 u4
 ·cases hl
theorem Y9{x:Str}{i:Nat}{a0 a1 a2 a3 a4:Str}(h:∀(kV doc pm:Value)(an:Option Addr)(aK ct u0 u1 u2 u3 u4:Value),bindArgs (W.fnOf x x (dE (top i)) (bL (top i)) (ah (top i)) .none kV doc pm an aK ct) ⟨[u0,u1,u2,u3,u4], []⟩=pure [(a0,u0),(a1,u1),(a2,u2),(a3,u3),(a4,u4)]:=by intros;rfl)(f:Addr)(fd:FuncData)(F:jq K x x (top i) f fd):Binds K fd [a0,a1,a2,a3,a4] []:=Xg F h
theorem Xh{x q:Str}{st:Stmt}{f:Addr}{fd:FuncData}{a0 a1 a2 a3 a4 a5:Str}(F:jq K x q st f fd)(h:∀(kV doc pm:Value)(an:Option Addr)(aK ct u0 u1 u2 u3 u4 u5:Value),bindArgs (W.fnOf x q (dE st) (bL st) (ah st) .none kV doc pm an aK ct) ⟨[u0,u1,u2,u3,u4,u5], []⟩=pure [(a0,u0),(a1,u1),(a2,u2),(a3,u3),(a4,u4),(a5,u5)]:=by intros;rfl):Binds K fd [a0,a1,a2,a3,a4,a5] []:=F.binds λkV doc pm an aK ct us hl=>by
 rcases us with _|⟨u0,_|⟨u1,_|⟨u2,_|⟨u3,_|⟨u4,_|⟨u5,_|⟨_,_⟩⟩⟩⟩⟩⟩⟩
 ·cases hl
 ·cases hl
 ·cases hl
 ·cases hl
 ·cases hl
 ·cases hl
 ·exact h kV doc pm an aK ct u0 u1 u2 u3 u4 u5
 ·cases hl
theorem bd6{x:Str}{i:Nat}{a0 a1 a2 a3 a4 a5:Str}(h:∀(kV doc pm:Value)(an:Option Addr)(aK ct u0 u1 u2 u3 u4 u5:Value),bindArgs (W.fnOf x x (dE (top i)) (bL (top i)) (ah (top i)) .none kV doc pm an aK ct) ⟨[u0,u1,u2,u3,u4,u5], []⟩=pure [(a0,u0),(a1,u1),(a2,u2),(a3,u3),(a4,u4),(a5,u5)]:=by intros;rfl)(f:Addr)(fd:FuncData)(F:jq K x x (top i) f fd):Binds K fd [a0,a1,a2,a3,a4,a5] []:=Xh F h
theorem aaf{α:Type}{l:List α}(h:l.length=1):∃u0,l= [u0]:=by
 rcases l with _|⟨u0,_|⟨_,_⟩⟩
 ·cases h
 ·exact⟨u0,rfl⟩
 ·cases h
theorem aag{α:Type}{l:List α}(h:l.length=2):∃u0 u1,l= [u0,u1]:=by
 rcases l with _|⟨u0,_|⟨u1,_|⟨_,_⟩⟩⟩
 ·cases h
 ·cases h
 ·exact⟨u0,u1,rfl⟩
 ·cases h
theorem aah{α:Type}{l:List α}(h:l.length=3):∃u0 u1 u2,l= [u0,u1,u2]:=by
 rcases l with _|⟨u0,_|⟨u1,_|⟨u2,_|⟨_,_⟩⟩⟩⟩
 ·cases h
 ·cases h
 ·cases h
 ·exact⟨u0,u1,u2,rfl⟩
 ·cases h
theorem aai{α:Type}{l:List α}(h:l.length=4):∃u0 u1 u2 u3,l= [u0,u1,u2,u3]:=by
 rcases l with _|⟨u0,_|⟨u1,_|⟨u2,_|⟨u3,_|⟨_,_⟩⟩⟩⟩⟩
 ·cases h
 ·cases h
 ·cases h
 ·cases h
 ·exact⟨u0,u1,u2,u3,rfl⟩
 ·cases h
theorem aaj{α:Type}{l:List α}(h:l.length=5):∃u0 u1 u2 u3 u4,l= [u0,u1,u2,u3,u4]:=by
 rcases l with _|⟨u0,_|⟨u1,_|⟨u2,_|⟨u3,_|⟨u4,_|⟨_,_⟩⟩⟩⟩⟩⟩
 ·cases h
 ·cases h
 ·cases h
 ·cases h
 ·cases h
 ·exact⟨u0,u1,u2,u3,u4,rfl⟩
 ·cases h
end
theorem N8{a b:Nat}{x:Int}(h:x=b):decide ((a:Int)=x)=decide (a=b):=decide_eq_decide.mpr (by omega)
theorem dec_lt{a b:Nat}:decide ((a:Int)<(b:Int))=decide (a<b):=decide_eq_decide.mpr (by omega)
theorem big{n k:Nat}(h:n<=k)(hk:k<=1000):n<sizeLine:=cu (by omega)
theorem t5{α:Type}(xs:List α)(q:Nat->Bool)(f:Nat->V):((xs.zipIdx.filter λa=>q a.2).map λa=>f a.2)=((List.range xs.length).filter q).map f:=by
 have e:List.range xs.length=xs.zipIdx.map Prod.snd:=by
  rw[List.zipIdx_map_snd,List.range_eq_range']
 rw[e,List.filter_map,List.map_map]
 rfl
section
variable{K:W.Frag}{H:Hp}{m:Addr}{b:Book}{A:aQ}
theorem IV{p:Nat}{a:Addr}(h:A.pa[p]? =some a):qP (A.pa.map V.ref) (p:Int)=some (.ref a):=cZ (by rw[List.getElem?_map,h];rfl)
theorem wu{t:Nat}{x:Addr×Addr×Addr×Addr}(h:A.ta[t]? =some x):qP (A.ta.map λx=>V.ref x.1) (t:Int)=some (.ref x.1):=cZ (by rw[List.getElem?_map,h];rfl)
theorem Rep.B1(R:Rep K H m b A):(A.ta.map λx=>V.ref x.1).length=b.house.things.length:=by rw[List.length_map,R.nt]
theorem Rep.Qp(R:Rep K H m b A){k:Nat}{y:V}(hy:(A.ta.map λx=>V.ref x.1)[k]? =some y):∃x,A.ta[k]? =some x/\y=.ref x.1:=by
 rw[List.getElem?_map] at hy
 cases hx:A.ta[k]? with
 |none=>rw[hx] at hy;cases hy
 |some x=>
  rw[hx] at hy
  exact⟨x,rfl,(Option.some.inj hy).symm⟩
theorem Rep.IW(R:Rep K H m b A)(e:Nat):(A.sa.getD e none).isSome=(b.house.show_ e).isSome:=by
 rw[List.getD_eq_getElem?_getD]
 cases h:A.sa[e]? with
 |none=>
  have q:b.house.shows.length<=e:=by rw[<-R.ns];exact List.getElem?_eq_none_iff.mp h
  unfold House.show_
  rw[List.getD_eq_getElem?_getD,List.getElem?_eq_none q]
  rfl
 |some o=>
  cases o with
  |none=>rw[jx (R.nL h)];rfl
  |some x=>
   obtain⟨s,hs,_⟩:=R.show_ h
   rw[jx hs]
   rfl
theorem Rep.six(R:Rep K H m b A):A.sa.length=6:=by rw[R.ns,R.inv.ns]
theorem Rep.gu(R:Rep K H m b A){e:Nat}(h:(e:Int)<6):qP (A.sa.map cJ) (e:Int)=some (cJ (A.sa.getD e none)):=by
 have q:e<A.sa.length:=by
  rw[R.six]
  omega
 refine cZ ?_
 rw[List.getElem?_map,List.getElem?_eq_getElem q,List.getD_eq_getElem?_getD,List.getElem?_eq_getElem q]
 rfl
theorem Rep.Mb(R:Rep K H m b A){e:Nat}:(decide ((e:Int)<6)&&!decide (cJ (A.sa.getD e none)=.non))=(b.house.show_ e).isSome:=by
 rw[<-R.IW e]
 cases q:A.sa.getD e none with
 |none=>simp[cJ]
 |some x=>
  have:e<A.sa.length:=by
   by_cases r:e<A.sa.length
   ·exact r
   ·rw[List.getD_eq_getElem?_getD,List.getElem?_eq_none (by omega)] at q
    cases q
  rw[R.six] at this
  have h7:decide ((e:Int)<6)=true:=decide_eq_true (by omega)
  rw[h7]
  rfl
end
abbrev LS:=(Addr×Addr)×Km383.Show
def live(b:Book)(A:aQ):List ((Addr×Addr)×Km383.Show):=(A.sa.zip b.house.shows).filterMap λx=>match x with
 | (some a,some s)=>some (a,s)
 |_=>none
def sW(y:(Addr×Addr)×Km383.Show):V:=.ref y.1.1
theorem zW:∀{sa:List (Option (Addr×Addr))}{l:List (Option Km383.Show)},sa.length=l.length->(∀(e:Nat)(o:Option (Addr×Addr)),sa[e]? =some o->∃q,l[e]? =some q/\o.isSome=q.isSome)->
 (sa.filter Option.isSome).map cJ=((sa.zip l).filterMap λx=>match x with
  | (some a,some s)=>some (a,s)
  |_=>none).map sW
 | [],_,_,_=>rfl
 |_::_, [],h,_=>by cases h
 |o::sa,q::l,h,k=>by
  have ih:=zW (sa:=sa) (l:=l) (by simpa using h) λe o' ho=>k (e+1) o' ho
  obtain⟨q',hq,e⟩:=k 0 o rfl
  have hq:q=q':=Option.some.inj hq
  subst hq
  rw[List.filter_cons,List.zip_cons_cons,List.filterMap_cons]
  cases o with
  |none=>
   cases q with
   |none=>exact ih
   |some s=>cases e
  |some a=>
   cases q with
   |none=>cases e
   |some s=>
    show cJ (some a)::(sa.filter Option.isSome).map cJ=_
    rw[ih]
    rfl
section
variable{K:W.Frag}{H:Hp}{m:Addr}{b:Book}{A:aQ}
theorem Rep.El(R:Rep K H m b A):(A.sa.filter Option.isSome).map cJ=(live b A).map sW:=
 zW R.ns λe o h=>by
  cases o with
  |none=>exact⟨none,R.nL h,rfl⟩
  |some x=>
   obtain⟨s,hs,_⟩:=R.show_ h
   exact⟨some s,hs,rfl⟩
theorem Rep.nP(R:Rep K H m b A){y:(Addr×Addr)×Km383.Show}(h:y∈live b A):∃e:Nat,A.sa[e]? =some (some y.1)/\b.house.shows[e]? =some (some y.2)/\F0 K H y.1.1 y.1.2 y.2:=by
 obtain⟨z,hz,e⟩:=List.mem_filterMap.mp h
 obtain⟨k,hk⟩:=List.getElem?_of_mem hz
 rw[List.getElem?_zip_eq_some] at hk
 obtain⟨o1,o2⟩:=z
 cases o1 with
 |none=>cases e
 |some a=>
  cases o2 with
  |none=>cases e
  |some s=>
   have e:(a,s)=y:=Option.some.inj e
   subst e
   obtain⟨s',Qq,S⟩:=R.show_ hk.1
   have q:s=s':=Option.some.inj (Option.some.inj (hk.2.symm.trans Qq))
   subst q
   exact⟨k,hk.1,hk.2,S⟩
theorem jc(b:Book)(A:aQ):(live b A).length<=A.sa.length:=by
 unfold live
 refine Nat.le_trans (List.length_filterMap_le _ _) ?_
 rw[List.length_zip]
 omega
def dZ(b:Book)(A:aQ)(t:Nat):List ((Addr×Addr)×Km383.Show):=(live b A).filter λy=>y.2.things.contains t
theorem qX:∀{sa:List (Option (Addr×Addr))}{l:List (Option Km383.Show)}(t:Nat),sa.length=l.length->(∀(e:Nat)(o:Option (Addr×Addr)),sa[e]? =some o->∃q,l[e]? =some q/\o.isSome=q.isSome)->
 (l.filterMap λe=>match e with
   |none=>none
   |some s=>if s.things.contains t=true then some s else none)=((((sa.zip l).filterMap λx=>match x with
   | (some a,some s)=>some (a,s)
   |_=>none):List ((Addr×Addr)×Km383.Show)).filter λy=>y.2.things.contains t).map (·.2)
 | [], [],_,_,_=>rfl
 | [],_::_,_,h,_=>by cases h
 |_::_, [],_,h,_=>by cases h
 |o::sa,q::l,t,h,k=>by
  have ih:=qX (sa:=sa) (l:=l) t (by simpa using h) λe o' ho=>k (e+1) o' ho
  obtain⟨q',hq,e⟩:=k 0 o rfl
  have hq:q=q':=Option.some.inj hq
  subst hq
  rw[List.zip_cons_cons,List.filterMap_cons,List.filterMap_cons]
  cases o with
  |none=>
   cases q with
   |none=>exact ih
   |some s=>cases e
  |some a=>
   cases q with
   |none=>cases e
   |some s=>
    dsimp only
    rw[List.filter_cons]
    by_cases c:s.things.contains t=true
    ·rw[if_pos c,if_pos c]
     dsimp only
     rw[ih]
     rfl
    ·rw[if_neg c,if_neg c]
     exact ih
theorem Rep.jd(R:Rep K H m b A)(t:Nat):b.house.booked t=(dZ b A t).map (·.2):=qX t R.ns λe o h=>by
 cases o with
 |none=>exact⟨none,R.nL h,rfl⟩
 |some x=>
  obtain⟨s,hs,_⟩:=R.show_ h
  exact⟨some s,hs,rfl⟩
theorem jD(t:Nat):∀l:List Nat,HF (.int t) (l.map nV)=l.contains t
 | []=>rfl
 |a::l=>by
  have ih:=jD t l
  unfold HF at ih ⊢
  rw[List.map_cons,List.any_cons,ih,List.contains_cons]
  congr 1
  show((a:Int)==(t:Int))=(t==a)
  rw[Bool.beq_eq_decide_eq,Bool.beq_eq_decide_eq]
  exact decide_eq_decide.mpr (by omega)
theorem je(l:List Nat):(l.map nV).all eG=true:=by
 rw[List.all_map,List.all_eq_true]
 intro _ _
 rfl
end
theorem mV{K:W.Frag}{H:Hp}{xs vs ys:List V}(h:dv K H (.l xs::Ev.vs vs) ys):∃p,ys=.ref p::vs/\aF K H p xs:=by
 cases h with
 |cons r t=>
  obtain⟨p,e,q⟩:=r
  subst e
  rw[dv.vs t]
  exact⟨p,rfl,q⟩
theorem xK{K:W.Frag}{H:Hp}{xs ys:List V}{a b:V}(h:dv K H [.v a,.v b,.l xs] ys):∃p,ys= [a,b,.ref p]/\aF K H p xs:=by
 cases h with
 |cons r t=>
  cases t with
  |cons r2 t=>
   cases t with
   |cons r3 t=>
    cases t
    obtain⟨p,e,q⟩:=r3
    have e1:_=a:=r
    have e2:_=b:=r2
    subst e1 e2 e
    exact⟨p,rfl,q⟩
section
variable{K:W.Frag}{H:Hp}{m:Addr}{b:Book}{A:aQ}
theorem XC(i:Int):(if (0:Int) > i then(0:Int) else i)=((i.toNat:Nat):Int):=by
 split<;>omega
theorem F3(R:Rep K H m b A){t d:Nat}(ht:t<b.house.things.length)(hd:d<=b.house.today):qP ((aC b.house t).map nV) (if (0:Int) > (d:Int) - (b.house.thing t).came then 0 else(d:Int) - (b.house.thing t).came)=some (.int (b.house.dose t d)):=by
 have c:=ic R.inv ht
 have e:(if (0:Int) > (d:Int) - (b.house.thing t).came then(0:Int) else(d:Int) - (b.house.thing t).came)=((d - (b.house.thing t).came:Nat):Int):=by
  split<;>omega
 rw[e]
 refine cZ ?_
 have hk:d - (b.house.thing t).came<b.house.today - (b.house.thing t).came+1:=by omega
 unfold aC
 rw[List.getElem?_map,List.getElem?_map,List.getElem?_range hk]
 show some (V.int ((b.house.dose t ((b.house.thing t).came+(d - (b.house.thing t).came)):Nat):Int))=_
 congr 2
 by_cases q:(b.house.thing t).came<=d
 ·rw[show(b.house.thing t).came+(d - (b.house.thing t).came)=d by omega]
 ·rw[show(b.house.thing t).came+(d - (b.house.thing t).came)=(b.house.thing t).came by omega,dM (Nat.le_refl _),dM (by omega)]
end
def overs(L:List ((Addr×Addr)×Km383.Show)):List Nat:=L.map λy=>y.2.end_
def cG(L:List ((Addr×Addr)×Km383.Show)):Nat:=(overs L).foldl max 0
theorem foldl_max:∀(l:List Nat)(a:Nat),a<=l.foldl max a/\(∀x∈l,x<=l.foldl max a)/\(l.foldl max a=a\/l.foldl max a∈l)
 | [],a=>⟨Nat.le_refl _,(λ_ h=>nomatch h),.inl rfl⟩
 |x::l,a=>by
  obtain⟨h1,h2,h3⟩:=foldl_max l (max a x)
  refine⟨by show a<=l.foldl max (max a x);omega,λy hy=> ?_,?_⟩
  ·show y<=l.foldl max (max a x)
   rcases List.mem_cons.mp hy with e|hy
   ·subst e
    omega
   ·exact h2 y hy
  ·show l.foldl max (max a x)=a\/l.foldl max (max a x)∈x::l
   rcases h3 with e|h3
   ·by_cases q:x<=a
    ·left
     omega
    ·right
     rw[e,show max a x=x by omega]
     exact List.mem_cons_self
   ·exact .inr (List.mem_cons_of_mem _ h3)
theorem qY{L:List ((Addr×Addr)×Km383.Show)}(h:L≠ []):((cG L:Nat):Int)∈(overs L).map (λ(n:Nat)=>(n:Int)):=by
 obtain⟨h1,h2,h3⟩:=foldl_max (overs L) 0
 refine List.mem_map.mpr ⟨cG L,?_,rfl⟩
 rcases h3 with e|h3
 ·cases L with
  |nil=>exact absurd rfl h
  |cons y L=>
   have:=h2 y.2.end_ List.mem_cons_self
   have e2:cG (y::L)=y.2.end_:=by
    unfold cG
    omega
   rw[e2]
   exact List.mem_cons_self
 ·exact h3
theorem B2{L:List ((Addr×Addr)×Km383.Show)}:∀y∈(overs L).map (λ(n:Nat)=>(n:Int)),y<=((cG L:Nat):Int):=λy hy=>by
 obtain⟨x,hx,e⟩:=List.mem_map.mp hy
 have:=(foldl_max (overs L) 0).2.1 x hx
 subst e
 unfold cG
 omega
def share(h:House)(t:Nat)(s:Km383.Show):Int:=(iP s h.today:Int) * ((h.lightOn s.place h.today:Int) - h.lightOn (h.here t) h.today)
def B3(h:House)(t:Nat)(L:List ((Addr×Addr)×Km383.Show)):Int:=h.dose t h.today+((cG L - h.today:Nat):Int) * h.lightOn (h.here t) h.today+(L.map λy=>share h t y.2).sum
theorem zX{h:House}{t:Nat}{L:List ((Addr×Addr)×Km383.Show)}{x:(Addr×Addr)×Km383.Show}(hm:k9 (x.2::L.map (·.2))):B3 h t (L++ [x])=h.will t (x.2::L.map (·.2)):=by
 rw[LQ h t _ hm]
 unfold B3
 have e1:(cG (L++ [x]) - h.today:Nat)=(Km383.lastOf (x.2::L.map (·.2)) h.today - h.today:Nat):=by
  have a1:=lW (x.2::L.map (·.2)) h.today
  have a2:=nG (x.2::L.map (·.2)) h.today
  obtain⟨b1,b2,b3⟩:=foldl_max (overs (L++ [x])) 0
  have mem:∀n,n∈overs (L++ [x])↔∃s∈(x.2::L.map (·.2)),s.end_=n:=by
   intro n
   unfold overs
   simp only[List.mem_map,List.mem_append,List.mem_cons,List.not_mem_nil,or_false]
   constructor
   ·rintro⟨y,hy|rfl,e⟩
    ·exact⟨y.2,.inr ⟨y,hy,rfl⟩,e⟩
    ·exact⟨_,.inl rfl,e⟩
   ·rintro⟨s,rfl|⟨y,hy,rfl⟩,e⟩
    ·exact⟨x,.inr rfl,e⟩
    ·exact⟨y,.inl hy,e⟩
  have c1:cG (L++ [x])<=Km383.lastOf (x.2::L.map (·.2)) h.today:=by
   rcases b3 with e|e
   ·unfold cG
    omega
   ·obtain⟨s,hs,es⟩:=(mem _).mp e
    have:=a2 s hs
    unfold cG
    omega
  have c2:Km383.lastOf (x.2::L.map (·.2)) h.today<=max h.today (cG (L++ [x])):=by
   have up:∀(l:List Km383.Show)(d M:Nat),d<=M->(∀s∈l,s.end_<=M)->Km383.lastOf l d<=M:=by
    intro l
    induction l with
    |nil=>exact λd M h1 _=>h1
    |cons s l ih=>exact λd M h1 h2=>ih (max d s.end_) M (by have:=h2 s List.mem_cons_self;omega) λy hy=>h2 y (List.mem_cons_of_mem _ hy)
   refine up _ _ _ (by omega) λs hs=> ?_
   have:=b2 s.end_ ((mem _).mpr ⟨s,hs,rfl⟩)
   unfold cG
   omega
  omega
 rw[e1,List.map_append,List.sum_append]
 unfold share
 simp only[List.map_cons,List.map_nil,List.sum_cons,List.sum_nil,List.map_map,Function.comp_def]
 omega
section
variable{P:Program}{w:World}{K:W.Frag}{mg:Str->Option Value}{ae:Heap}
def b9(m:Addr)(b:Book)(A:aQ)(l:List Sh)(z:Sh):Prop:=∃(p:Nat),l= [.v (.ref m),.v (.int p)]/\z=.v (.bl (decide (p<b.house.places.length)))
theorem xM:ao ["museum","place"] ["museum","place"] (ah (top 18)):=b5
theorem xN(D:Dn K mg "has_place" 18)(G:Gs mg):Cal P w K mg ae "has_place" 1 (Rq K b9):=by
 refine Cal.ofD D mH xM Rq.up ?_
 rintro f aK A0 aq s H XE l z ys hr os ⟨m,b,A,R,p,rfl,rfl⟩
 obtain rfl:=dv.vs (xs:= [(.ref m),(.int p)]) os
 refine Ev.S.cast (aw (cI zT (nm 1) (len (a1 (((fld (nm 0) R.dw)).lst (aF.of R.lp)) a0) (G.b _ (by decide))))) ?_
 rw[List.length_map,R.np,dec_lt]
def cw(m:Addr)(b:Book)(A:aQ)(l:List Sh)(z:Sh):Prop:=∃(t:Nat),l= [.v (.ref m),.v (.int t)]/\z=.v (.bl (decide (t<b.house.things.length)))
theorem xO:ao ["museum","thing"] ["museum","thing"] (ah (top 19)):=b5
theorem xP(D:Dn K mg "has_thing" 19)(G:Gs mg):Cal P w K mg ae "has_thing" 1 (Rq K cw):=by
 refine Cal.ofD D mH xO Rq.up ?_
 rintro f aK A0 aq s H XE l z ys hr os ⟨m,b,A,R,t,rfl,rfl⟩
 obtain rfl:=dv.vs (xs:= [(.ref m),(.int t)]) os
 refine Ev.S.cast (aw (cI zT (nm 1) (len (a1 (((fld (nm 0) R.aX)).lst (aF.of R.lt)) a0) (G.b _ (by decide))))) ?_
 rw[List.length_map,R.nt,dec_lt]
def eJ(m:Addr)(b:Book)(A:aQ)(l:List Sh)(z:Sh):Prop:=∃(e:Nat),l= [.v (.ref m),.v (.int e)]/\z=.v (.bl (b.house.show_ e).isSome)
theorem zY:ao ["museum","show"] ["museum","show"] (ah (top 20)):=b5
theorem zZ(D:Dn K mg "has_show" 20)(G:Gs mg):Cal P w K mg ae "has_show" 1 (Rq K eJ):=by
 refine Cal.ofD D mH zY Rq.up ?_
 rintro f aK A0 aq s H XE l z ys hr os ⟨m,b,A,R,e,rfl,rfl⟩
 obtain rfl:=dv.vs (xs:= [(.ref m),(.int e)]) os
 refine Ev.S.cast (aw (ka (k:=decide ((e:Int)<6)) (m:= !decide (cJ (A.sa.getD e none)=.non)) (cI zT (nm 1) (G.k (i:=6))) λgJ=>iq (cI tX (ix ((fld (nm 0) R.dY).lst (aF.of R.ls)) (nm 1) (R.gu (of_decide_eq_true gJ))) non))) ?_
 exact congrArg (λk=>Sh.v (V.bl k)) R.Mb
def fG(m:Addr)(b:Book)(A:aQ)(l:List Sh)(z:Sh):Prop:=∃(p:Nat),l= [.v (.ref m),.v (.int p)]/\(p<b.house.places.length)/\z=.v (.bl (decide ((b.house.place p).kind=1)))
theorem B4:ao ["museum","place"] ["museum","place"] (ah (top 21)):=b5
theorem B5(D:Dn K mg "is_hall" 21)(G:Gs mg):Cal P w K mg ae "is_hall" 1 (Rq K fG):=by
 refine Cal.ofD D mH B4 Rq.up ?_
 rintro f aK A0 aq s H XE l z ys hr os ⟨m,b,A,R,p,rfl,hp,rfl⟩
 obtain rfl:=dv.vs (xs:= [(.ref m),(.int p)]) os
 obtain⟨a,ha⟩:=R.xJ hp
 refine Ev.S.cast (aw (cI cg (fld (ix (((fld (nm 0) R.dw)).lst (aF.of R.lp)) (nm 1) (IV ha)) (R.N6 ha)) (G.k (i:=1)))) ?_
 congr 2
 exact decide_eq_decide.mpr (by omega)
def fH(m:Addr)(b:Book)(A:aQ)(l:List Sh)(z:Sh):Prop:=∃(p:Nat),l= [.v (.ref m),.v (.int p)]/\(p<b.house.places.length)/\z=.v (.bl (decide ((b.house.place p).kind=3)))
theorem B6:ao ["museum","place"] ["museum","place"] (ah (top 22)):=b5
theorem B7(D:Dn K mg "is_away" 22)(G:Gs mg):Cal P w K mg ae "is_away" 1 (Rq K fH):=by
 refine Cal.ofD D mH B6 Rq.up ?_
 rintro f aK A0 aq s H XE l z ys hr os ⟨m,b,A,R,p,rfl,hp,rfl⟩
 obtain rfl:=dv.vs (xs:= [(.ref m),(.int p)]) os
 obtain⟨a,ha⟩:=R.xJ hp
 refine Ev.S.cast (aw (cI cg (fld (ix (((fld (nm 0) R.dw)).lst (aF.of R.lp)) (nm 1) (IV ha)) (R.N6 ha)) (G.k (i:=3)))) ?_
 congr 2
 exact decide_eq_decide.mpr (by omega)
def jE(m:Addr)(b:Book)(A:aQ)(l:List Sh)(z:Sh):Prop:=∃(p:Nat),l= [.v (.ref m),.v (.int p)]/\z=.n ((b.house.at_ p).map nV)
theorem oX:ao ["museum","place","number","kept"] ["museum","place"] (ah (top 24)):=b5
theorem xQ(D:Dn K mg "things_at" 24)(G:Gs mg):Cal P w K mg ae "things_at" 1 (Rq K jE):=by
 refine Cal.ofD D mH oX Rq.up ?_
 rintro f aK A0 aq s H XE l z ys hr os ⟨m,b,A,R,p,rfl,rfl⟩
 obtain rfl:=dv.vs (xs:= [(.ref m),(.int p)]) os
 refine Ev.S.cast (aw (Y7 2 3 (λa=>b.house.here a.2==p) (λa=>nV a.2) ((fld (nm 0) R.aX).lst (aF.of R.lt)) (by decide) (λy k hy s1 H0 C cl fp=>by
  obtain⟨x,hx,rfl⟩:=R.Qp hy
  exact jB (T.cast (ai cg (fld (nm 3) (R.gR hx)) (nm 1)) (by rw[N8 rfl,<-Bool.beq_eq_decide_eq]))) (λy k hy _ s1 H0 C cl fp=>nm 2) (by rw[R.B1];exact big R.inv.nt (by decide)) (G.b _ (by decide)) oX.nd)) ?_
 rw[t5 _ (λt=>b.house.here t==p) nV,R.B1]
 rfl
def gS(m:Addr)(b:Book)(A:aQ)(l:List Sh)(z:Sh):Prop:=∃(p:Nat),l= [.v (.ref m),.v (.int p)]/\(p<b.house.places.length)/\z=.v (.bl (b.house.full p))
theorem B8:ao ["museum","place"] ["museum","place"] (ah (top 25)):=b5
theorem B9(D:Dn K mg "is_full" 25)(G:Gs mg)(dk:Cal P w K mg ae "things_at" 1 (Rq K jE)):Cal P w K mg ae "is_full" 2 (Rq K gS):=by
 refine Cal.ofD D mH B8 Rq.up ?_
 rintro f aK A0 aq s H XE l z ys hr os ⟨m,b,A,R,p,rfl,hp,rfl⟩
 obtain rfl:=dv.vs (xs:= [(.ref m),(.int p)]) os
 obtain⟨a,ha⟩:=R.xJ hp
 refine Ev.S.cast (aw (cI RM (len (a1 ((call (dk.at hr) (a1 (nm 0) (a1 (nm 1) a0)) ⟨m,b,A,R,p,rfl,rfl⟩)).rd a0) (G.b _ (by decide))) (fld (ix (((fld (nm 0) R.dw)).lst (aF.of R.lp)) (nm 1) (IV ha)) (R.IQ ha)))) ?_
 rw[List.length_map]
 show _=Sh.v (V.bl (decide _))
 congr 2
 exact decide_eq_decide.mpr (by omega)
def dN(m:Addr)(b:Book)(A:aQ)(l:List Sh)(z:Sh):Prop:=∃(t:Nat),l= [.v (.ref m),.v (.int t)]/\(t<b.house.things.length)/\z=.v (.bl (b.house.thing t).back.isSome)
theorem Ca:ao ["museum","thing"] ["museum","thing"] (ah (top 26)):=b5
theorem Cb(D:Dn K mg "is_lent" 26)(G:Gs mg):Cal P w K mg ae "is_lent" 1 (Rq K dN):=by
 refine Cal.ofD D mH Ca Rq.up ?_
 rintro f aK A0 aq s H XE l z ys hr os ⟨m,b,A,R,t,rfl,ht,rfl⟩
 obtain rfl:=dv.vs (xs:= [(.ref m),(.int t)]) os
 obtain⟨x,hx⟩:=R.sV ht
 refine Ev.S.cast (aw (cI tX (fld (ix (((fld (nm 0) R.aX)).lst (aF.of R.lt)) (nm 1) (wu hx)) (R.IU hx)) non)) ?_
 cases(b.house.thing t).back<;>rfl
def eV(m:Addr)(b:Book)(A:aQ)(l:List Sh)(z:Sh):Prop:=∃(t:Nat),l= [.v (.ref m),.v (.int t)]/\(t<b.house.things.length)/\z=.v (.bl (decide (3<=(b.house.thing t).harm)))
theorem xR:ao ["museum","thing"] ["museum","thing"] (ah (top 27)):=b5
theorem xS(D:Dn K mg "is_harmed" 27)(G:Gs mg):Cal P w K mg ae "is_harmed" 1 (Rq K eV):=by
 refine Cal.ofD D mH xR Rq.up ?_
 rintro f aK A0 aq s H XE l z ys hr os ⟨m,b,A,R,t,rfl,ht,rfl⟩
 obtain rfl:=dv.vs (xs:= [(.ref m),(.int t)]) os
 obtain⟨x,hx⟩:=R.sV ht
 refine Ev.S.cast (aw (cI RM (fld (ix (((fld (nm 0) R.aX)).lst (aF.of R.lt)) (nm 1) (wu hx)) (R.N7 hx)) (G.k (i:=3)))) ?_
 congr 2
 exact decide_eq_decide.mpr (by omega)
def d9(m:Addr)(b:Book)(A:aQ)(l:List Sh)(z:Sh):Prop:=∃(t:Nat)(p:Nat),l= [.v (.ref m),.v (.int t),.v (.int p)]/\(t<b.house.things.length)/\(p<b.house.places.length)/\z=.v (.bl (Km383.bad (b.house.thing t) (b.house.place p)))
theorem rT:ao ["museum","thing","place"] ["museum","thing","place"] (ah (top 28)):=b5
theorem rV(D:Dn K mg "is_bad_there" 28)(G:Gs mg)(a8:Cal P w K mg ae "is_harmed" 1 (Rq K eV))(a9:Cal P w K mg ae "is_hall" 1 (Rq K fG)):Cal P w K mg ae "is_bad_there" 2 (Rq K d9):=by
 refine Cal.ofD D mU rT Rq.up ?_
 rintro f aK A0 aq s H XE l z ys hr os ⟨m,b,A,R,t,p,rfl,ht,hp,rfl⟩
 obtain rfl:=dv.vs (xs:= [(.ref m),(.int t),(.int p)]) os
 refine Ev.S.cast (aw (ka (call (a8.at hr) (a1 (nm 0) (a1 (nm 1) a0)) ⟨m,b,A,R,t,rfl,ht,rfl⟩) λ_=>(iq (call (a9.at hr) (a1 (nm 0) (a1 (nm 2) a0)) ⟨m,b,A,R,p,rfl,hp,rfl⟩)))) ?_
 congr 2
 unfold Km383.bad
 rw[Bool.and_comm,Bool.beq_eq_decide_eq]
def gy(m:Addr)(b:Book)(A:aQ)(l:List Sh)(z:Sh):Prop:=l= [.v (.ref m)]/\z=.n ((live b A).map sW)
theorem oY:ao ["museum","kept"] ["museum"] (ah (top 29)):=b5
theorem xT(D:Dn K mg "all_shows" 29)(G:Gs mg):Cal P w K mg ae "all_shows" 1 (Rq K gy):=by
 refine Cal.ofD D Bh oY Rq.up ?_
 rintro f aK A0 aq s H XE l z ys hr os ⟨m,b,A,R,rfl,rfl⟩
 obtain rfl:=dv.vs (xs:= [(.ref m)]) os
 refine Ev.S.cast (aw (lc 1 (L:=A.sa) cJ Option.isSome cJ ((fld (nm 0) R.dY).lst (aF.of R.ls)) (λy hy s1 H0 C cl fp=>jB (T.cast (ai tX (nm 1) non) (by cases y<;>rfl))) (λy hy _ s1 H0 C cl fp=>nm 1) (by rw[R.six];exact cu (by decide)) oY.nd)) ?_
 rw[R.El]
def fL(m:Addr)(b:Book)(A:aQ)(l:List Sh)(z:Sh):Prop:=∃(t:Nat),l= [.v (.ref m),.v (.int t)]/\z=.n ((dZ b A t).map sW)
theorem mW:ao ["museum","thing","kept"] ["museum","thing"] (ah (top 30)):=b5
theorem vg(D:Dn K mg "shows_with" 30)(G:Gs mg)(bV:Cal P w K mg ae "all_shows" 1 (Rq K gy)):Cal P w K mg ae "shows_with" 2 (Rq K fL):=by
 refine Cal.ofD D mH mW Rq.up ?_
 rintro f aK A0 aq s H XE l z ys hr os ⟨m,b,A,R,t,rfl,rfl⟩
 obtain rfl:=dv.vs (xs:= [(.ref m),(.int t)]) os
 refine Ev.S.cast (aw (lc 2 (L:=live b A) sW (λy=>y.2.things.contains t) sW (call (bV.at hr) (a1 (nm 0) a0) ⟨m,b,A,R,rfl,rfl⟩).rd (λy hy s1 H0 C cl fp=>by
  obtain⟨e,_,_,S⟩:=R.nP hy
  exact jB (T.cast (ai (Xu rfl (je _)) (nm 1) ((fld (nm 2) S.dy).lst (aF.of S.booked))) (jD t _))) (λy hy _ s1 H0 C cl fp=>nm 2) (by exact Nat.lt_of_le_of_lt (jc b A) (by rw[R.six];exact cu (by decide))) mW.nd)) ?_
 rfl
def fN(m:Addr)(b:Book)(A:aQ)(l:List Sh)(z:Sh):Prop:=∃(t:Nat),l= [.v (.ref m),.v (.int t)]/\z=.v (.bl (b.house.hangs t))
theorem mX:ao ["museum","thing","kept"] ["museum","thing"] (ah (top 31)):=b5
theorem vh(D:Dn K mg "is_hanging" 31)(G:Gs mg)(bF:Cal P w K mg ae "shows_with" 2 (Rq K fL)):Cal P w K mg ae "is_hanging" 3 (Rq K fN):=by
 refine Cal.ofD D mH mX Rq.up ?_
 rintro f aK A0 aq s H XE l z ys hr os ⟨m,b,A,R,t,rfl,rfl⟩
 obtain rfl:=dv.vs (xs:= [(.ref m),(.int t)]) os
 refine Ev.S.cast (aw (any (bs:=(dZ b A t).map λy=>y.2.hung) (a1 (E.cast (lc 2 (L:=dZ b A t) sW (λ_=>true) (λy=>V.bl y.2.hung) (call (bF.at hr) (a1 (nm 0) (a1 (nm 1) a0)) ⟨m,b,A,R,t,rfl,rfl⟩).rd (λy hy s1 H0 C cl fp=>iQ) (λy hy _ s1 H0 C cl fp=>by
  obtain⟨e,_,_,S⟩:=R.nP (List.mem_filter.mp hy).1
  exact fld (nm 2) S.t4) (Nat.lt_of_le_of_lt (List.length_filter_le _ _) (by exact Nat.lt_of_le_of_lt (jc b A) (by rw[R.six];exact cu (by decide)))) mX.nd) (by rw[Ev.filter_all,List.map_map];rfl)).rd a0) (G.b _ (by decide)))) ?_
 show _=Sh.v (V.bl ((b.house.booked t).any λs=>s.hung))
 rw[R.jd,List.any_map,List.any_map]
 rfl
def z0(m:Addr)(b:Book)(A:aQ)(l:List Sh)(z:Sh):Prop:=∃(y:LS)(i:Int)(j:Int),l= [.v (sW y),.v (.int i),.v (.int j)]/\(y∈live b A)/\z=.v (.bl (decide ((y.2.first:Int)<j)&&decide (i<y.2.end_)))
theorem IX:ao ["kept","first","over"] ["kept","first","over"] (ah (top 32)):=b5
theorem IY(D:Dn K mg "meets" 32)(G:Gs mg):Cal P w K mg ae "meets" 1 (Rq K z0):=by
 refine Cal.ofD D mU IX Rq.up ?_
 rintro f aK A0 aq s H XE l z ys hr os ⟨m,b,A,R,y,i,j,rfl,hy,rfl⟩
 obtain rfl:=dv.vs (xs:= [(sW y),(.int i),(.int j)]) os
 obtain⟨e,_,_,S⟩:=R.nP hy
 refine Ev.S.cast (aw (ka (cI zT (fld (nm 0) S.qo) (nm 2)) λ_=>(iq (cI zT (nm 1) (fld (nm 0) S.wt))))) ?_
 rfl
def gA(m:Addr)(b:Book)(A:aQ)(l:List Sh)(z:Sh):Prop:=∃(L:List LS)(i:Int)(j:Int),l= [.l (L.map sW),.v (.int i),.v (.int j)]/\(∀y∈L,y∈live b A)/\(L.length<=100)/\z=.v (.bl (L.any λy=>decide ((y.2.first:Int)<j)&&decide (i<y.2.end_)))
theorem oZ:ao ["shows","first","over","kept"] ["shows","first","over"] (ah (top 33)):=b5
theorem xU(D:Dn K mg "any_meets" 33)(G:Gs mg)(sX:Cal P w K mg ae "meets" 1 (Rq K z0)):Cal P w K mg ae "any_meets" 2 (Rq K gA):=by
 refine Cal.ofD D mU oZ Rq.up ?_
 rintro f aK A0 aq s H XE l z ys hr os ⟨m,b,A,R,L,i,j,rfl,hL,hn,rfl⟩
 obtain⟨q,rfl,hq⟩:=mV (vs:= [.int i,.int j]) os
 refine Ev.S.cast (aw (any (bs:=L.map λy=>decide ((y.2.first:Int)<j)&&decide (i<y.2.end_)) (a1 (E.cast (lc 3 (L:=L) sW (λ_=>true) (λy=>V.bl (decide ((y.2.first:Int)<j)&&decide (i<y.2.end_))) ((nm 0).lst hq) (λy hy s1 H0 C cl fp=>iQ) (λy hy _ s1 H0 C cl fp=>call (sX.at hr) (a1 (nm 3) (a1 (nm 1) (a1 (nm 2) a0))) ⟨m,b,A,R,y,i,j,rfl,hL y hy,rfl⟩) (cu (by omega)) oZ.nd) (by rw[Ev.filter_all,List.map_map];rfl)).rd a0) (G.b _ (by decide)))) ?_
 rw[List.any_map]
 rfl
def eK(m:Addr)(b:Book)(A:aQ)(l:List Sh)(z:Sh):Prop:=∃(t:Nat)(d:Nat),l= [.v (.ref m),.v (.int t),.v (.int d)]/\(t<b.house.things.length)/\(d<=b.house.today)/\z=.v (.int (b.house.dose t d))
theorem qZ:ao ["museum","thing","day","kept"] ["museum","thing","day"] (ah (top 35)):=b5
theorem z5(D:Dn K mg "light_to" 35)(G:Gs mg):Cal P w K mg ae "light_to" 1 (Rq K eK):=by
 refine Cal.ofD D mU qZ Rq.up ?_
 rintro f aK A0 aq s H XE l z ys hr os ⟨m,b,A,R,t,d,rfl,ht,hd,rfl⟩
 obtain rfl:=dv.vs (xs:= [(.ref m),(.int t),(.int d)]) os
 obtain⟨x,hx⟩:=R.sV ht
 refine Ev.S.cast (gQ 3 (ix ((fld (nm 0) R.aX).lst (aF.of R.lt)) (nm 1) (wu hx)) (aw (ix ((fld (nm 3) (R.L9 hx)).lst (aF.of (R.Ma hx))) (max2 (a1 (sub (nm 2) (fld (nm 3) (R.Ek hx))) (a1 int a0)) (G.b _ (by decide))) (F3 R ht hd))) qZ.nd) ?_
 rfl
end
theorem Md(s:Km383.Show)(t:Nat):(if (0:Int) > (s.end_:Int) - (if (t:Int) > s.first then(t:Int) else s.first) then(0:Int) else(s.end_:Int) - (if (t:Int) > s.first then(t:Int) else s.first))=((iP s t:Nat):Int):=by
 unfold iP
 split<;>split at *<;>omega
theorem IZ{α:Type}(f:α->Int){L:List α}{k:Nat}{y:α}(h:L[k]? =some y):((L.take (k+1)).map f).sum=((L.take k).map f).sum+f y:=by
 rw[cO h,List.map_append,List.sum_append]
 simp
section
variable{P:Program}{w:World}{K:W.Frag}{mg:Str->Option Value}{ae:Heap}
def mY(m:Addr)(b:Book)(A:aQ)(l:List Sh)(z:Sh):Prop:=∃(t:Nat)(L:List LS),l= [.v (.ref m),.v (.int t),.l (L.map sW)]/\(t<b.house.things.length)/\(∀y∈L,y∈live b A)/\(L≠ [])/\(L.length<=100)/\z=.v (.int (B3 b.house t L))
theorem cA:ao ["museum","thing","shows","here","end","total","kept","days"] ["museum","thing","shows"] (ah (top 36)):=b5
def XD(m q:Addr)(h:House)(t:Nat)(L:List LS)(k:Nat):L2.St:=
 [some (.ref m),some (.int t),some (.ref q),some (.int (h.lightOn (h.here t) h.today)),some (.int (cG L)),
   some (.int ((h.dose t h.today:Int)+((cG L - h.today:Nat):Int) * h.lightOn (h.here t) h.today+((L.take k).map λy=>share h t y.2).sum)),
   if k=0 then none else(L[k - 1]?).map sW,if k=0 then none else(L[k - 1]?).map λy=>.int (iP y.2 h.today)]
theorem vi(D:Dn K mg "light_with" 36)(G:Gs mg)(aV:Cal P w K mg ae "light_to" 1 (Rq K eK)):Cal P w K mg ae "light_with" 2 (Rq K mY):=by
 refine Cal.ofD D mU cA Rq.up ?_
 rintro f aK A0 aq s H XE l z ys hr os ⟨m,b,A,R,t,L,rfl,ht,hL,hn,hz,rfl⟩
 obtain⟨q,rfl,hq⟩:=xK os
 obtain⟨x,hx⟩:=R.sV ht
 obtain⟨a,ha⟩:=R.xJ (ie R.inv ht)
 refine Ev.S.cast (gQ 3 (fld (ix ((fld (nm 0) R.dw).lst (aF.of R.lp)) (fld (ix ((fld (nm 0) R.aX).lst (aF.of R.lt)) (nm 1) (wu hx)) (R.gR hx)) (IV ha)) (R.BZ ha))
  (gQ 4 (Xx (ns:=(overs L).map λ(n:Nat)=>(n:Int)) (m:=((cG L:Nat):Int)) (a1 (E.cast (lc 6 (L:=L) sW (λ_=>true) (λy=>V.int y.2.end_) ((nm 2).lst hq) (λy hy s1 H0 C cl fp=>iQ)
    (λy hy _ s1 H0 C cl fp=>by
      obtain⟨e,_,_,hS⟩:=R.nP (hL y hy)
      exact fld (nm 6) hS.wt) (cu (by omega)) cA.nd) (by rw[Ev.filter_all];unfold overs;rw[List.map_map,List.map_map];rfl)).rd a0) (qY hn) B2 (G.b _ (by decide)))
  (gQ 5 (add (call (aV.at hr) (a1 (nm 0) (a1 (nm 1) (a1 (fld (nm 0) R.dg) a0))) ⟨m,b,A,R,t,b.house.today,rfl,ht,Nat.le_refl _,rfl⟩)
    (mul (i:=((cG L - b.house.today:Nat):Int)) ?c1 (E.cast (max2 (a1 (sub (nm 4) (fld (nm 0) R.dg)) (a1 int a0)) (G.b _ (by decide))) ?c2) (nm 3)))
  (Uk 6 (xs:=L.map sW) (XD m q b.house t L) ?c3 ((nm 2).lst hq) ?c4 (aw (nm 5)) PassesOwn.never rfl cA.nd) cA.nd) cA.nd) cA.nd) ?_
 case c1=>
  have h1:cG L<=2000:=by
   obtain⟨n,VY,e⟩:=List.mem_map.mp (qY hn)
   obtain⟨y,hy,e2⟩:=List.mem_map.mp VY
   obtain⟨e3,_,hs,_⟩:=R.nP (hL y hy)
   have:=(R.inv.sh e3 y.2 hs).days.2
   omega
  exact .inl ⟨by omega,by omega⟩
 case c2=>
  rw[XC]
  congr 2
  omega
 case c3=>
  unfold XD
  simp
  rfl
 case c4=>
  intro k y hy
  rw[List.getElem?_map] at hy
  cases hk:L[k]? with
  |none=>rw[hk] at hy;cases hy
  |some v=>
   rw[hk] at hy
   obtain rfl:sW v=y:=Option.some.inj hy
   have mv:=List.mem_of_getElem? hk
   obtain⟨e3,_,hs,hS⟩:=R.nP (hL v mv)
   have oS:=R.inv.sh e3 v.2 hs
   obtain⟨a2,Za⟩:=R.xJ oS.place
   refine B.cast (Eh 7 (E.cast (max2 (a1 (sub (fld (nm 6) hS.wt) (max2 (a1 (fld (nm 6) hS.qo) (a1 (fld (nm 0) R.dg) a0)) (G.b _ (by decide)))) (a1 int a0)) (G.b _ (by decide))) (congrArg (λi=>Sh.v (V.int i)) (Md v.2 b.house.today)))
    (Eh 5 (add (nm 5) (mul (i:=((iP v.2 b.house.today:Nat):Int)) ?c5 (nm 7) (sub (fld (ix ((fld (nm 0) R.dw).lst (aF.of R.lp)) (fld (nm 6) hS.wq) (IV Za)) (R.BZ Za)) (nm 3)))) wo cA.nd) cA.nd) ?_
   case c5=>
    have:=oS.days.2
    unfold iP
    exact .inl ⟨by omega,by omega⟩
   unfold XD
   rw[if_neg (Nat.succ_ne_zero k),if_neg (Nat.succ_ne_zero k),Nat.add_sub_cancel,hk,IZ _ hk]
   show [_,_,_,_,_,_,_,_]=_
   congr 6
   show some (V.int _)=some (V.int _)
   congr 2
   unfold share
   omega
 ·rw[List.length_map,List.take_length]
  rfl
end
def gB(r:Int):Int:=if r<0 then r else 0
theorem t6{r:Int}(h:r<0):gB r=r:=if_pos h
theorem t7{r:Int}(h:0<=r):gB r=0:=if_neg (by omega)
theorem iw{n:Nat}{h:House}:Sh.v (.int 0)=Sh.v (.int (gB ((h,((n:Nat):Int)).2))):=by
 rw[t7 (by show(0:Int)<=n;omega)]
theorem lu{h:House}:Sh.v (.int 0)=Sh.v (.int (gB ((h,(0:Int)).2))):=rfl
theorem aR{X:Cx}{c:Expr}{bd rest:List Stmt}{σ:L2.St}{H:Hp}{pos:Pos}{k:Bool}{C:Prop} [Decidable C]{v:Int}{r:House×Int}{h:House}(hT:T X c σ H k)(h1:S X bd σ H (.v (.int v)))(hk:k=true↔C)(hv:v<0)(h2:¬C->S X rest σ H (.v (.int (gB r.2)))):
 S X (.If c bd [] pos::rest) σ H (.v (.int (gB (if C then(h,v) else r).2))):=
 zU hT (λq=>Ev.S.cast h1 (by rw[if_pos (hk.mp q)];show Sh.v (V.int v)=_;rw[t6 hv])) (λq=>by
  have n:¬C:=λz=>by
   rw[hk.mpr z] at q
   cases q
  rw[if_neg n]
  exact h2 n)
section
variable{K:W.Frag}{H:Hp}{m:Addr}{b:Book}{A:aQ}
theorem t8(R:Rep K H m b A)(t:Nat):(dZ b A t).length<=100:=by
 have h1:(dZ b A t).length<=(live b A).length:=List.length_filter_le _ _
 have h2:=jc b A
 have h3:=R.six
 omega
theorem lend_eq(R:Rep K H m b A)(t d:Nat):(b.house.hangs t||(dZ b A t).any λy=>decide ((y.2.first:Int)<(d:Int))&&decide ((b.house.today:Int)<y.2.end_))=true↔((b.house.booked t).any λs=>s.hung||Km383.meet b.house.today d s.first s.end_)=true:=by
 unfold House.hangs
 rw[R.jd,Bool.or_eq_true,List.any_map,List.any_map,List.any_eq_true,List.any_eq_true,List.any_eq_true]
 constructor
 ·rintro(⟨y,hy,h⟩|⟨y,hy,h⟩)
  ·exact⟨y,hy,by
    show(y.2.hung||_)=true
    rw[show y.2.hung=true from h]
    rfl⟩
  ·refine⟨y,hy,?_⟩
   show(y.2.hung||Km383.meet b.house.today d y.2.first y.2.end_)=true
   rw[Bool.or_eq_true]
   right
   rw[Bool.and_eq_true,decide_eq_true_eq,decide_eq_true_eq] at h
   exact oJ.mpr ⟨by omega,by omega⟩
 ·rintro⟨y,hy,h⟩
  have h:(y.2.hung||Km383.meet b.house.today d y.2.first y.2.end_)=true:=h
  rw[Bool.or_eq_true] at h
  rcases h with h|h
  ·exact .inl ⟨y,hy,h⟩
  ·refine .inr ⟨y,hy,?_⟩
   have:=oJ.mp h
   rw[Bool.and_eq_true,decide_eq_true_eq,decide_eq_true_eq]
   omega
end
theorem Mf{X:Cx}{H:Hp}{xs:List V}(hu:X.A.units+64<cLine)(h:∀z∈xs,Nn.RP X.K H z):Cm X .NotIn H (.v .non) (.l xs) (!xs.any Nn.vN):=⟨_,Nn.FW hu,λH2 S x y ox ⟨p,ep,hp⟩ Q q=>⟨p,xs,ox,ep,hp,λz hz=>by
 rcases h z hz with e|⟨a,C,dx,fs,e,ha,pl⟩
 ·exact .inl e
 ·exact .inr ⟨a,C,dx,fs,e,S _ _ ha,pl⟩,q⟩⟩
section
variable{K:W.Frag}{H:Hp}{m:Addr}{b:Book}{A:aQ}
theorem Rep.Zb(R:Rep K H m b A):∀z∈A.sa.map cJ,Nn.RP K H z:=λz hz=>by
 obtain⟨o,ho,e⟩:=List.mem_map.mp hz
 cases o with
 |none=>exact .inl e.symm
 |some x=>
  obtain⟨k,hk⟩:=List.getElem?_of_mem ho
  obtain⟨C,T,R⟩:=R.ex
  obtain⟨dx,ha⟩:=R.ex (.sh k) x.1 (by show(A.sa.getD k none).map (·.1)=_;rw[dX hk];rfl)
  exact .inr ⟨x.1,C.s,dx,_,e.symm,ha,T.sp⟩
theorem Rep.free(R:Rep K H m b A):(A.sa.map cJ).any Nn.vN=(freeOf b.house).isSome:=by
 have six:=R.six
 obtain⟨C,T,R⟩:=R.ex
 unfold freeOf
 rw[Bool.eq_iff_iff,List.any_eq_true,List.find?_isSome]
 constructor
 ·rintro⟨z,hz,e⟩
  obtain⟨o,ho,ez⟩:=List.mem_map.mp hz
  obtain⟨k,hk⟩:=List.getElem?_of_mem ho
  have hl:=(List.getElem?_eq_some_iff.mp hk).1
  refine⟨k,List.mem_range.mpr (by show k<6;omega),?_⟩
  have q:=R.so k
  rw[dX hk] at q
  cases o with
  |none=>
   cases h:b.house.show_ k with
   |none=>rfl
   |some s=>rw[h] at q;cases q
  |some x=>
   subst ez
   cases(of_decide_eq_true e)
 ·rintro⟨k,hk,e⟩
  have hk:k<6:=List.mem_range.mp hk
  have hl:k<A.sa.length:=by omega
  have q:=R.so k
  have g:A.sa[k]? =some A.sa[k]:=List.getElem?_eq_getElem hl
  rw[dX g] at q
  refine⟨cJ A.sa[k],List.mem_map.mpr ⟨_,List.getElem_mem hl,rfl⟩,?_⟩
  cases h:A.sa[k] with
  |none=>rfl
  |some x=>
   rw[h] at q
   cases h2:b.house.show_ k with
   |none=>rw[h2] at q;cases q
   |some s=>rw[h2] at e;cases e
def t9(b:Book)(A:aQ)(p:Nat):List LS:=(live b A).filter λy=>y.2.place==p
theorem Cd(R:Rep K H m b A)(p:Nat):(t9 b A p).length<=100:=by
 have h1:(t9 b A p).length<=(live b A).length:=List.length_filter_le _ _
 have h2:=jc b A
 have h3:=R.six
 omega
theorem ua:∀{sa:List (Option (Addr×Addr))}{l:List (Option Km383.Show)}(p i j:Nat),sa.length=l.length->(∀(e:Nat)(o:Option (Addr×Addr)),sa[e]? =some o->∃q,l[e]? =some q/\o.isSome=q.isSome)->
 (l.any λe=>match e with
   |none=>false
   |some s=>s.place==p&&Km383.meet i j s.first s.end_)=((((sa.zip l).filterMap λx=>match x with
   | (some a,some s)=>some (a,s)
   |_=>none):List LS).filter λy=>y.2.place==p).any λy=>Km383.meet i j y.2.first y.2.end_
 | [], [],_,_,_,_,_=>rfl
 | [],_::_,_,_,_,h,_=>by cases h
 |_::_, [],_,_,_,h,_=>by cases h
 |o::sa,q::l,p,i,j,h,k=>by
  have ih:=ua (sa:=sa) (l:=l) p i j (by simpa using h) λe o' ho=>k (e+1) o' ho
  obtain⟨q',hq,e⟩:=k 0 o rfl
  have hq:q=q':=Option.some.inj hq
  subst hq
  rw[List.zip_cons_cons,List.filterMap_cons,List.any_cons]
  cases o with
  |none=>
   cases q with
   |none=>exact ih
   |some s=>cases e
  |some a=>
   cases q with
   |none=>cases e
   |some s=>
    dsimp only
    rw[List.filter_cons,ih]
    by_cases c:(s.place==p)=true
    ·rw[if_pos c,List.any_cons,c]
     rfl
    ·rw[if_neg c]
     have c':(s.place==p)=false:=by simpa using c
     rw[c']
     rfl
theorem Rep.I0(R:Rep K H m b A)(p i j:Nat):Ih b.house p i j=(t9 b A p).any λy=>Km383.meet i j y.2.first y.2.end_:=ua p i j R.ns λe o h=>by
 cases o with
 |none=>exact⟨none,R.nL h,rfl⟩
 |some x=>
  obtain⟨s,hs,_⟩:=R.show_ h
  exact⟨some s,hs,rfl⟩
theorem z6{L:List LS}{i j:Nat}:(L.any λy=>decide ((y.2.first:Int)<(j:Int))&&decide ((i:Int)<y.2.end_))=L.any λy=>Km383.meet i j y.2.first y.2.end_:=by
 induction L with
 |nil=>rfl
 |cons y L ih=>
  rw[List.any_cons,List.any_cons,ih]
  congr 1
  unfold Km383.meet
  rw[Bool.and_comm]
  congr 1
  ·exact decide_eq_decide.mpr (by omega)
  ·exact decide_eq_decide.mpr (by omega)
theorem Rep.vj(R:Rep K H m b A){e:Nat}(hs:¬(b.house.show_ e).isNone=true):∃x:Addr×Addr,A.sa[e]? =some (some x)/\e<6/\F0 K H x.1 x.2 (House.aH b.house e)/\(x,House.aH b.house e)∈live b A:=by
 have g:=dF hs
 have six:=R.six
 have hl:e<b.house.shows.length:=(List.getElem?_eq_some_iff.mp g).1
 have Lq:e<A.sa.length:=by rw[R.ns];exact hl
 have g2:A.sa[e]? =some A.sa[e]:=List.getElem?_eq_getElem Lq
 cases q:A.sa[e] with
 |none=>
  rw[q] at g2
  rw[R.nL g2] at g
  cases g
 |some x=>
  rw[q] at g2
  obtain⟨s,h1,h2⟩:=R.show_ g2
  rw[g] at h1
  cases h1
  refine⟨x,g2,by omega,h2,?_⟩
  unfold live
  refine List.mem_filterMap.mpr ⟨(some x,some (House.aH b.house e)),?_,rfl⟩
  exact List.mem_of_getElem? (i:=e) (List.getElem?_zip_eq_some.mpr ⟨g2,g⟩)
end
section
variable{P:Program}{w:World}{K:W.Frag}{mg:Str->Option Value}{ae:Heap}
def jf(m:Addr)(b:Book)(A:aQ)(l:List Sh)(z:Sh):Prop:=∃(p:Nat)(k:Nat)(r:Nat)(u:Nat),l= [.v (.ref m),.v (.int p),.v (.int k),.v (.int r),.v (.int u)]/\z=.v (.int (gB (b.house.do_ (.place p k r u)).2))
theorem qp:ao ["museum","up","kind","room","light"] ["museum","up","kind","room","light"] (ah (top 163)):=b5
theorem qs(D:Dn K mg "place_refusal" 163)(G:Gs mg)(aA:Cal P w K mg ae "has_place" 1 (Rq K b9)):Cal P w K mg ae "place_refusal" 2 (Rq K jf):=by
 refine Cal.ofD D Y9 qp Rq.up ?_
 rintro f aK A0 aq s H XE l z ys hr os ⟨m,b,A,R,p,k,r,u,rfl,rfl⟩
 obtain rfl:=dv.vs (xs:= [(.ref m),(.int p),(.int k),(.int r),(.int u)]) os
 simp only[House.do_,Km383.THINGS,Km383.PLACES,Km383.DAYS]
 refine aR (cz (aI (call (aA.at hr) (a1 (nm 0) (a1 (nm 1) a0)) ⟨m,b,A,R,p,rfl,rfl⟩))) (aw (G.k (i:= -2))) (by simp) (by decide) λn1=> ?_
 have hp:p<b.house.places.length:=by omega
 obtain⟨a,ha⟩:=R.xJ hp
 refine aR (tY (w_or (ai rS (nm 2) (G.k (i:=3))) λ_=>(w_or (ai zT (nm 3) int) λ_=>(w_or (ai rS (nm 3) (G.k (i:=24))) λ_=>(gP (ai rS (nm 4) (G.k (i:=10000)))))))) (aw (G.k (i:= -22))) (by simp;omega) (by decide) λn2=> ?_
 have h3:=R.inv.np.2
 refine aR (ai cg (len (a1 (((fld (nm 0) R.dw)).lst (aF.of R.lp)) a0) (G.b _ (by decide))) (G.k (i:=12))) (aw (G.k (i:= -28))) (by rw[decide_eq_true_eq,List.length_map,R.np];omega) (by decide) λn3=> ?_
 refine Ev.S.cast (aw (G.k (i:=0))) ?_
 exact iw
def jg(m:Addr)(b:Book)(A:aQ)(l:List Sh)(z:Sh):Prop:=∃(p:Nat)(u:Nat),l= [.v (.ref m),.v (.int p),.v (.int u)]/\z=.v (.int (gB (b.house.do_ (.light p u)).2))
theorem qt:ao ["museum","place","units"] ["museum","place","units"] (ah (top 165)):=b5
theorem qu(D:Dn K mg "light_refusal" 165)(G:Gs mg)(aA:Cal P w K mg ae "has_place" 1 (Rq K b9)):Cal P w K mg ae "light_refusal" 2 (Rq K jg):=by
 refine Cal.ofD D mU qt Rq.up ?_
 rintro f aK A0 aq s H XE l z ys hr os ⟨m,b,A,R,p,u,rfl,rfl⟩
 obtain rfl:=dv.vs (xs:= [(.ref m),(.int p),(.int u)]) os
 simp only[House.do_,Km383.THINGS,Km383.PLACES,Km383.DAYS]
 refine aR (cz (aI (call (aA.at hr) (a1 (nm 0) (a1 (nm 1) a0)) ⟨m,b,A,R,p,rfl,rfl⟩))) (aw (G.k (i:= -2))) (by simp) (by decide) λn1=> ?_
 have hp:p<b.house.places.length:=by omega
 obtain⟨a,ha⟩:=R.xJ hp
 refine aR (ai rS (nm 2) (G.k (i:=10000))) (aw (G.k (i:= -22))) (by simp;omega) (by decide) λn2=> ?_
 refine Ev.S.cast (aw (G.k (i:=0))) ?_
 exact lu
def ke(m:Addr)(b:Book)(A:aQ)(l:List Sh)(z:Sh):Prop:=∃(t:Nat)(p:Nat),l= [.v (.ref m),.v (.int t),.v (.int p)]/\z=.v (.int (gB (b.house.do_ (.move t p)).2))
theorem rW:ao ["museum","thing","place"] ["museum","thing","place"] (ah (top 171)):=b5
theorem rX(D:Dn K mg "move_refusal" 171)(G:Gs mg)(bf:Cal P w K mg ae "is_away" 1 (Rq K fH))(aJ:Cal P w K mg ae "is_lent" 1 (Rq K dN))(bG:Cal P w K mg ae "is_hanging" 3 (Rq K fN))(aZ:Cal P w K mg ae "is_bad_there" 2 (Rq K d9))(bO:Cal P w K mg ae "is_full" 2 (Rq K gS))(aB:Cal P w K mg ae "has_thing" 1 (Rq K cw))(aA:Cal P w K mg ae "has_place" 1 (Rq K b9)):Cal P w K mg ae "move_refusal" 4 (Rq K ke):=by
 refine Cal.ofD D mU rW Rq.up ?_
 rintro f aK A0 aq s H XE l z ys hr os ⟨m,b,A,R,t,p,rfl,rfl⟩
 obtain rfl:=dv.vs (xs:= [(.ref m),(.int t),(.int p)]) os
 simp only[House.do_,Km383.THINGS,Km383.PLACES,Km383.DAYS]
 refine aR (tY (w_or (cz (aI (call (aB.at hr) (a1 (nm 0) (a1 (nm 1) a0)) ⟨m,b,A,R,t,rfl,rfl⟩))) λ_=>(gP (cz (aI (call (aA.at hr) (a1 (nm 0) (a1 (nm 2) a0)) ⟨m,b,A,R,p,rfl,rfl⟩)))))) (aw (G.k (i:= -2))) (by simp) (by decide) λn1=> ?_
 have ht:t<b.house.things.length:=by omega
 have hp:p<b.house.places.length:=by omega
 obtain⟨x,hx⟩:=R.sV ht
 obtain⟨a,ha⟩:=R.xJ hp
 refine aR (aI (call (bf.at hr) (a1 (nm 0) (a1 (nm 2) a0)) ⟨m,b,A,R,p,rfl,hp,rfl⟩)) (aw (G.k (i:= -22))) (by simp) (by decide) λn2=> ?_
 refine aR (aI (call (aJ.at hr) (a1 (nm 0) (a1 (nm 1) a0)) ⟨m,b,A,R,t,rfl,ht,rfl⟩)) (aw (G.k (i:= -17))) (by simp) (by decide) λn3=> ?_
 refine aR (aI (call (bG.at hr) (a1 (nm 0) (a1 (nm 1) a0)) ⟨m,b,A,R,t,rfl,rfl⟩)) (aw (G.k (i:= -16))) (by simp) (by decide) λn4=> ?_
 refine aR (aI (call (aZ.at hr) (a1 (nm 0) (a1 (nm 1) (a1 (nm 2) a0))) ⟨m,b,A,R,t,p,rfl,ht,hp,rfl⟩)) (aw (G.k (i:= -61))) (by simp) (by decide) λn5=> ?_
 refine aR (tY (w_and (aI (call (bO.at hr) (a1 (nm 0) (a1 (nm 2) a0)) ⟨m,b,A,R,p,rfl,hp,rfl⟩)) λ_=>(xD (ai Xs (fld (ix (((fld (nm 0) R.aX)).lst (aF.of R.lt)) (nm 1) (wu hx)) (R.gR hx)) (nm 2))))) (aw (G.k (i:= -12))) (by rw[Bool.and_eq_true,Bool.not_eq_true',decide_eq_false_iff_not];exact⟨λz=>⟨λy=>z.2 (by omega),z.1⟩,λz=>⟨z.2,λy=>z.1 (by omega)⟩⟩) (by decide) λn6=> ?_
 refine Ev.S.cast (aw (G.k (i:=0))) ?_
 exact lu
def lz(m:Addr)(b:Book)(A:aQ)(l:List Sh)(z:Sh):Prop:=∃(n:Nat),l= [.v (.ref m),.v (.int n)]/\z=.v (.int (gB (b.house.do_ (.day n)).2))
theorem ub:ao ["museum","n"] ["museum","n"] (ah (top 173)):=b5
theorem uc(D:Dn K mg "day_refusal" 173)(G:Gs mg):Cal P w K mg ae "day_refusal" 1 (Rq K lz):=by
 refine Cal.ofD D mH ub Rq.up ?_
 rintro f aK A0 aq s H XE l z ys hr os ⟨m,b,A,R,n,rfl,rfl⟩
 obtain rfl:=dv.vs (xs:= [(.ref m),(.int n)]) os
 simp only[House.do_,Km383.THINGS,Km383.PLACES,Km383.DAYS]
 refine aR (tY (w_or (ai cg (nm 1) int) λ_=>(gP (ai rS (add (fld (nm 0) R.dg) (nm 1)) (G.k (i:=2000)))))) (aw (G.k (i:= -22))) (by simp;omega) (by decide) λn1=> ?_
 refine Ev.S.cast (aw (G.k (i:=0))) ?_
 exact iw
def kf(m:Addr)(b:Book)(A:aQ)(l:List Sh)(z:Sh):Prop:=∃(t:Nat)(v:Nat),l= [.v (.ref m),.v (.int t),.v (.int v)]/\z=.v (.int (gB (b.house.do_ (.harm t v)).2))
theorem rY:ao ["museum","thing","level"] ["museum","thing","level"] (ah (top 176)):=b5
theorem rZ(D:Dn K mg "harm_refusal" 176)(G:Gs mg)(aB:Cal P w K mg ae "has_thing" 1 (Rq K cw)):Cal P w K mg ae "harm_refusal" 2 (Rq K kf):=by
 refine Cal.ofD D mU rY Rq.up ?_
 rintro f aK A0 aq s H XE l z ys hr os ⟨m,b,A,R,t,v,rfl,rfl⟩
 obtain rfl:=dv.vs (xs:= [(.ref m),(.int t),(.int v)]) os
 simp only[House.do_,Km383.THINGS,Km383.PLACES,Km383.DAYS]
 refine aR (cz (aI (call (aB.at hr) (a1 (nm 0) (a1 (nm 1) a0)) ⟨m,b,A,R,t,rfl,rfl⟩))) (aw (G.k (i:= -2))) (by simp) (by decide) λn1=> ?_
 have ht:t<b.house.things.length:=by omega
 obtain⟨x,hx⟩:=R.sV ht
 refine aR (ai rS (nm 2) (G.k (i:=5))) (aw (G.k (i:= -22))) (by simp;omega) (by decide) λn2=> ?_
 refine Ev.S.cast (aw (G.k (i:=0))) ?_
 rw[t7 (by dsimp only;split<;>decide)]
def kg(m:Addr)(b:Book)(A:aQ)(l:List Sh)(z:Sh):Prop:=∃(t:Nat)(p:Nat),l= [.v (.ref m),.v (.int t),.v (.int p)]/\z=.v (.int (gB (b.house.do_ (.home t p)).2))
theorem r9:ao ["museum","thing","place"] ["museum","thing","place"] (ah (top 181)):=b5
theorem si(D:Dn K mg "home_refusal" 181)(G:Gs mg)(bf:Cal P w K mg ae "is_away" 1 (Rq K fH))(aZ:Cal P w K mg ae "is_bad_there" 2 (Rq K d9))(bO:Cal P w K mg ae "is_full" 2 (Rq K gS))(aJ:Cal P w K mg ae "is_lent" 1 (Rq K dN))(aB:Cal P w K mg ae "has_thing" 1 (Rq K cw))(aA:Cal P w K mg ae "has_place" 1 (Rq K b9)):Cal P w K mg ae "home_refusal" 3 (Rq K kg):=by
 refine Cal.ofD D mU r9 Rq.up ?_
 rintro f aK A0 aq s H XE l z ys hr os ⟨m,b,A,R,t,p,rfl,rfl⟩
 obtain rfl:=dv.vs (xs:= [(.ref m),(.int t),(.int p)]) os
 simp only[House.do_,Km383.THINGS,Km383.PLACES,Km383.DAYS]
 refine aR (tY (w_or (cz (aI (call (aB.at hr) (a1 (nm 0) (a1 (nm 1) a0)) ⟨m,b,A,R,t,rfl,rfl⟩))) λ_=>(gP (cz (aI (call (aA.at hr) (a1 (nm 0) (a1 (nm 2) a0)) ⟨m,b,A,R,p,rfl,rfl⟩)))))) (aw (G.k (i:= -2))) (by simp) (by decide) λn1=> ?_
 have ht:t<b.house.things.length:=by omega
 have hp:p<b.house.places.length:=by omega
 obtain⟨x,hx⟩:=R.sV ht
 obtain⟨a,ha⟩:=R.xJ hp
 refine aR (cz (aI (call (aJ.at hr) (a1 (nm 0) (a1 (nm 1) a0)) ⟨m,b,A,R,t,rfl,ht,rfl⟩))) (aw (G.k (i:= -6))) (by simp) (by decide) λn2=> ?_
 refine aR (aI (call (bf.at hr) (a1 (nm 0) (a1 (nm 2) a0)) ⟨m,b,A,R,p,rfl,hp,rfl⟩)) (aw (G.k (i:= -22))) (by simp) (by decide) λn3=> ?_
 refine aR (aI (call (aZ.at hr) (a1 (nm 0) (a1 (nm 1) (a1 (nm 2) a0))) ⟨m,b,A,R,t,p,rfl,ht,hp,rfl⟩)) (aw (G.k (i:= -61))) (by simp) (by decide) λn4=> ?_
 refine aR (aI (call (bO.at hr) (a1 (nm 0) (a1 (nm 2) a0)) ⟨m,b,A,R,p,rfl,hp,rfl⟩)) (aw (G.k (i:= -12))) (by simp) (by decide) λn5=> ?_
 refine Ev.S.cast (aw (G.k (i:=0))) ?_
 exact lu
def kh(m:Addr)(b:Book)(A:aQ)(l:List Sh)(z:Sh):Prop:=∃(t:Nat)(p:Nat)(d:Nat),l= [.v (.ref m),.v (.int t),.v (.int p),.v (.int d)]/\z=.v (.int (gB (b.house.do_ (.lend t p d)).2))
theorem sq:ao ["museum","thing","place","back"] ["museum","thing","place","back"] (ah (top 179)):=b5
theorem sr(D:Dn K mg "lend_refusal" 179)(G:Gs mg)(aJ:Cal P w K mg ae "is_lent" 1 (Rq K dN))(a8:Cal P w K mg ae "is_harmed" 1 (Rq K eV))(bO:Cal P w K mg ae "is_full" 2 (Rq K gS))(bG:Cal P w K mg ae "is_hanging" 3 (Rq K fN))(bW:Cal P w K mg ae "any_meets" 2 (Rq K gA))(aB:Cal P w K mg ae "has_thing" 1 (Rq K cw))(aA:Cal P w K mg ae "has_place" 1 (Rq K b9))(bf:Cal P w K mg ae "is_away" 1 (Rq K fH))(bF:Cal P w K mg ae "shows_with" 2 (Rq K fL)):Cal P w K mg ae "lend_refusal" 4 (Rq K kh):=by
 refine Cal.ofD D RQ sq Rq.up ?_
 rintro f aK A0 aq s H XE l z ys hr os ⟨m,b,A,R,t,p,d,rfl,rfl⟩
 obtain rfl:=dv.vs (xs:= [(.ref m),(.int t),(.int p),(.int d)]) os
 simp only[House.do_,Km383.THINGS,Km383.PLACES,Km383.DAYS]
 refine aR (tY (w_or (cz (aI (call (aB.at hr) (a1 (nm 0) (a1 (nm 1) a0)) ⟨m,b,A,R,t,rfl,rfl⟩))) λ_=>(gP (cz (aI (call (aA.at hr) (a1 (nm 0) (a1 (nm 2) a0)) ⟨m,b,A,R,p,rfl,rfl⟩)))))) (aw (G.k (i:= -2))) (by simp) (by decide) λn1=> ?_
 have ht:t<b.house.things.length:=by omega
 have hp:p<b.house.places.length:=by omega
 obtain⟨x,hx⟩:=R.sV ht
 obtain⟨a,ha⟩:=R.xJ hp
 refine aR (tY (w_or (cz (aI (call (bf.at hr) (a1 (nm 0) (a1 (nm 2) a0)) ⟨m,b,A,R,p,rfl,hp,rfl⟩))) λ_=>(w_or (ai N4 (nm 3) (fld (nm 0) R.dg)) λ_=>(gP (ai rS (nm 3) (G.k (i:=2000))))))) (aw (G.k (i:= -22))) (by simp;omega) (by decide) λn2=> ?_
 refine aR (aI (call (aJ.at hr) (a1 (nm 0) (a1 (nm 1) a0)) ⟨m,b,A,R,t,rfl,ht,rfl⟩)) (aw (G.k (i:= -17))) (by simp) (by decide) λn3=> ?_
 refine aR (tY (w_or (aI (call (bG.at hr) (a1 (nm 0) (a1 (nm 1) a0)) ⟨m,b,A,R,t,rfl,rfl⟩)) λ_=>(gP (aI (call (bW.at hr) (a1 ((call (bF.at hr) (a1 (nm 0) (a1 (nm 1) a0)) ⟨m,b,A,R,t,rfl,rfl⟩)).rd (a1 (fld (nm 0) R.dg) (a1 (nm 3) a0))) ⟨m,b,A,R,dZ b A t,_,_,rfl,λy hy=>(List.mem_filter.mp hy).1,t8 R t,rfl⟩))))) (aw (G.k (i:= -16))) (lend_eq R t d) (by decide) λn4=> ?_
 refine aR (aI (call (a8.at hr) (a1 (nm 0) (a1 (nm 1) a0)) ⟨m,b,A,R,t,rfl,ht,rfl⟩)) (aw (G.k (i:= -61))) (by simp) (by decide) λn5=> ?_
 refine aR (aI (call (bO.at hr) (a1 (nm 0) (a1 (nm 2) a0)) ⟨m,b,A,R,p,rfl,hp,rfl⟩)) (aw (G.k (i:= -12))) (by simp) (by decide) λn6=> ?_
 refine Ev.S.cast (aw (G.k (i:=0))) ?_
 exact lu
def rh(m:Addr)(b:Book)(A:aQ)(l:List Sh)(z:Sh):Prop:=∃(p:Nat),l= [.v (.ref m),.v (.int p)]/\z=.n ((t9 b A p).map sW)
theorem rj:ao ["museum","hall","kept"] ["museum","hall"] (ah (top 184)):=b5
theorem z7(D:Dn K mg "shows_in" 184)(G:Gs mg)(bV:Cal P w K mg ae "all_shows" 1 (Rq K gy)):Cal P w K mg ae "shows_in" 2 (Rq K rh):=by
 refine Cal.ofD D mH rj Rq.up ?_
 rintro f aK A0 aq s H XE l z ys hr os ⟨m,b,A,R,p,rfl,rfl⟩
 obtain rfl:=dv.vs (xs:= [(.ref m),(.int p)]) os
 refine Ev.S.cast (aw (lc 2 (L:=live b A) sW (λy=>y.2.place==p) sW (call (bV.at hr) (a1 (nm 0) a0) ⟨m,b,A,R,rfl,rfl⟩).rd (λy hy s1 H0 C cl fp=>by
  obtain⟨e,_,_,hS⟩:=R.nP hy
  exact jB (T.cast (ai cg (fld (nm 2) hS.wq) (nm 1)) (by rw[N8 rfl,<-Bool.beq_eq_decide_eq]))) (λy hy _ s1 H0 C cl fp=>nm 2) (Nat.lt_of_le_of_lt (jc b A) (by rw[R.six];exact cu (by decide))) rj.nd)) ?_
 rfl
def kj(m:Addr)(b:Book)(A:aQ)(l:List Sh)(z:Sh):Prop:=∃(p:Nat)(i:Nat)(j:Nat),l= [.v (.ref m),.v (.int p),.v (.int i),.v (.int j)]/\z=.v (.int (gB (b.house.do_ (.show_ p i j)).2))
theorem su:ao ["museum","place","first","over"] ["museum","place","first","over"] (ah (top 185)):=b5
theorem sv(D:Dn K mg "show_refusal" 185)(G:Gs mg)(bW:Cal P w K mg ae "any_meets" 2 (Rq K gA))(aA:Cal P w K mg ae "has_place" 1 (Rq K b9))(jF:Cal P w K mg ae "shows_in" 2 (Rq K rh))(a9:Cal P w K mg ae "is_hall" 1 (Rq K fG)):Cal P w K mg ae "show_refusal" 3 (Rq K kj):=by
 refine Cal.ofD D RQ su Rq.up ?_
 rintro f aK A0 aq s H XE l z ys hr os ⟨m,b,A,R,p,i,j,rfl,rfl⟩
 obtain rfl:=dv.vs (xs:= [(.ref m),(.int p),(.int i),(.int j)]) os
 rw[xn]
 simp only[Km383.DAYS]
 refine aR (cz (aI (call (aA.at hr) (a1 (nm 0) (a1 (nm 1) a0)) ⟨m,b,A,R,p,rfl,rfl⟩))) (aw (G.k (i:= -2))) (by simp) (by decide) λn1=> ?_
 have hp:p<b.house.places.length:=by omega
 obtain⟨a,ha⟩:=R.xJ hp
 refine aR (tY (w_or (cz (aI (call (a9.at hr) (a1 (nm 0) (a1 (nm 1) a0)) ⟨m,b,A,R,p,rfl,hp,rfl⟩))) λ_=>(w_or (ai zT (nm 2) (fld (nm 0) R.dg)) λ_=>(w_or (ai N4 (nm 3) (nm 2)) λ_=>(gP (ai rS (nm 3) (G.k (i:=2000)))))))) (aw (G.k (i:= -22))) (by simp;omega) (by decide) λn2=> ?_
 refine aR (aI (call (bW.at hr) (a1 ((call (jF.at hr) (a1 (nm 0) (a1 (nm 1) a0)) ⟨m,b,A,R,p,rfl,rfl⟩)).rd (a1 (nm 2) (a1 (nm 3) a0))) ⟨m,b,A,R,t9 b A p,_,_,rfl,λy hy=>(List.mem_filter.mp hy).1,Cd R p,rfl⟩)) (aw (G.k (i:= -16))) (by rw[z6,R.I0]) (by decide) λn3=> ?_
 refine aR (ai (Mf hr.units R.Zb) non ((fld (nm 0) R.dY).lst (aF.of R.ls))) (aw (G.k (i:= -28))) (by rw[R.free];cases freeOf b.house<;>simp) (by decide) λn4=> ?_
 refine Ev.S.cast (aw (G.k (i:=0))) ?_
 exact iw
end
def wx(h:House)(t d:Nat):Bool:=match (h.thing t).back with
 |none=>false
 |some v=>decide (d<v)
theorem wy{o:Option Nat}(q:o.isSome=true):Sh.v (Ej o)=Sh.v (.int ((o.getD 0:Nat):Int)):=by
 cases o with
 |none=>cases q
 |some v=>rfl
theorem F4(n:Nat):Sh.v (V.bl (decide ((97:Int)<=(n:Int))&&decide ((n:Int)<=122)))=Sh.v (V.bl (Km383.isLetter n)):=by
 unfold Km383.isLetter
 congr 2
 congr 1
 ·exact decide_eq_decide.mpr (by omega)
 ·exact decide_eq_decide.mpr (by omega)
theorem Ja{K:W.Frag}{H:Hp}{xs ys:List V}{a:V}(h:dv K H [.v a,.l xs] ys):∃p,ys= [a,.ref p]/\aF K H p xs:=by
 cases h with
 |cons r t=>
  cases t with
  |cons r2 t=>
   cases t
   obtain⟨p,e,q⟩:=r2
   have e1:_=a:=r
   subst e1 e
   exact⟨p,rfl,q⟩
theorem Jb(A:aQ):(A.ta.map λx=>V.ref x.1)=(List.range A.ta.length).map λi=>V.ref (dG A i).1:=by
 apply List.ext_getElem?
 intro i
 rw[List.getElem?_map,List.getElem?_map]
 by_cases h:i<A.ta.length
 ·rw[List.getElem?_range h,List.getElem?_eq_getElem h]
  show some (V.ref A.ta[i].1)=some (V.ref (dG A i).1)
  rw[lq (List.getElem?_eq_getElem h)]
 ·rw[List.getElem?_eq_none (by omega),List.getElem?_eq_none (by simp;omega)]
  rfl
theorem Jc{ns ms:List Nat}:Sh.v (V.bl (decide ((ns.map λ(n:Nat)=>(n:Int))=ms.map λ(n:Nat)=>(n:Int))))=Sh.v (V.bl (ns==ms)):=by
 congr 2
 rw[Bool.beq_eq_decide_eq]
 refine decide_eq_decide.mpr ⟨λh=> ?_,λh=>by rw[h]⟩
 exact(List.map_inj_right (f:=λ(n:Nat)=>(n:Int)) (λa b h=>by omega)).mp h
theorem any_range(h:House)(ns:List Nat):((List.range h.things.length).any (id∘λi=>(h.thing i).name==ns))=h.things.any λx=>x.name==ns:=by
 have e:h.things=(List.range h.things.length).map h.thing:=by
  apply List.ext_getElem?
  intro i
  rw[List.getElem?_map]
  by_cases q:i<h.things.length
  ·rw[List.getElem?_range q,iY q]
   rfl
  ·rw[List.getElem?_eq_none (by omega),List.getElem?_eq_none (by simp;omega)]
   rfl
 conv=>rhs;rw[e,List.any_map]
 rfl
section
variable{K:W.Frag}{H:Hp}{m:Addr}{b:Book}{A:aQ}
theorem Mg{e:Nat}{x:Addr×Addr}(h:A.sa[e]? =some (some x)):qP (A.sa.map cJ) (e:Int)=some (.ref x.1):=cZ (by rw[List.getElem?_map,h];rfl)
end
section
variable{P:Program}{w:World}{K:W.Frag}{mg:Str->Option Value}{ae:Heap}
def jh(m:Addr)(b:Book)(A:aQ)(l:List Sh)(z:Sh):Prop:=∃(t:Nat)(d:Nat),l= [.v (.ref m),.v (.int t),.v (.int d)]/\(t<b.house.things.length)/\z=.v (.bl (wx b.house t d))
theorem qv:ao ["museum","thing","day"] ["museum","thing","day"] (ah (top 187)):=b5
theorem qw(D:Dn K mg "is_lent_after" 187)(G:Gs mg)(aJ:Cal P w K mg ae "is_lent" 1 (Rq K dN)):Cal P w K mg ae "is_lent_after" 2 (Rq K jh):=by
 refine Cal.ofD D mU qv Rq.up ?_
 rintro f aK A0 aq s H XE l z ys hr os ⟨m,b,A,R,t,d,rfl,ht,rfl⟩
 obtain rfl:=dv.vs (xs:= [(.ref m),(.int t),(.int d)]) os
 obtain⟨x,hx⟩:=R.sV ht
 refine Ev.S.cast (aw (ka (m:=decide ((d:Int)<((b.house.thing t).back.getD 0:Nat))) (call (aJ.at hr) (a1 (nm 0) (a1 (nm 1) a0)) ⟨m,b,A,R,t,rfl,ht,rfl⟩) λq=>iq (cI rS (E.cast (fld (ix ((fld (nm 0) R.aX).lst (aF.of R.lt)) (nm 1) (wu hx)) (R.IU hx)) (wy q)) (nm 2)))) ?_
 unfold wx
 congr 2
 cases(b.house.thing t).back with
 |none=>rfl
 |some v=>
  show(true&&decide ((d:Int)<(v:Nat)))=decide (d<v)
  rw[Bool.true_and]
  exact decide_eq_decide.mpr (by omega)
def ud(m:Addr)(b:Book)(A:aQ)(l:List Sh)(z:Sh):Prop:=∃(ns:List Nat),l= [.l (ns.map nV)]/\(ns.length<=100)/\z=.v (.bl (decide (0<ns.length)&&ns.all Km383.isLetter))
theorem ue:ao ["letters","letter"] ["letters"] (ah (top 167)):=b5
theorem Ce(D:Dn K mg "is_name" 167)(G:Gs mg):Cal P w K mg ae "is_name" 1 (Rq K ud):=by
 refine Cal.ofD D Bh ue Rq.up ?_
 rintro f aK A0 aq s H XE l z ys hr os ⟨m,b,A,R,ns,rfl,hn,rfl⟩
 obtain⟨q,rfl,hq⟩:=mV (vs:= []) os
 refine Ev.S.cast (aw (ka (cI rS (len (a1 ((nm 0).lst hq) a0) (G.b _ (by decide))) int) λ_=>iq (all (bs:=ns.map Km383.isLetter) (a1 (E.cast (lc 1 (L:=ns) nV (λ_=>true) (λn=>V.bl (Km383.isLetter n)) ((nm 0).lst hq) (λy hy s1 H0 C cl fp=>iQ) (λy hy _ s1 H0 C cl fp=>E.cast (chain N4 N4 (G.k (i:=97)) (nm 1) (G.k (i:=122))) (F4 y)) (cu (by omega)) ue.nd) (by rw[Ev.filter_all,List.map_map];rfl)).rd a0) (G.b _ (by decide))))) ?_
 rw[List.length_map,List.all_map]
 congr 2
 congr 1
 exact decide_eq_decide.mpr (by omega)
def rk(m:Addr)(b:Book)(A:aQ)(l:List Sh)(z:Sh):Prop:=∃(ns:List Nat),l= [.v (.ref m),.l (ns.map nV)]/\z=.v (.bl (b.house.things.any λx=>x.name==ns))
theorem rm:ao ["museum","letters","kept"] ["museum","letters"] (ah (top 168)):=b5
theorem z8(D:Dn K mg "has_name" 168)(G:Gs mg):Cal P w K mg ae "has_name" 1 (Rq K rk):=by
 refine Cal.ofD D mH rm Rq.up ?_
 rintro f aK A0 aq s H XE l z ys hr os ⟨m,b,A,R,ns,rfl,rfl⟩
 obtain⟨q,rfl,hq⟩:=Ja os
 refine Ev.S.cast (aw (any (bs:=(List.range A.ta.length).map λi=>(b.house.thing i).name==ns) (a1 (E.cast (lc 2 (L:=List.range A.ta.length) (λi=>V.ref (dG A i).1) (λ_=>true) (λi=>V.bl ((b.house.thing i).name==ns)) (E.cast ((fld (nm 0) R.aX).lst (aF.of R.lt)) (by rw[Jb])) (λy hy s1 H0 C cl fp=>iQ) (λy hy _ s1 H0 C cl fp=>by
  obtain⟨x,hx⟩:=R.sV (t:=y) (by rw[<-R.nt];exact List.mem_range.mp hy)
  rw[lq hx]
  exact E.cast (cI (XB (ns:=(b.house.thing y).name.map λ(n:Nat)=>(n:Int)) (ms:=ns.map λ(n:Nat)=>(n:Int)) hr.units) (E.cast ((fld (nm 2) (R.Ul hx)).lst (aF.of (R.Um hx))) (by rw[List.map_map];rfl)) (E.cast ((nm 1).lst hq) (by rw[List.map_map];rfl))) (by rw[Jc])) (by rw[List.length_range,R.nt];exact big R.inv.nt (by decide)) rm.nd) (by rw[Ev.filter_all,List.map_map];rfl)).rd a0) (G.b _ (by decide)))) ?_
 rw[List.any_map,R.nt]
 congr 2
 exact any_range b.house ns
def iy(m:Addr)(b:Book)(A:aQ)(l:List Sh)(z:Sh):Prop:=∃(e:Nat)(t:Nat),l= [.v (.ref m),.v (.int e),.v (.int t)]/\z=.v (.int (gB (b.house.do_ (.unbook e t)).2))
theorem iz:ao ["museum","show","thing","kept"] ["museum","show","thing"] (ah (top 190)):=b5
theorem o8(D:Dn K mg "unbook_refusal" 190)(G:Gs mg)(aW:Cal P w K mg ae "has_show" 1 (Rq K eJ)):Cal P w K mg ae "unbook_refusal" 2 (Rq K iy):=by
 refine Cal.ofD D mU iz Rq.up ?_
 rintro f aK A0 aq s H XE l z ys hr os ⟨m,b,A,R,e,t,rfl,rfl⟩
 obtain rfl:=dv.vs (xs:= [(.ref m),(.int e),(.int t)]) os
 rw[qg]
 refine aR (cz (aI (call (aW.at hr) (a1 (nm 0) (a1 (nm 1) a0)) ⟨m,b,A,R,e,rfl,rfl⟩))) (aw (G.k (i:= -2))) (by cases b.house.show_ e<;>simp) (by decide) λn1=> ?_
 obtain⟨x,hx,h6,hS,Uo⟩:=R.vj n1
 refine gQ 3 (ix ((fld (nm 0) R.dY).lst (aF.of R.ls)) (nm 1) (Mg hx)) ?_ iz.nd
 refine aR (aI (fld (nm 3) hS.t4)) (aw (G.k (i:= -15))) (by exact Iff.rfl) (by decide) λn2=> ?_
 refine aR (ai (BW rfl (je _)) (nm 2) ((fld (nm 3) hS.dy).lst (aF.of hS.booked))) (aw (G.k (i:= -6))) (by rw[jD];simp) (by decide) λn3=> ?_
 refine Ev.S.cast (aw (G.k (i:=0))) ?_
 exact iw
end
section
variable{K:W.Frag}{H:Hp}{m:Addr}{b:Book}{A:aQ}
theorem Qr(R:Rep K H m b A)(p:Nat):(b.house.at_ p).length<sizeLine:=by
 unfold House.at_
 refine Nat.lt_of_le_of_lt (List.length_filter_le _ _) ?_
 rw[List.length_range]
 exact big R.inv.nt (by decide)
theorem qx:∀(n:Nat)(l:List Nat),l.Nodup->(∀x∈l,x<n)->l.length<=n
 | 0,l,_,h=>by
   cases l with
   |nil=>exact Nat.le_refl _
   |cons a l=>exact absurd (h a List.mem_cons_self) (by omega)
 |n+1,l,nd,h=>by
  have ih:=qx n (l.filter λx=>decide (x≠n)) (nd.sublist List.filter_sublist) λx hx=>by
   obtain⟨h1,h2⟩:=List.mem_filter.mp hx
   have:=h x h1
   have:x≠n:=of_decide_eq_true h2
   omega
  have e:l.length<=(l.filter λx=>decide (x≠n)).length+1:=by
   have c:l.countP (λx=>decide (x=n))<=1:=by
    have:=List.nodup_iff_count.mp nd n
    unfold List.count at this
    rw[show(λx=>decide (x=n))=(λx=>x==n) from funext λx=>(Bool.beq_eq_decide_eq _ _).symm]
    exact this
   have s:l.length=l.countP (λx=>decide (x≠n))+l.countP (λx=>decide (x=n)):=by
    rw[List.length_eq_countP_add_countP (λx=>decide (x≠n))]
    congr 1
    apply List.countP_congr
    intro x _
    simp
   rw[<-List.countP_eq_length_filter]
   omega
  omega
theorem uf(R:Rep K H m b A){np:Nat}{s:Km383.Show}(o:PZ np b.house.things.length s):s.things.length<sizeLine:=by
 have:=qx _ _ o.nd o.th
 exact big (Nat.le_trans this R.inv.nt) (by decide)
theorem rq(R:Rep K H m b A)(t:Nat):(dZ b A t).length<=6:=by
 have h1:(dZ b A t).length<=(live b A).length:=List.length_filter_le _ _
 have h2:=jc b A
 have h3:=R.six
 omega
theorem Mh(R:Rep K H m b A)(t:Nat){y:V}:((dZ b A t).map sW).length+ [y].length<=sizeLine:=by
 have:=rq R t
 rw[List.length_map]
 show(dZ b A t).length+1<=_
 exact Nat.le_of_lt (cu (by omega))
theorem Qs{L:List LS}(x:LS):Sh.n (L.map sW++ [V.ref x.1.1])=Sh.n ((L++ [x]).map sW):=by
 rw[List.map_append]
 rfl
theorem Aa{h:House}(I:cj h){e t:Nat}{s:Km383.Show}(hs:h.shows[e]? =some (some s))(n:¬((h.booked t).any λx=>Km383.meet s.first s.end_ x.first x.end_)=true):k9 (s::h.booked t):=
 ⟨λx hx w=>n (List.any_eq_true.mpr ⟨x,hx,oJ.mpr w⟩),ve I t⟩
end
section
variable{P:Program}{w:World}{K:W.Frag}{mg:Str->Option Value}{ae:Heap}
def gg(m:Addr)(b:Book)(A:aQ)(l:List Sh)(z:Sh):Prop:=∃(p:Nat)(ns:List Nat),l= [.v (.ref m),.v (.int p),.l (ns.map nV)]/\(p<b.house.places.length)/\z=.v (.bl (decide (((b.house.at_ p).filter λt=> !(ns.contains t)).length+ns.length<=(b.house.place p).room)))
theorem kl:ao ["museum","place","coming","staying","thing"] ["museum","place","coming"] (ah (top 192)):=b5
theorem sx(D:Dn K mg "has_room_for" 192)(G:Gs mg)(dk:Cal P w K mg ae "things_at" 1 (Rq K jE)):Cal P w K mg ae "has_room_for" 2 (Rq K gg):=by
 refine Cal.ofD D mU kl Rq.up ?_
 rintro f aK A0 aq s H XE l z ys hr os ⟨m,b,A,R,p,ns,rfl,hp,rfl⟩
 obtain⟨q,rfl,hq⟩:=xK os
 obtain⟨a,ha⟩:=R.xJ hp
 refine Xy 3 4 (L:=b.house.at_ p) nV (λt=> !(ns.contains t)) nV (call (dk.at hr) (a1 (nm 0) (a1 (nm 1) a0)) ⟨m,b,A,R,p,rfl,rfl⟩).rd (λy hy s1 H0 C cl fp=>jB (T.cast (ai (BW rfl (je _)) (nm 4) ((nm 2).lst hq)) (congrArg (!·) (jD y ns)))) (λy hy _ s1 H0 C cl fp=>nm 4) (λc H' S' hc=> ?_) (Qr R p) kl.nd
 have R':=R.up S'
 refine Ev.S.cast (aw (cI N4 (add (len (a1 ((nm 3).lst (aF.of hc)) a0) (G.b _ (by decide))) (len (a1 ((nm 2).lst (S'.seq hq)) a0) (G.b _ (by decide)))) (fld (ix ((fld (nm 0) R'.dw).lst (aF.of R'.lp)) (nm 1) (IV ha)) (R'.IQ ha)))) ?_
 rw[List.length_map,List.length_map]
 congr 2
 exact decide_eq_decide.mpr (by omega)
def km(m:Addr)(b:Book)(A:aQ)(l:List Sh)(z:Sh):Prop:=∃(e:Nat)(t:Nat),l= [.v (.ref m),.v (.int e),.v (.int t)]/\z=.v (.int (gB (b.house.do_ (.book e t)).2))
theorem gh:ao ["museum","show","thing","kept","others"] ["museum","show","thing"] (ah (top 188)):=b5
theorem sy(D:Dn K mg "book_refusal" 188)(G:Gs mg)(bF:Cal P w K mg ae "shows_with" 2 (Rq K fL))(eh:Cal P w K mg ae "is_lent_after" 2 (Rq K jh))(bW:Cal P w K mg ae "any_meets" 2 (Rq K gA))(gC:Cal P w K mg ae "light_with" 2 (Rq K mY))(aW:Cal P w K mg ae "has_show" 1 (Rq K eJ))(aB:Cal P w K mg ae "has_thing" 1 (Rq K cw)):Cal P w K mg ae "book_refusal" 3 (Rq K km):=by
 refine Cal.ofD D mU gh Rq.up ?_
 rintro f aK A0 aq s H XE l z ys hr os ⟨m,b,A,R,e,t,rfl,rfl⟩
 obtain rfl:=dv.vs (xs:= [(.ref m),(.int e),(.int t)]) os
 rw[xo]
 refine aR (tY (w_or (cz (aI (call (aW.at hr) (a1 (nm 0) (a1 (nm 1) a0)) ⟨m,b,A,R,e,rfl,rfl⟩))) λ_=>(gP (cz (aI (call (aB.at hr) (a1 (nm 0) (a1 (nm 2) a0)) ⟨m,b,A,R,t,rfl,rfl⟩)))))) (aw (G.k (i:= -2))) (by cases b.house.show_ e<;>simp) (by decide) λn1=> ?_
 obtain⟨RT,n1b⟩:=not_or.mp n1
 have ht:t<b.house.things.length:=by omega
 obtain⟨y,hy⟩:=R.sV ht
 obtain⟨x,hx,h6,hS,Uo⟩:=R.vj RT
 have oS:=R.inv.sh e _ (dF RT)
 obtain⟨a,ha⟩:=R.xJ oS.place
 refine gQ 3 (ix ((fld (nm 0) R.dY).lst (aF.of R.ls)) (nm 1) (Mg hx)) ?_ gh.nd
 refine aR (aI (fld (nm 3) hS.t4)) (aw (G.k (i:= -15))) Iff.rfl (by decide) λn2=> ?_
 refine aR (ai (Xu rfl (je _)) (nm 2) ((fld (nm 3) hS.dy).lst (aF.of hS.booked))) (aw (G.k (i:= -17))) (by rw[jD]) (by decide) λn3=> ?_
 refine II (sh':=.n ((dZ b A t).map sW)) 4 (call (bF.at hr) (a1 (nm 0) (a1 (nm 2) a0)) ⟨m,b,A,R,t,rfl,rfl⟩) (λv H' S' hv=> ?_) gh.nd
 obtain⟨q,ev,hq⟩:=hv
 subst ev
 have R':=R.up S'
 have Em:=hS.up S'
 refine aR (tY (w_or (aI (call (eh.at hr) (a1 (nm 0) (a1 (nm 2) (a1 (fld (nm 3) Em.qo) a0))) ⟨m,b,A,R',t,_,rfl,ht,rfl⟩)) λ_=>(gP (aI (call (bW.at hr) (a1 ((nm 4).lst (aF.of hq)) (a1 (fld (nm 3) Em.qo) (a1 (fld (nm 3) Em.wt) a0))) ⟨m,b,A,R',dZ b A t,_,_,rfl,λy hy=>(List.mem_filter.mp hy).1,t8 R t,rfl⟩))))) (aw (G.k (i:= -16))) (by rw[Bool.or_eq_true,z6,R.jd,List.any_map];exact Iff.rfl) (by decide) λn4=> ?_
 refine aR (ai RM (len (a1 ((fld (nm 3) Em.dy).lst (aF.of Em.booked)) a0) (G.b _ (by decide))) (fld (ix ((fld (nm 0) R'.dw).lst (aF.of R'.lp)) (fld (nm 3) Em.wq) (IV ha)) (R'.IQ ha))) (aw (G.k (i:= -12))) (by rw[List.length_map,decide_eq_true_eq];omega) (by decide) λn5=> ?_
 have By:k9 (House.aH b.house e::(dZ b A t).map (·.2)):=by
  rw[<-R.jd]
  exact Aa R.inv (dF RT) (λz=>n4 (.inr z))
 refine aR (ai rS (call (gC.at hr) (a1 (nm 0) (a1 (nm 2) (a1 (E.cast (cat (Mh R t) ((nm 4).own hq) (lst (xs:= [.ref x.1]) (a1 (nm 3) a0) (by show 1<=sizeLine;decide))) (Qs (x,House.aH b.house e))).rd a0))) ⟨m,b,A,R',t,dZ b A t++ [(x,House.aH b.house e)],rfl,ht,λz hz=>(List.mem_append.mp hz).elim (λh=>(List.mem_filter.mp h).1) (λh=>by rw[List.mem_singleton.mp h];exact Uo),by simp,by rw[List.length_append];have:=rq R t;simp;omega,rfl⟩) (fld (ix ((fld (nm 0) R'.aX).lst (aF.of R'.lt)) (nm 2) (wu hy)) (R'.xI hy))) (aw (G.k (i:= -33))) (by rw[decide_eq_true_eq,zX By,R.jd];dsimp only;omega) (by decide) λn6=> ?_
 exact Ev.S.cast (aw (G.k (i:=0))) iw
def ko(m:Addr)(b:Book)(A:aQ)(l:List Sh)(z:Sh):Prop:=∃(e:Nat),l= [.v (.ref m),.v (.int e)]/\z=.v (.int (gB (b.house.do_ (.hang e)).2))
theorem ei:ao ["museum","show","kept","thing"] ["museum","show"] (ah (top 193)):=b5
theorem sA(D:Dn K mg "hang_refusal" 193)(G:Gs mg)(aW:Cal P w K mg ae "has_show" 1 (Rq K eJ))(cn:Cal P w K mg ae "has_room_for" 2 (Rq K gg))(a8:Cal P w K mg ae "is_harmed" 1 (Rq K eV))(aJ:Cal P w K mg ae "is_lent" 1 (Rq K dN))(bG:Cal P w K mg ae "is_hanging" 3 (Rq K fN)):Cal P w K mg ae "hang_refusal" 4 (Rq K ko):=by
 refine Cal.ofD D mH ei Rq.up ?_
 rintro f aK A0 aq s H XE l z ys hr os ⟨m,b,A,R,e,rfl,rfl⟩
 obtain rfl:=dv.vs (xs:= [(.ref m),(.int e)]) os
 rw[xq]
 refine aR (cz (aI (call (aW.at hr) (a1 (nm 0) (a1 (nm 1) a0)) ⟨m,b,A,R,e,rfl,rfl⟩))) (aw (G.k (i:= -2))) (by cases b.house.show_ e<;>simp) (by decide) λn1=> ?_
 obtain⟨x,hx,h6,hS,Uo⟩:=R.vj n1
 have oS:=R.inv.sh e _ (dF n1)
 refine gQ 2 (ix ((fld (nm 0) R.dY).lst (aF.of R.ls)) (nm 1) (Mg hx)) ?_ ei.nd
 refine aR (aI (fld (nm 2) hS.t4)) (aw (G.k (i:= -17))) Iff.rfl (by decide) λn2=> ?_
 refine aR (tY (w_or (ai zT (fld (nm 0) R.dg) (fld (nm 2) hS.qo)) λ_=>(gP (ai RM (fld (nm 0) R.dg) (fld (nm 2) hS.wt))))) (aw (G.k (i:= -13))) (by simp) (by decide) λn3=> ?_
 refine aR (aI (any (bs:=(House.aH b.house e).things.map λt=>(b.house.thing t).back.isSome||b.house.hangs t) (a1 (E.cast (lc 3 (L:=(House.aH b.house e).things) nV (λ_=>true) (λt=>V.bl ((b.house.thing t).back.isSome||b.house.hangs t)) ((fld (nm 2) hS.dy).lst (aF.of hS.booked)) (λy hy s1 H0 C cl fp=>iQ) (λy hy _ s1 H0 C cl fp=>L3 (call (aJ.at hr) (a1 (nm 0) (a1 (nm 3) a0)) ⟨m,b,A,R,y,rfl,oS.th y hy,rfl⟩) λ_=>iq (call (bG.at hr) (a1 (nm 0) (a1 (nm 3) a0)) ⟨m,b,A,R,y,rfl,rfl⟩)) (uf R oS) ei.nd) (by rw[Ev.filter_all,List.map_map];rfl)).rd a0) (G.b _ (by decide)))) (aw (G.k (i:= -16))) (by rw[List.any_map];exact Iff.rfl) (by decide) λn4=> ?_
 refine aR (aI (any (bs:=(House.aH b.house e).things.map λt=>decide (3<=(b.house.thing t).harm)) (a1 (E.cast (lc 3 (L:=(House.aH b.house e).things) nV (λ_=>true) (λt=>V.bl (decide (3<=(b.house.thing t).harm))) ((fld (nm 2) hS.dy).lst (aF.of hS.booked)) (λy hy s1 H0 C cl fp=>iQ) (λy hy _ s1 H0 C cl fp=>call (a8.at hr) (a1 (nm 0) (a1 (nm 3) a0)) ⟨m,b,A,R,y,rfl,oS.th y hy,rfl⟩) (uf R oS) ei.nd) (by rw[Ev.filter_all,List.map_map];rfl)).rd a0) (G.b _ (by decide)))) (aw (G.k (i:= -61))) (by rw[List.any_map];exact Iff.rfl) (by decide) λn5=> ?_
 refine aR (cz (aI (call (cn.at hr) (a1 (nm 0) (a1 (fld (nm 2) hS.wq) (a1 ((fld (nm 2) hS.dy).lst (aF.of hS.booked)) a0))) ⟨m,b,A,R,_,_,rfl,oS.place,rfl⟩))) (aw (G.k (i:= -12))) (by simp;omega) (by decide) λn6=> ?_
 exact Ev.S.cast (aw (G.k (i:=0))) iw
end
end Mu
namespace Ev
open PySem PySem.Spec PyProof.Rows L2
section
variable{X:Cx}{o e:Expr}{rest:List Stmt}{σ:L2.St}{H:Hp}{D:Ends}{pos pos':PySem.Pos}
theorem cv{p:Addr}{f:Str}{y:V}(ho:E X o σ H (.v (.ref p)))(he:E X e σ H (.v y))
 (h:∀H2,au H H2->∃C dx fs,H2 p=some (.ins C dx fs)/\wW X.K C/\bX X.K C f/\fs.length<1000/\sb X rest D σ (upd H2 p (.ins C dx (cY f y fs))))
 (hs:swapsWith e (some (.Attribute o f pos')) pos.line X.env=pure false:=by rfl):sb X (.Assign [.Attribute o f pos'] e pos::rest) D σ H:=
 cQ (aU (Hx az az hs) aD) (he H (au.refl _) _ λv H1 S1 ov=>ho H1 S1 _ λw H2 S2 ow=>by
  have ev:v=y:=ov
  have ew:w=.ref p:=ow
  subst ev ew
  obtain⟨C,dx,fs,h1,h2,h3,h4,h5⟩:=h H2 (S1.trans S2)
  exact⟨p,C,dx,fs,rfl,h1,h2,h3,h4,h5⟩)
theorem cB{y:V}(he:E X e σ H (.v y))(h:∀H2,au H H2->D.rt y H2):sb X (.Return (some e) pos::rest) D σ H:=
 cQ (aU (wR az) (lT (sts:=rest))) (he H (au.refl _) _ λv H1 S1 ov=>by
  have ev:v=y:=ov
  subst ev
  exact h H1 S1)
theorem dH(i:Nat){x:Str}{y:V}(h:E X e σ H (.v y))(h':∀H2,au H H2->sb X rest D (σ.set i (some y)) H2)(hN:X.N.Nodup)(hi:X.N[i]? =some x:=by rfl)(hx:Loc X.env.scope x:=by exact Or.inl rfl)
 (hs:swapsWith e (some (.Name x pos')) pos.line X.env=pure false:=by rfl)(hf:X.fn x=true\/X.env.scope.names.lookup x=some .local:=by first|exact .inl rfl|exact .inr rfl|assumption):sb X (.Assign [.Name x pos'] e pos::rest) D σ H:=
 cQ (aU (p5 hN hi hx az hs hf) aD) (h H (au.refl _) _ λv H2 S2 ov=>by
  have ev:v=y:=ov
  subst ev
  exact h' H2 S2)
end
end Ev
namespace Mu
open PySem PySem.Spec PyProof.Rows L2 Ev
open Km383 (House Book)
structure Fr(m:Addr)(G:List Addr)(A A':aQ)(H H':Hp):Prop where
 keep:∀y o,H y=some o->(∀P,A.at m P≠some y)->y∉G->H' y=some o
 new:∀P y,A'.at m P=some y->(∃P',A.at m P'=some y)\/H y=none\/y∈G
theorem Fr.same{m:Addr}{G:List Addr}{A:aQ}{H H':Hp}(S:au H H'):Fr m G A A H H':=⟨λy o h _ _=>S y o h,λP y h=>.inl ⟨P,h⟩⟩
theorem Fr.upd{m:Addr}{G:List Addr}{A:aQ}{H H':Hp}{x:Addr}{o:HO}{P:Spot}(S:au H H')(hx:A.at m P=some x):Fr m G A A H (upd H' x o):=
 ⟨λy u h n _=>by rw[aj (λe=>n P (by rw[hx,e]))];exact S y u h,λP y h=>.inl ⟨P,h⟩⟩
theorem Fr.trans{m:Addr}{G:List Addr}{A A1 A2:aQ}{H H1 H2:Hp}(a:Fr m G A A1 H H1)(b:Fr m G A1 A2 H1 H2)(ow:∀P y,A.at m P=some y->∃o,H y=some o):Fr m G A A2 H H2:=
 ⟨λy o h n g=>b.keep y o (a.keep y o h n g) (λP q=>by
   rcases a.new P y q with⟨P',q'⟩|q'|q'
   ·exact n P' q'
   ·rw[h] at q';cases q'
   ·exact g q') g,λP y h=>by
   rcases b.new P y h with⟨P',q⟩|q|q
   ·exact a.new P' y q
   ·by_cases g:y∈G
    ·exact .inr (.inr g)
    ·by_cases n:∃P',A.at m P'=some y
     ·exact .inl n
     ·right;left
      cases e:H y with
      |none=>rfl
      |some o=>
       rw[a.keep y o e (λP z=>n ⟨P,z⟩) g] at q
       cases q
   ·exact .inr (.inr q)⟩
theorem d8.change{H H':Hp}{C:Cs}{m:Addr}{b b':Book}{A:aQ}(R:d8 H C m b A)(P0:Spot){x:Addr}(hx:A.at m P0=some x)(hH:∀y,y≠x->H' y=H y)(h0:(exp C b' A P0).holds H' x)
 (he:∀P,P≠P0->(A.at m P).isSome=true->exp C b' A P=exp C b A P)(np:b'.house.places.length=b.house.places.length)(nt:b'.house.things.length=b.house.things.length)(ns:b'.house.shows.length=b.house.shows.length)(ne:b'.log.length=b.log.length)
 (so:∀e:Nat,(b'.house.show_ e).isSome=(b.house.show_ e).isSome):d8 H' C m b' A where
 ex:=λP a ha=>by
  by_cases q:P=P0
  ·subst q
   have e:a=x:=Option.some.inj (ha.symm.trans hx)
   subst e
   exact h0
  ·rw[he P q (by rw[ha];rfl)]
   exact cK.of (hH a λz=>q (R.inj P P0 a ha (by rw[hx,z]))) (R.ex P a ha)
 inj:=R.inj
 np:=R.np.trans np.symm
 nt:=R.nt.trans nt.symm
 ns:=R.ns.trans ns.symm
 ne:=R.ne.trans ne.symm
 so:=λe=>(R.so e).trans (so e).symm
theorem jG{H:Hp}{x:Addr}{o:HO}:∀y,y≠x->upd H x o y=H y:=λy h=>aj h
def spM(K:W.Frag)(ψ:Addr->Book->aQ->List V->Book->V->Prop)(G:List V->List Addr):Sp:=λys H Q _=>∃m b A b' r,Rep K H m b A/\ψ m b A ys b' r/\(∀g∈G ys,∀P,A.at m P≠some g)/\∀H' A',Rep K H' m b' A'->Fr m (G ys) A A' H H'->Q r H'
structure iR(P:Program)(w:World)(K:W.Frag)(mg:Str->Option Value)(ae:Heap)(x:Str)(k:Nat)(ψ:Addr->Book->aQ->List V->Book->V->Prop)(G:List V->List Addr):Prop where
 ex:∃(f:Addr)(fd:FuncData)(ps:List Str),bD P w K mg ae eT k f fd ps (spM K ψ G)/\mg x=some (.ref f)/\W.keepIn K (.ref f)=true/\Binds K fd ps []
abbrev qy:List V->List Addr:=λ_=> []
section
variable{P:Program}{w:World}{K:W.Frag}{mg:Str->Option Value}{ae:Heap}
theorem iR.ofD{x:Str}{i:Nat}{N ps:List Str}{k:Nat}{ψ:Addr->Book->aQ->List V->Book->V->Prop}{G:List V->List Addr}(D:Dn K mg x i)(hb:∀(f:Addr)(fd:FuncData),jq K x x (top i) f fd->Binds K fd ps [])(Sc:ao N ps (ah (top i)))
 (body:∀(f:Addr)(aK:Value)(A0:Around)(aq:List Env)(s:Shared)(H:Hp)(XE:XK)(ys:List V)(Q:VK)(m:Addr)(b:Book)(A:aQ)(b':Book)(r:V),dC k (A0.deeper (envOfC x (ah (top i)) s.heap.objs.size f aK))->Rep K H m b A->ψ m b A ys b' r->(∀g∈G ys,∀P,A.at m P≠some g)->
   (∀H' A',Rep K H' m b' A'->Fr m (G ys) A A' H H'->Q r H')->sb (bx P w K mg ae N x (top i) f aK A0 aq s H XE) (bL (top i)) { nx:=λ_ H'=>Q .non H',rt:=Q } (start N ys) H)(len:∀m b A ys b' r,ψ m b A ys b' r->ys.length=ps.length:=by intro _ _ _ _ _ _ h;repeat (first| (rw[h.1];rfl)| (rw[h];rfl)| (obtain⟨_,h⟩:=h))):iR P w K mg ae x (k+1) ψ G:=by
 obtain⟨f,fd,F,hm⟩:=D
 refine⟨⟨f,fd,ps,F.ok Sc (λvs H Q E h=> ?_) (λaK A0 aq s H vs Q E hr h=> ?_),hm,F.kp,hb f fd F⟩⟩
 ·obtain⟨m,b,A,b',r,_,Jd,_⟩:=h
  exact len m b A vs b' r Jd
 ·obtain⟨m,b,A,b',r,R,Jd,hG,hQ⟩:=h
  exact⟨_,aD,body f aK A0 aq s H E vs Q m b A b' r hr R Jd hG hQ⟩
theorem En{C:Cs}{b:Book}{A:aQ}{t p:Nat}(ht:t<b.house.things.length):∀P,P≠.th t->exp C ⟨b.house.put t p,b.log⟩ A P=exp C b A P
 | .mu,_| .lp,_| .lt,_| .ls,_| .le,_| .pl _,_| .sh _,_| .bk _,_| .en _,_=>rfl
 | .th i,h=>by
   have n:i≠t:=λe=>h (by rw[e])
   show cK.ins _ (bz (b.house.put t p) i _ _ _)=cK.ins _ (bz b.house i _ _ _)
   unfold bz
   rw[da,if_neg (λz=>n z.1),gN ht,if_neg n]
 | .nm i,_=>by
   show cK.lst (((b.house.put t p).thing i).name.map nV)=_
   rw[da]
   by_cases q:i=t/\t<b.house.things.length
   ·rw[if_pos q,q.1]
    rfl
   ·rw[if_neg q]
    rfl
 | .li i,_=>by
   show cK.lst ((aC (b.house.put t p) i).map nV)=cK.lst ((aC b.house i).map nV)
   unfold aC
   rw[oN]
   congr 2
   apply List.map_congr_left
   intro k hk
   rw[List.mem_range] at hk
   have hk:k<b.house.today - (b.house.thing i).came+1:=hk
   by_cases q:(b.house.thing i).came<=b.house.today
   ·exact Ic (by omega)
   ·have:k=0:=by omega
    subst this
    rw[dM (by rw[oN];omega),dM (by omega)]
 | .st i,_=>by
   show cK.lst ((a6 (b.house.put t p) i).map nV)=cK.lst ((a6 b.house i).map nV)
   rw[jC (h:=b.house) (g:=b.house.put t p) rfl (oN _ _ _ _) λd hd=>oM hd]
def mZ(m:Addr)(b:Book)(A:aQ)(ys:List V)(b':Book)(r:V):Prop:=∃t p:Nat,ys= [.ref m,.int t,.int p]/\t<b.house.things.length/\p<b.house.places.length/\b'=⟨b.house.put t p,b.log⟩/\r=.int 0
theorem vk:ao ["museum","thing","place"] ["museum","thing","place"] (ah (top 172)):=b5
theorem vm(D:Dn K mg "move_thing" 172)(G:Gs mg):iR P w K mg ae "move_thing" 1 mZ qy:=by
 refine iR.ofD D mU vk ?_
 rintro f aK A0 aq s H XE ys Q m b A b' r hr R ⟨t,p,rfl,ht,hp,rfl,rfl⟩ _ hQ
 obtain⟨x,hx⟩:=R.sV ht
 refine cv (ix ((fld (nm 0) R.aX).lst (aF.of R.lt)) (nm 1) (wu hx)) (nm 2) λH2 S2=> ?_
 obtain⟨C,T,R2⟩:=(R.up S2).ex
 have m3:A.at m (.th t)=some x.1:=by show(A.ta[t]?).map (·.1)=_;rw[hx];rfl
 obtain⟨dx,ho⟩:=R2.ex (.th t) x.1 m3
 refine⟨C.t,dx,_,ho,T.t,T.tf _ (by decide),(by show 9<1000;decide),cB int λH3 S3=> ?_⟩
 have R3:d8 (upd H2 x.1 (.ins C.t dx (cY "place" (.int p) (bz b.house t (dG A t).2.1 (dG A t).2.2.1 (dG A t).2.2.2)))) C m ⟨b.house.put t p,b.log⟩ A:=by
  refine R2.change (.th t) m3 jG ⟨dx,?_⟩ (λP h _=>En ht P h) rfl (tQ _ _ _) rfl rfl (λ_=>rfl)
  rw[ak]
  congr 2
  show _=bz (b.house.put t p) t _ _ _
  unfold bz
  rw[da,if_pos ⟨rfl,ht⟩,gN ht,if_pos rfl]
  rfl
 exact hQ H3 A ⟨⟨C,T,R3.up S3⟩,ib R.inv hp,R.log⟩ ((Fr.upd (G:= []) S2 m3).trans (Fr.same S3) λP y h=>cK.some (R2.ex P y h)|>.elim λo ho=>(by
  obtain⟨C',T',R'⟩:=R.ex
  exact cK.some (R'.ex P y h)))
end
end Mu
namespace Ev
open PySem PySem.Spec PyProof.Rows L2
section
variable{X:Cx}{o e arg:Expr}{es:List Expr}{rest:List Stmt}{σ:L2.St}{H:Hp}{D:Ends}{pos pos' apos:PySem.Pos}
theorem dB(h:D.nx σ H):sb X [] D σ H:=cQ lS h
theorem xV{Q Q':VK}(h:se X e σ H Q)(q:∀v H',Q v H'->Q' v H'):se X e σ H Q':=λag s I=>dJ (h ag s I) λ_ _ ⟨v,H',I',r,z⟩=>⟨v,H',I',r,q v H' z⟩
theorem dh{l:Addr}{xs0:List V}(ho:E X o σ H (.v (.ref l)))(hl:H l=some (.lst xs0))(ha:∀H1,au H H1->se X arg σ H1 λy H2=>∃xs,H2 l=some (.lst xs)/\xs.length<sizeLine/\sb X rest D σ (upd H2 l (.lst (xs++ [y]))))
 (hs:swapsWith (.Call (.Attribute o "append" apos) [arg] [] pos') none pos.line X.env=pure false:=by rfl)(cC:attributeBase o "append" X.env (eval o X.env)=eval o X.env:=by rfl)
 (nE:((backTo pos' (starEach [arg] X.env)).all (λx=> !x.1)&&(backToKw pos' (keywordEach [] X.env)).all (λx=>x.1.isSome)
   &&decide ([arg].length+([]:List Keyword).length+(if ([]:List Keyword).isEmpty then 0 else 1)<30))=true:=by rfl)
 (hline:(apos.endLine==pos'.line)=true:=by rfl)(hU:starEach [arg] X.env=(false,eval arg X.env)::starEach [] X.env:=by rfl):
 sb X (.Expr (.Call (.Attribute o "append" apos) [arg] [] pos') pos::rest) D σ H:=
 cQ (aU (sM (zm PySem.F.plainAttrs_list PySem.F.slot_list_append PySem.F.type_list_append Fp az (bJ az du hU) cC nE hline hU rfl) hs) aD)
  (ho H (au.refl _) _ λv H1 S1 ov=>by
    have ev:v=.ref l:=ov
    subst ev
    refine⟨.inl ⟨rfl,_,aF.of (S1 _ _ hl)⟩,xV (ha H1 S1) λy H2 ⟨xs,h1,h2,h3⟩=>⟨l,xs,y,rfl,rfl,h1,h2,h3⟩⟩)
def ji(C:Addr)(n:Nat)(φ:List V->Addr->Hp->Hp->Prop):Sp:=λvs H Q _=>∃(p dx:Addr)(ys:List V),vs=.ref p::ys/\ys.length=n/\H p=some (.ins C dx [])/\∀H',φ ys p H H'->(∀b o,H b=some o->b≠p->H' b=some o)->Q .non H'
theorem nQ{x:Str}{C f:Addr}{fd:FuncData}{ps:List Str}{k n:Nat}{φ:List V->Addr->Hp->Hp->Prop}{p:PySem.Pos}{ys:List V}{Q:VK}(M:Mk X.K C f)(F:bD X.prog X.w X.K X.mg X.ae eT k f fd ps (ji C n φ))(hr:dC (k+1) X.A)(hm:X.mg x=some (.ref C))(hb:Binds X.K fd ps [])
 (ha:A X (e::es) σ H (vs ys))(hn:ys.length=n)(hQ:∀a H0 H2,au H H0->H0 a=none->au H0 H2->(∃H1,φ ys a H1 H2/\au H0 H1)->Q (.ref a) H2)
 (hg:Gl X x:=by rfl)(tK:(x==("__debug__":Str))=false:=by decide)(he:starEach (e::es) X.env=(false,eval e X.env)::starEach es X.env:=by rfl)(hpl:(backTo pos (starEach es X.env)).any (·.1)=false:=by rfl):
 se X (.Call (.Name x p) (e::es) [] pos) σ H Q:=
 aY (DV (E:=E0) M F hr hg hm hb .nil mN mQ tK he hpl) (ha H (au.refl _) _ λzs H1 S1 os=>by
  have ez:=os.vs
  subst ez
  intro a dx na nd ne
  rw[List.append_nil]
  refine⟨a,dx,_,rfl,hn,ak,λH' Ab kp=>⟨rfl,hQ a H1 H' S1 na (au.made na nd kp) ⟨_,Ab,λy u hy=> ?_⟩⟩⟩
  rw[aj (aE hy na),aj (aE hy nd)]
  exact hy)
end
end Ev
namespace Mu
open PySem PySem.Spec PyProof.Rows L2 Ev
open Km383 (House Book)
section
variable{P:Program}{w:World}{K:W.Frag}{mg:Str->Option Value}{ae:Heap}
def Cg(u k r l:V):List (Str×V):= [("up",u),("kind",k),("room",r),("light",l)]
def xW(C:Addr)(ys:List V)(p:Addr)(_ H':Hp):Prop:=∀u k r l,ys= [u,k,r,l]->∃dx,H' p=some (.ins C dx (Cg u k r l))
abbrev Je:Stmt:=inClass (top 156) 0
theorem Jf:ao ["self","up","kind","room","light"] ["self","up","kind","room","light"] (ah Je):=b5
theorem Ci{f C:Addr}{fd:FuncData}(F:jq K "__init__" "Place.__init__" Je f fd)(T:wW K C)(nf:∀f∈(["up","kind","room","light"]:List Str),bX K C f):bD P w K mg ae eT 1 f fd ["self","up","kind","room","light"] (ji C 4 (xW C)):=by
 refine F.ok Jf (λvs H Q E h=> ?_) (λaK A0 aq s H vs Q E hr h=>⟨_,aD,?_⟩)
 ·obtain⟨p,dx,ys,rfl,hl,_⟩:=h
  show ys.length+1=5
  rw[hl]
 ·obtain⟨p,dx,ys,rfl,hl,hp,k⟩:=h
  obtain⟨u,ki,r,l,rfl⟩:=aai hl
  refine cv (nm 0) (nm 1) λH1 S1=>⟨C,dx, [],S1 _ _ hp,T,nf _ (by decide),(by decide),?_⟩
  refine cv (nm 0) (nm 2) λH2 S2=>⟨C,dx,_,S2 _ _ ak,T,nf _ (by decide),(by show 1<1000;decide),?_⟩
  refine cv (nm 0) (nm 3) λH3 S3=>⟨C,dx,_,S3 _ _ ak,T,nf _ (by decide),(by show 2<1000;decide),?_⟩
  refine cv (nm 0) (nm 4) λH4 S4=>⟨C,dx,_,S4 _ _ ak,T,nf _ (by decide),(by show 3<1000;decide),?_⟩
  refine dB (k _ (λu' k' r' l' e=> ?_) λb o h hb=> ?_)
  ·cases e
   exact⟨dx,ak⟩
  ·rw[aj hb]
   refine S4 _ _ ?_
   rw[aj hb]
   refine S3 _ _ ?_
   rw[aj hb]
   refine S2 _ _ ?_
   rw[aj hb]
   exact S1 _ _ h
theorem Ac{d v:Nat}:Km383.asOf [(d,v)] d=some v:=by
 unfold Km383.asOf
 simp
theorem o9{m:Addr}{A A':aQ}(N:List Spot)(inj:∀(P Q:Spot)(a:Addr),A.at m P=some a->A.at m Q=some a->P=Q)(m3:∀P,P∉N->A'.at m P=A.at m P)(PK:∀P∈N,∀a,A'.at m P=some a->∀Q,A.at m Q≠some a)
 (hin:∀P∈N,∀Q∈N,∀a,A'.at m P=some a->A'.at m Q=some a->P=Q):∀(P Q:Spot)(a:Addr),A'.at m P=some a->A'.at m Q=some a->P=Q:=λP Q a hP hQ=>by
 by_cases p:P∈N
 ·by_cases q:Q∈N
  ·exact hin P p Q q a hP hQ
  ·rw[m3 Q q] at hQ
   exact absurd hQ (PK P p a hP Q)
 ·rw[m3 P p] at hP
  by_cases q:Q∈N
  ·exact absurd hP (PK Q q a hQ P)
  ·rw[m3 Q q] at hQ
   exact inj P Q a hP hQ
theorem d8.tracked{H:Hp}{C:Cs}{m:Addr}{b:Book}{A:aQ}(R:d8 H C m b A){a:Addr}(h:H a=none):∀Q,A.at m Q≠some a:=λQ q=>by
 obtain⟨o,ho⟩:=cK.some (R.ex Q a q)
 rw[h] at ho
 cases ho
abbrev lA(A:aQ)(a:Addr):aQ:= { A with pa:=A.pa++ [a] }
theorem lB{m:Addr}{A:aQ}{a:Addr}:∀P,P∉ [Spot.pl A.pa.length]->(lA A a).at m P=A.at m P
 | .mu,_| .lp,_| .lt,_| .ls,_| .le,_| .th _,_| .nm _,_| .li _,_| .st _,_| .sh _,_| .bk _,_| .en _,_=>rfl
 | .pl i,h=>by
   show(A.pa++ [a])[i]? =A.pa[i]?
   rw[cD,if_neg (λe=>h (by rw[e];exact List.mem_singleton.mpr rfl))]
theorem Cj{H2:Hp}{C:Cs}{m:Addr}{b:Book}{A:aQ}{a dx:Addr}{up k r l:Nat}(I:cj b.house)(R:d8 H2 C m b A)(na:∀Q,A.at m Q≠some a)(n0:0<A.pa.length)
 (ho:H2 a=some (.ins C.p dx (Cg (.int up) (.int k) (.int r) (.int l)))):d8 (upd H2 A.lp (.lst (A.pa.map .ref++ [.ref a]))) C m ⟨de b.house ⟨up,k,r, [(b.house.today,l)]⟩,b.log⟩ (lA A a) where
 ex:=λP a' h=>by
  have hW:∀Q y,A.at m Q=some y->Q≠.lp->y≠A.lp:=λQ y hy hq e=>hq (R.inj Q .lp y hy (by rw[e];rfl))
  have old:∀Q,Q∉ [Spot.pl A.pa.length]->Q≠.lp->(lA A a).at m Q=some a'->(exp C b A Q).holds (upd H2 A.lp (.lst (A.pa.map .ref++ [.ref a]))) a':=λQ q1 q2 hQ=>by
   rw[lB Q q1] at hQ
   exact cK.of (aj (hW Q a' hQ q2)) (R.ex Q a' hQ)
  cases P with
  |mu=>exact old .mu (by simp) (by simp) h
  |lp=>
   have e:A.lp=a':=Option.some.inj h
   subst e
   show _=some (HO.lst ((A.pa++ [a]).map V.ref))
   rw[ak,List.map_append]
   rfl
  |lt=>exact old .lt (by simp) (by simp) h
  |ls=>exact old .ls (by simp) (by simp) h
  |le=>exact old .le (by simp) (by simp) h
  |pl i=>
   by_cases q:i=A.pa.length
   ·subst q
    have h:(A.pa++ [a])[A.pa.length]? =some a':=h
    rw[cD,if_pos rfl] at h
    have e:=Option.some.inj h
    subst e
    refine⟨dx,?_⟩
    rw[aj (λe=>na .lp (by rw[e];rfl)),ho]
    congr 2
    show _=dW (de b.house _) A.pa.length
    unfold dW Qm House.lightOn
    rw[R.np,lZ,if_pos rfl,if_neg (by rw[<-R.np];omega),Mu.Ac]
    rfl
   ·have o:=old (.pl i) (by simpa using q) (by simp) h
    have hi:i<b.house.places.length:=by
     have h:(A.pa++ [a])[i]? =some a':=h
     rw[cD,if_neg q] at h
     rw[<-R.np]
     exact(List.getElem?_eq_some_iff.mp h).1
    have e:exp C ⟨de b.house ⟨up,k,r, [(b.house.today,l)]⟩,b.log⟩ (lA A a) (.pl i)=exp C b A (.pl i):=by
     show cK.ins _ (dW (de b.house _) i)=cK.ins _ (dW b.house i)
     unfold dW Qm
     rw[qS hi,lZ,if_neg (show ¬i=b.house.places.length by omega)]
    rw[e]
    exact o
  |th i=>exact old (.th i) (by simp) (by simp) h
  |nm i=>exact old (.nm i) (by simp) (by simp) h
  |li i=>
   have o:=old (.li i) (by simp) (by simp) h
   have hi:i<b.house.things.length:=by
    have h:(A.ta[i]?).map (λx=>x.2.2.1)=some a':=h
    rw[<-R.nt]
    cases q:A.ta[i]? with
    |none=>rw[q] at h;cases h
    |some x=>exact(List.getElem?_eq_some_iff.mp q).1
   have e:aC (de b.house ⟨up,k,r, [(b.house.today,l)]⟩) i=aC b.house i:=by
    unfold aC
    apply List.map_congr_left
    intro j _
    exact Ig I hi
   show _=some (HO.lst ((aC (de b.house _) i).map nV))
   rw[e]
   exact o
  |st i=>exact old (.st i) (by simp) (by simp) h
  |sh i=>exact old (.sh i) (by simp) (by simp) h
  |bk i=>exact old (.bk i) (by simp) (by simp) h
  |en i=>exact old (.en i) (by simp) (by simp) h
 inj:=o9 [.pl A.pa.length] R.inj lB (λP hP a' h=>by
  have e:=List.mem_singleton.mp hP
  subst e
  have h:(A.pa++ [a])[A.pa.length]? =some a':=h
  rw[cD,if_pos rfl] at h
  have e:=Option.some.inj h
  subst e
  exact na) (λP hP Q hQ _ _ _=>by rw[List.mem_singleton.mp hP,List.mem_singleton.mp hQ])
 np:=by
  show(A.pa++ [a]).length=(b.house.places++ [_]).length
  rw[List.length_append,List.length_append,R.np]
  rfl
 nt:=R.nt
 ns:=R.ns
 ne:=R.ne
 so:=R.so
def pd(m:Addr)(b:Book)(A:aQ)(ys:List V)(b':Book)(r:V):Prop:=∃up k ro l:Nat,ys= [.ref m,.int up,.int k,.int ro,.int l]/\up<b.house.places.length/\k<=3/\(1<=ro/\ro<=24)/\l<=10000/\b.house.places.length<12/\b'=⟨de b.house ⟨up,k,ro, [(b.house.today,l)]⟩,b.log⟩/\r=.int b.house.places.length
theorem xX:ao ["museum","up","kind","room","light"] ["museum","up","kind","room","light"] (ah (top 164)):=b5
theorem xY{f1:Addr}{ug:FuncData}(D:Dn K mg "add_place" 164)(G:Gs mg)(hC:∀C:Cs,Tx K C.m C.p C.t C.s->mg "Place"=some (.ref C.p)/\Mk K C.p f1/\bD P w K mg ae eT 1 f1 ug ["self","up","kind","room","light"] (ji C.p 4 (xW C.p)))(bI:Binds K ug ["self","up","kind","room","light"] []):iR P w K mg ae "add_place" 3 pd qy:=by
 refine iR.ofD D Y9 xX ?_
 rintro f aK A0 aq s H XE ys Q m b A b' r hr R ⟨up,k,ro,l,rfl,h1,h2,h3,h4,h5,rfl,rfl⟩ _ hQ
 refine dh (fld (nm 0) R.dw) R.lp λH1 S1=> ?_
 obtain⟨C,T,R1⟩:=(R.up S1).ex
 obtain⟨mC,MC,FC⟩:=hC C T
 refine nQ (ys:= [.int up,.int k,.int ro,.int l]) MC FC hr mC bI (a1 (nm 1) (a1 (nm 2) (a1 (nm 3) (a1 (nm 4) a0)))) rfl λa H2 H3 S2 na S3 ⟨H4,Ab,_⟩=> ?_
 obtain⟨dx,ho⟩:=Ab _ _ _ _ rfl
 have R2:=R1.up S2
 have R3:=R2.up S3
 have n12:=R.inv.np
 have hn:=R2.tracked na
 refine⟨_,R3.ex .lp _ rfl,?_,?_⟩
 ·rw[List.length_map,R.np]
  exact cu (by omega)
 ·have R4:=Cj (up:=up) (k:=k) (r:=ro) (l:=l) R.inv R3 hn (by rw[R.np];omega) ho
  have K0:Rep K _ m ⟨de b.house ⟨up,k,ro, [(b.house.today,l)]⟩,b.log⟩ (lA A a):=⟨⟨C,T,R4⟩,v3 R.inv h1 h2 h3 h4 h5,R.log⟩
  refine cB (y:=.int b.house.places.length) (E.cast (sub (len (a1 ((fld (nm 0) K0.dw).lst (aF.of K0.lp)) a0) (G.b _ (by decide))) int) ?_) λH5 S5=> ?_
  ·rw[List.length_map]
   show Sh.v (V.int (((A.pa++ [a]).length:Nat) - 1))=_
   rw[List.length_append,R.np]
   congr 2
   show((b.house.places.length+1:Nat):Int) - 1=_
   omega
  ·refine hQ H5 _ (K0.up S5) ⟨λy o hy n _=>S5 _ _ ?_,λP y hy=> ?_⟩
   ·rw[aj (λe=>n .lp (by rw[e];rfl))]
    exact S3 _ _ (S2 _ _ (S1 _ _ hy))
   ·by_cases q:P∈ [Spot.pl A.pa.length]
    ·have e:=List.mem_singleton.mp q
     subst e
     have hy:(A.pa++ [a])[A.pa.length]? =some y:=hy
     rw[cD,if_pos rfl] at hy
     have e:=Option.some.inj hy
     subst e
     exact .inr (.inl ((S1.trans S2).free na))
    ·rw[lB P q] at hy
     exact .inl ⟨P,hy⟩
end
end Mu
namespace Ev
open PySem PySem.Spec PyProof.Rows L2
def Nl(X:Cx)(e:Expr)(σ:L2.St)(H:Hp)(xs:List V):Prop:=∀H1,au H H1->∀Q:VK,(∀a H2,au H1 H2->H1 a=none->H2 a=some (.lst xs)->Q (.ref a) H2)->se X e σ H1 Q
section
variable{X:Cx}{o e c arg:Expr}{es:List Expr}{bd rest:List Stmt}{σ:L2.St}{H:Hp}{D:Ends}{pos pos' apos:PySem.Pos}
theorem gT:Nl X (.List [] pos) σ H []:=λH1 _ Q hQ=>aY (nD du) ⟨Nat.zero_le _,λp hp=>hQ p _ (au.upd hp) hp ak⟩
theorem cx{y:V}(h:E X e σ H (.v y))(hs:starEach [e] X.env=(false,eval e X.env)::starEach [] X.env:=by rfl):Nl X (.List [e] pos) σ H [y]:=λH1 S1 Q hQ=>
 aY (nD (bJ az du hs)) (h H1 S1 _ λv H2 S2 ov=>by
  have ev:v=y:=ov
  subst ev
  exact⟨by show 1<=sizeLine;decide,λp hp=>hQ p _ (S2.trans (au.upd hp)) (S2.free hp) ak⟩)
theorem Jg{a b:Expr}{y:V}{k:Nat}(ha:Nl X a σ H [y])(hb:E X b σ H (.v (.int k)))(hk:k<=1000):Nl X (.BinOp a .Mult b pos) σ H (List.replicate k y):=λH1 S1 Q hQ=>
 aY (ot Py az az) (ha H1 S1 _ λl H2 S2 nl hl=>hb H2 (S1.trans S2) _ λw H3 S3 ow=>by
  have ew:w=.int k:=ow
  subst ew
  have hz:k<=sizeLine:=Nat.le_of_lt (cu hk)
  refine⟨l,(k:Int), [y],rfl,rfl,S3 _ _ hl,by omega,by omega,by rw[Int.toNat_natCast];simpa using hz,λp hp=> ?_⟩
  have e:(List.replicate (k:Int).toNat [y]).flatten=List.replicate k y:=by
   rw[Int.toNat_natCast]
   clear hQ hb ow hk hz
   induction k with
   |zero=>rfl
   |succ n ih=>rw[List.replicate_succ,List.flatten_cons,ih,List.replicate_succ];rfl
  rw[e]
  exact hQ p _ ((S2.trans S3).trans (au.upd hp)) ((S2.trans S3).free hp) ak)
theorem jH{f:Str}(h:se X e σ H λy H1=>∃p,E X o σ H1 (.v (.ref p))/\∀H2,au H1 H2->∃C dx fs,H2 p=some (.ins C dx fs)/\wW X.K C/\bX X.K C f/\fs.length<1000/\sb X rest D σ (upd H2 p (.ins C dx (cY f y fs))))
 (hs:swapsWith e (some (.Attribute o f pos')) pos.line X.env=pure false:=by rfl):sb X (.Assign [.Attribute o f pos'] e pos::rest) D σ H:=
 cQ (aU (Hx az az hs) aD) (xV h λy H1 ⟨p,ho,k⟩=>ho H1 (au.refl _) _ λw H2 S2 ow=>by
  have ew:w=.ref p:=ow
  subst ew
  obtain⟨C,dx,fs,h1,h2,h3,h4,h5⟩:=k H2 S2
  exact⟨p,C,dx,fs,rfl,h1,h2,h3,h4,h5⟩)
theorem dD(i:Nat){x:Str}(h:se X e σ H λy H1=>sb X rest D (σ.set i (some y)) H1)(hN:X.N.Nodup)(hi:X.N[i]? =some x:=by rfl)(hx:Loc X.env.scope x:=by exact Or.inl rfl)
 (hs:swapsWith e (some (.Name x pos')) pos.line X.env=pure false:=by rfl)(hf:X.fn x=true\/X.env.scope.names.lookup x=some .local:=by first|exact .inl rfl|exact .inr rfl|assumption):sb X (.Assign [.Name x pos'] e pos::rest) D σ H:=
 cQ (aU (p5 hN hi hx az hs hf) aD) h
theorem ph{k:Bool}(h:T X c σ H k)(h1:k=true->∀H2,au H H2->sb X bd { D with nx:=λaO H'=>sb X rest D aO H' } σ H2)(h2:k=false->∀H2,au H H2->sb X rest D σ H2):sb X (.If c bd [] pos::rest) D σ H:=
 cQ (aU (DQ il aD lS) aD) (h H (au.refl _) _ λH2 S2=>by
  cases k with
  |true=>exact h1 rfl H2 S2
  |false=>exact h2 rfl H2 S2)
theorem mh(W:Nat->L2.St->Hp->Prop){n:Nat}(h0:W n σ H)(ht:∀n σ H,W n σ H->∃k,T X c σ H k/\(k=true->∀H2,au H H2->sb X bd { D with nx:=λaO H'=>∃n',n'<n/\W n' aO H',ct:=λaO H'=>∃n',n'<n/\W n' aO H',bk:=λaO H'=>sb X rest D aO H' } σ H2)/\(k=false->∀H2,au H H2->sb X rest D σ H2))
 (hp:PassesOwn (model X.prog X.w) X.A X.env X.xe):sb X (.While c bd [] pos::rest) D σ H:=
 cQ (aU (Hm hp il aD) aD) ⟨W,⟨n,h0⟩,λn σ H w=>by
  obtain⟨k,hT,h1,h2⟩:=ht n σ H w
  refine hT H (au.refl _) _ λH2 S2=> ?_
  cases k with
  |true=>exact⟨_,λaO H' z=>z,h1 rfl H2 S2⟩
  |false=>exact h2 rfl H2 S2⟩
theorem XF(h:(∀y ob,X.K.lookup y=some ob->H y=none)->sb X bd D σ H):sb X bd D σ H:=λag s I=>h (λy ob hy=>(I.bs y ob (I.ok.mod.Rz y ob hy)).2) ag s I
theorem cS{x:Str}{f:Addr}{fd:FuncData}{ps:List Str}{k:Nat}{sp:Sp}{p:PySem.Pos}{ys:List V}{Q:VK}(F:bD X.prog X.w X.K X.mg X.ae eT k f fd ps sp)(hr:dC k X.A)(hm:X.mg x=some (.ref f))(hk:W.keepIn X.K (.ref f)=true)(hb:Binds X.K fd ps [])
 (ha:A X (e::es) σ H (vs ys))(hQ:∀H1,au H H1->sp ys H1 Q E0)(hg:Gl X x:=by rfl)(tK:(x==("__debug__":Str))=false:=by decide)
 (he:starEach (e::es) X.env=(false,eval e X.env)::starEach es X.env:=by rfl)(hpl:(backTo pos (starEach es X.env)).any (·.1)=false:=by rfl):se X (.Call (.Name x p) (e::es) [] pos) σ H Q:=
 aY (jr (E:=E0) F hr hg hm hk hb .nil mN mQ tK he hpl) (ha H (au.refl _) _ λzs H1 S1 os=>by
  have ez:=os.vs
  subst ez
  rw[List.append_nil]
  exact hQ H1 S1)
theorem Jh{l b:Addr}{xs zs:List V}(ho:E X o σ H (.v (.ref l)))(hl:H l=some (.lst xs))(ha:E X arg σ H (.v (.ref b)))(hb:H b=some (.lst zs))(hz:xs.length+zs.length<=sizeLine)(h:∀H2,au H H2->sb X rest D σ (upd H2 l (.lst (xs++zs))))
 (hs:swapsWith (.Call (.Attribute o "extend" apos) [arg] [] pos') none pos.line X.env=pure false:=by rfl)(cC:attributeBase o "extend" X.env (eval o X.env)=eval o X.env:=by rfl)
 (nE:((backTo pos' (starEach [arg] X.env)).all (λx=> !x.1)&&(backToKw pos' (keywordEach [] X.env)).all (λx=>x.1.isSome)
   &&decide ([arg].length+([]:List Keyword).length+(if ([]:List Keyword).isEmpty then 0 else 1)<30))=true:=by rfl)
 (hline:(apos.endLine==pos'.line)=true:=by rfl)(hU:starEach [arg] X.env=(false,eval arg X.env)::starEach [] X.env:=by rfl):
 sb X (.Expr (.Call (.Attribute o "extend" apos) [arg] [] pos') pos::rest) D σ H:=
 cQ (aU (sM (zm PySem.F.plainAttrs_list PySem.F.slot_list_extend PySem.F.type_list_extend Fq az (bJ az du hU) cC nE hline hU rfl) hs) aD)
  (ho H (au.refl _) _ λv H1 S1 ov=>by
    have ev:v=.ref l:=ov
    subst ev
    refine⟨.inl ⟨rfl,_,aF.of (S1 _ _ hl)⟩,ha H1 S1 _ λw H2 S2 ow=> ?_⟩
    have ew:w=.ref b:=ow
    subst ew
    exact⟨l,b,xs,zs,rfl,rfl,(S1.trans S2) _ _ hl,(S1.trans S2) _ _ hb,hz,h H2 (S1.trans S2)⟩)
end
end Ev
namespace Mu
open PySem PySem.Spec PyProof.Rows L2 Ev
open Km383 (House Book)
def pj:List Nat:= [0,4,2,4,2,1,2,3,2,3,2,2,1,2,1,2,2,1,1,0,0,1,1,1,0]
def bu(p:Nat):Bool:=HF (.int p) [.int 3,.int 21,.int 22]
structure CallAt(ns:List Int)(off p:Nat)(nums row rest:List Int):Prop where
 eq:ns.drop off=(p:Int)::(nums++((if bu p then((row.length:Int)::row) else [])++rest))
 nn:pj[p]? =some nums.length
 XG:bu p=false->row= []
structure Gn(K:W.Frag)(mg:Str->Option Value):Prop where
 n:∃a,mg "NUMBERS"=some (.ref a)/\∀H,pZ K H a (pj.map nV)
section
variable{K:W.Frag}{mg:Str->Option Value}{ns:List Int}{off p:Nat}{nums row rest:List Int}
theorem CallAt.get(c:CallAt ns off p nums row rest)(i:Nat):ns[off+i]? =((p:Int)::(nums++((if bu p then((row.length:Int)::row) else [])++rest)))[i]?:=by
 rw[<-c.eq,List.getElem?_drop]
theorem CallAt.p0(c:CallAt ns off p nums row rest):qP (ns.map V.int) (off:Int)=some (.int p):=cZ (by
 have h:=c.get 0
 rw[Nat.add_zero] at h
 rw[List.getElem?_map,h]
 rfl)
theorem CallAt.XH(c:CallAt ns off p nums row rest):qP (pj.map nV) (p:Int)=some (.int nums.length):=cZ (by rw[List.getElem?_map,c.nn];rfl)
theorem CallAt.Zc(c:CallAt ns off p nums row rest)(h:bu p=true):ns[off+(1+nums.length)]? =some (row.length:Int):=by
 rw[c.get,if_pos h]
 rw[show(1+nums.length)=nums.length+1 by omega,List.getElem?_cons_succ,List.getElem?_append_right (Nat.le_refl _),Nat.sub_self]
 rfl
theorem CallAt.XI(c:CallAt ns off p nums row rest):va (ns.map V.int) (some ((off+1:Nat):Int)) (some ((off+1+nums.length:Nat):Int))=nums.map V.int:=by
 rw[xF,<-List.map_drop,<-List.drop_drop,c.eq,List.drop_succ_cons,List.drop_zero,<-List.map_take,show off+1+nums.length - (off+1)=nums.length by omega,List.take_left]
theorem CallAt.XJ(c:CallAt ns off p nums row rest)(h:bu p=true)(n:Nat)(hn:n<=row.length):va (ns.map V.int) (some ((off+1+nums.length+1:Nat):Int)) (some ((off+1+nums.length+1+n:Nat):Int))=(row.take n).map V.int:=by
 rw[xF,<-List.map_drop,<-List.map_take]
 congr 1
 rw[show off+1+nums.length+1=off+(nums.length+1+1) by omega,<-List.drop_drop,c.eq,if_pos h,show off+(nums.length+1+1)+n - (off+(nums.length+1+1))=n by omega,List.drop_succ_cons,<-List.drop_drop,List.drop_left]
 show((row++rest)).take n=row.take n
 rw[List.take_append_of_le_length hn]
end
section
variable{P:Program}{w:World}{K:W.Frag}{mg:Str->Option Value}{ae:Heap}
theorem Ck:ao ["call"] ["call"] (ah (top 94)):=b5
def qz:Pre:=λ_ l z=>∃p:Nat,l= [.v (.int p)]/\z=.v (.bl (bu p))
theorem Cp(D:Dn K mg "has_row" 94)(G:Gs mg):Cal P w K mg ae "has_row" 1 qz:=by
 refine Cal.ofD D Bh Ck (λ_ _ _ _ _ h=>h) ?_
 rintro f aK A0 aq s H XE l z ys hr os ⟨p,rfl,rfl⟩
 obtain rfl:=dv.vs (xs:= [.int p]) os
 exact Ev.S.cast (aw (cI (Xv rfl rfl) (nm 0) (tup (xs:= [.int 3,.int 21,.int 22]) (a1 (G.k (i:=3)) (a1 (G.k (i:=21)) (a1 (G.k (i:=22)) a0))) (by show 3<=sizeLine;decide)))) rfl
def pk(φ:List Int->Nat->Nat->List Int->List Int->List Int->Sh->Prop):Pre:=λ_ l z=>∃(ns:List Int)(off p:Nat)(nums row rest:List Int),l= [.l (ns.map V.int),.v (.int off)]/\CallAt ns off p nums row rest/\φ ns off p nums row rest z
theorem pk.up{φ:List Int->Nat->Nat->List Int->List Int->List Int->Sh->Prop}:(pk φ).Up:=λ_ _ _ _ _ h=>h
theorem xZ:ao ["calls","at"] ["calls","at"] (ah (top 95)):=b5
theorem x3(D:Dn K mg "row_start" 95)(G:Gn K mg):Cal P w K mg ae "row_start" 1 (pk λns off p nums row rest z=>z=.v (.int ((off+1+nums.length+1:Nat):Int))):=by
 refine Cal.ofD D mH xZ pk.up ?_
 rintro f aK A0 aq s H XE l z ys hr os ⟨ns,off,p,nums,row,rest,rfl,c,rfl⟩
 obtain⟨q,rfl,hq⟩:=mV (vs:= [.int off]) os
 obtain⟨a,ha,hT⟩:=G.n
 refine Ev.S.cast (aw (add (add (add (nm 1) int) (Xw ((gl (y:=.ref a) (u:=.ref a) ha rfl).Xz (hT H)) (ix ((nm 0).lst hq) (nm 1) c.p0) c.XH)) int)) ?_
 congr 2
theorem vn:ao ["calls","at"] ["calls","at"] (ah (top 96)):=b5
theorem uh:ao ["calls","at","start"] ["calls","at"] (ah (top 98)):=b5
theorem Cq(D:Dn K mg "next_at" 98)(G:Gn K mg)(eM:Cal P w K mg ae "has_row" 1 qz)(dq:Cal P w K mg ae "row_start" 1 (pk λns off p nums row rest z=>z=.v (.int ((off+1+nums.length+1:Nat):Int)))):
 Cal P w K mg ae "next_at" 2 (pk λns off p nums row rest z=>z=.v (.int ((off+1+nums.length+(if bu p then 1+row.length else 0):Nat):Int))):=by
 refine Cal.ofD D mH uh pk.up ?_
 rintro f aK A0 aq s H XE l z ys hr os ⟨ns,off,p,nums,row,rest,rfl,c,rfl⟩
 obtain⟨q,rfl,hq⟩:=mV (vs:= [.int off]) os
 obtain⟨a,ha,hT⟩:=G.n
 refine zU (cz (aI (call (eM.at hr) (a1 (ix ((nm 0).lst hq) (nm 1) c.p0) a0) ⟨p,rfl,rfl⟩))) (λh=> ?_) (λh=> ?_)
 ·refine Ev.S.cast (aw (add (add (nm 1) int) (Xw ((gl (y:=.ref a) (u:=.ref a) ha rfl).Xz (hT H)) (ix ((nm 0).lst hq) (nm 1) c.p0) c.XH))) ?_
  have h:bu p=false:=by simpa using h
  rw[h]
  congr 2
 ·have h:bu p=true:=by simpa using h
  refine gQ 2 (call (dq.at hr) (a1 ((nm 0).lst hq) (a1 (nm 1) a0)) ⟨ns,off,p,nums,row,rest,rfl,c,rfl⟩) ?_ uh.nd
  refine Ev.S.cast (aw (add (nm 2) (ix (x:=.int row.length) ((nm 0).lst hq) (sub (nm 2) int) ?_))) ?_
  ·rw[show((off+1+nums.length+1:Nat):Int) - 1=((off+(1+nums.length):Nat):Int) by omega]
   exact cZ (by rw[List.getElem?_map,c.Zc h];rfl)
  ·rw[h]
   congr 2
   rw[if_pos rfl]
   omega
theorem rz:ao ["calls","at","start"] ["calls","at"] (ah (top 97)):=b5
end
def Mi(lp lt ls le:Addr):List (Str×V):= [("today",.int 0),("places",.ref lp),("things",.ref lt),("shows",.ref ls),("entries",.ref le)]
def Cr(lp lt ls le a:Addr):aQ:=⟨lp,lt,ls,le, [a], [],List.replicate 6 none, []⟩
theorem pq{α:Type}(n i:Nat)(x d:α)(h:x=d):(List.replicate n x).getD i d=d:=by
 rw[List.getD_eq_getElem?_getD,List.getElem?_replicate]
 split
 ·exact h
 ·rfl
theorem pv{m lp lt ls le a:Addr}{P:Spot}{y:Addr}(h:(Cr lp lt ls le a).at m P=some y):(P=.mu/\y=m)\/(P=.lp/\y=lp)\/(P=.lt/\y=lt)\/(P=.ls/\y=ls)\/(P=.le/\y=le)\/(P=.pl 0/\y=a):=by
 cases P with
 |mu=>exact .inl ⟨rfl,(Option.some.inj h).symm⟩
 |lp=>exact .inr (.inl ⟨rfl,(Option.some.inj h).symm⟩)
 |lt=>exact .inr (.inr (.inl ⟨rfl,(Option.some.inj h).symm⟩))
 |ls=>exact .inr (.inr (.inr (.inl ⟨rfl,(Option.some.inj h).symm⟩)))
 |le=>exact .inr (.inr (.inr (.inr (.inl ⟨rfl,(Option.some.inj h).symm⟩))))
 |pl i=>
  cases i with
  |zero=>exact .inr (.inr (.inr (.inr (.inr ⟨rfl,(Option.some.inj h).symm⟩))))
  |succ i=>
   have h:([a]:List Addr)[i+1]? =some y:=h
   simp at h
 |th i=>cases(show(([]:List (Addr×Addr×Addr×Addr))[i]?).map (λx=>x.1)=some y from h)
 |nm i=>cases(show(([]:List (Addr×Addr×Addr×Addr))[i]?).map (λx=>x.2.1)=some y from h)
 |li i=>cases(show(([]:List (Addr×Addr×Addr×Addr))[i]?).map (λx=>x.2.2.1)=some y from h)
 |st i=>cases(show(([]:List (Addr×Addr×Addr×Addr))[i]?).map (λx=>x.2.2.2)=some y from h)
 |sh i=>
  have h:((List.replicate 6 (none:Option (Addr×Addr))).getD i none).map (λx=>x.1)=some y:=h
  rw[pq _ _ _ _ rfl] at h
  cases h
 |bk i=>
  have h:((List.replicate 6 (none:Option (Addr×Addr))).getD i none).map (λx=>x.2)=some y:=h
  rw[pq _ _ _ _ rfl] at h
  cases h
 |en i=>cases(show([]:List Addr)[i]? =some y from h)
theorem Ct{H:Hp}{C:Cs}{m lp lt ls le a dm dp:Addr}(hm:H m=some (.ins C.m dm (Mi lp lt ls le)))(h1:H lp=some (.lst [.ref a]))(h2:H lt=some (.lst []))(h3:H ls=some (.lst (List.replicate 6 .non)))(h4:H le=some (.lst []))
 (h5:H a=some (.ins C.p dp (Cg .non (.int 0) (.int 24) (.int 0))))(nd:lp≠lt/\lp≠ls/\lp≠le/\lt≠ls/\lt≠le/\ls≠le/\m≠a):d8 H C m Km383.fresh (Cr lp lt ls le a) where
 ex:=λP y h=>by
  rcases pv h with⟨rfl,rfl⟩|⟨rfl,rfl⟩|⟨rfl,rfl⟩|⟨rfl,rfl⟩|⟨rfl,rfl⟩|⟨rfl,rfl⟩
  ·exact⟨dm,hm⟩
  ·exact h1
  ·exact h2
  ·exact h3
  ·exact h4
  ·exact⟨dp,h5⟩
 inj:=λP Q y hP hQ=>by
  have k1:m≠lp:=j6 hm h1 (by intro z;cases z)
  have k2:m≠lt:=j6 hm h2 (by intro z;cases z)
  have k3:m≠ls:=j6 hm h3 (by intro z;cases z)
  have k4:m≠le:=j6 hm h4 (by intro z;cases z)
  have k5:a≠lp:=j6 h5 h1 (by intro z;cases z)
  have k6:a≠lt:=j6 h5 h2 (by intro z;cases z)
  have k7:a≠ls:=j6 h5 h3 (by intro z;cases z)
  have k8:a≠le:=j6 h5 h4 (by intro z;cases z)
  obtain⟨n1,n2,n3,n4,n5,n6,n7⟩:=nd
  rcases pv hP with⟨rfl,e⟩|⟨rfl,e⟩|⟨rfl,e⟩|⟨rfl,e⟩|⟨rfl,e⟩|⟨rfl,e⟩<;>rcases pv hQ with⟨rfl,e'⟩|⟨rfl,e'⟩|⟨rfl,e'⟩|⟨rfl,e'⟩|⟨rfl,e'⟩|⟨rfl,e'⟩<;>
   first
    |rfl
    | (exfalso;subst e;first
        |exact k1 e'|exact k2 e'|exact k3 e'|exact k4 e'|exact k5 e'|exact k6 e'|exact k7 e'|exact k8 e'|exact n1 e'|exact n2 e'|exact n3 e'|exact n4 e'|exact n5 e'|exact n6 e'|exact n7 e'
        |exact k1 e'.symm|exact k2 e'.symm|exact k3 e'.symm|exact k4 e'.symm|exact k5 e'.symm|exact k6 e'.symm|exact k7 e'.symm|exact k8 e'.symm|exact n1 e'.symm|exact n2 e'.symm|exact n3 e'.symm|exact n4 e'.symm|exact n5 e'.symm|exact n6 e'.symm|exact n7 e'.symm)
 np:=rfl
 nt:=rfl
 ns:=rfl
 ne:=rfl
 so:=λe=>by
  show((List.replicate 6 (none:Option (Addr×Addr))).getD e none).isSome=((List.replicate 6 (none:Option Km383.Show)).getD e none).isSome
  rw[pq _ _ _ _ rfl,pq _ _ _ _ rfl]
  rfl
section
variable{P:Program}{w:World}{K:W.Frag}{mg:Str->Option Value}{ae:Heap}
def N9(C:Cs):Sp:=λvs H Q _=>∃(p dx:Addr),vs= [.ref p]/\H p=some (.ins C.m dx [])/\∀H' A,d8 H' C p Km383.fresh A->(∀P y,A.at p P=some y->y=p\/H y=none)->(∀b o,H b=some o->b≠p->H' b=some o)->Q .non H'
abbrev Eo:Stmt:=inClass (top 159) 0
theorem F5:ao ["self"] ["self"] (ah Eo):=b5
theorem Ad{f f1:Addr}{fd ug:FuncData}{C:Cs}(F:jq K "__init__" "Museum.__init__" Eo f fd)(T:Tx K C.m C.p C.t C.s)(G:Gs mg)(mC:mg "Place"=some (.ref C.p))(MC:Mk K C.p f1)(FC:bD P w K mg ae eT 1 f1 ug ["self","up","kind","room","light"] (ji C.p 4 (xW C.p)))(bI:Binds K ug ["self","up","kind","room","light"] []):
 bD P w K mg ae eT 3 f fd ["self"] (N9 C):=by
 refine F.ok F5 (λvs H Q E h=> ?_) (λaK A0 aq s H vs Q E hr h=>⟨_,aD,?_⟩)
 ·obtain⟨p,dx,rfl,_⟩:=h
  rfl
 ·obtain⟨p,dx,rfl,hp,k⟩:=h
  refine cv (nm 0) int λH1 S1=>⟨C.m,dx, [],S1 _ _ hp,T.m,T.mf _ (by decide),(by decide),?_⟩
  have s1:∀b o,H b=some o->b≠p->upd H1 p (.ins C.m dx (cY "today" (.int 0) [])) b=some o:=λb o h hb=>by rw[aj hb];exact S1 _ _ h
  refine jH (aY (nD (bJ az du)) (nQ (ys:= [.non,.int 0,.int 24,.int 0]) MC FC hr mC bI (a1 non (a1 (G.k (i:=0)) (a1 (G.k (i:=24)) (a1 int a0)))) rfl λa H2 H3 S2 na S3 ⟨H4,Ab,_⟩=>⟨by show 1<=sizeLine;decide,λlp Ae=> ?_⟩))
  obtain⟨dp,ha⟩:=Ab _ _ _ _ rfl
  refine⟨p,nm 0,λH5 S5=> ?_⟩
  have Vp:au H3 H5:=(au.upd Ae).trans S5
  have Uq:=Vp _ _ (S3 _ _ (S2 _ _ (ak (H:=H1) (a:=p) (o:=.ins C.m dx (cY "today" (.int 0) [])))))
  have Ji:H5 lp=some (.lst [.ref a]):=S5 _ _ ak
  have ha5:=Vp _ _ ha
  refine⟨C.m,dx,_,Uq,T.m,T.mf _ (by decide),(by show 1<1000;decide),?_⟩
  refine jH (gT _ (au.refl _) _ λlt H6 S6 Ur gJ=> ?_)
  refine⟨p,nm 0,λH7 S7=>⟨C.m,dx,_,S7 _ _ (S6 _ _ ak),T.m,T.mf _ (by decide),(by show 2<1000;decide),?_⟩⟩
  refine jH (Jg (k:=6) (cx non) (G.k (i:=6)) (by decide) _ (au.refl _) _ λls H8 S8 Ep Mj=> ?_)
  refine⟨p,nm 0,λH9 S9=>⟨C.m,dx,_,S9 _ _ (S8 _ _ ak),T.m,T.mf _ (by decide),(by show 3<1000;decide),?_⟩⟩
  refine jH (gT _ (au.refl _) _ λle Vg Jj Hc hle=> ?_)
  refine⟨p,nm 0,λQt Jk=>⟨C.m,dx,_,Jk _ _ (Jj _ _ ak),T.m,T.mf _ (by decide),(by show 4<1000;decide),?_⟩⟩
  have pa:p≠a:=λe=>by
   have q:=S2 _ _ (ak (H:=H1) (a:=p) (o:=.ins C.m dx (cY "today" (.int 0) [])))
   rw[e,na] at q
   cases q
  have Oa:lp≠p:=j6 Ji Uq (by intro z;cases z)
  have up1:∀b o,H5 b=some o->b≠p->H7 b=some o:=λb o h hb=>S7 _ _ (S6 _ _ (by rw[aj hb];exact h))
  have Qu:∀b o,H7 b=some o->b≠p->H9 b=some o:=λb o h hb=>S9 _ _ (S8 _ _ (by rw[aj hb];exact h))
  have Us:∀b o,H9 b=some o->b≠p->Qt b=some o:=λb o h hb=>Jk _ _ (Jj _ _ (by rw[aj hb];exact h))
  have np:∀{G:Hp}{q:Addr}{o:HO},(upd G p o) q=none->q≠p:=λh e=>by rw[e,ak] at h;cases h
  have RV:lt≠p:=np Ur
  have RW:ls≠p:=np Ep
  have Qv:le≠p:=np Hc
  have Qw:H7 lt=some (.lst []):=S7 _ _ gJ
  have Ut:H9 ls=some (.lst (List.replicate 6 .non)):=S9 _ _ Mj
  have vM:∀{q:Addr}{o:HO},(upd H5 p o) q=none->q≠p->H5 q=none:=λh e=>by rw[aj e] at h;exact h
  have e1:lp≠lt:=aE Ji (by rw[aj RV] at Ur;exact Ur)
  have e2:lp≠ls:=aE (up1 _ _ Ji Oa) (by rw[aj RW] at Ep;exact Ep)
  have e3:lp≠le:=aE (Qu _ _ (up1 _ _ Ji Oa) Oa) (by rw[aj Qv] at Hc;exact Hc)
  have e4:lt≠ls:=aE Qw (by rw[aj RW] at Ep;exact Ep)
  have e5:lt≠le:=aE (Qu _ _ Qw RV) (by rw[aj Qv] at Hc;exact Hc)
  have e6:ls≠le:=aE Ut (by rw[aj Qv] at Hc;exact Hc)
  have XM:∀q,H5 q=none->H q=none:=λq hq=>by
   cases z:H q with
   |none=>rfl
   |some o=>
    by_cases e:q=p
    ·rw[e,Uq] at hq;cases hq
    ·rw[Vp _ _ (S3 _ _ (S2 _ _ (s1 q o z e)))] at hq;cases hq
  refine dB (k _ (Cr lp lt ls le a) (Ct (dm:=dx) (dp:=dp) ak (by rw[aj Oa];exact Us _ _ (Qu _ _ (up1 _ _ Ji Oa) Oa) Oa) (by rw[aj RV];exact Us _ _ (Qu _ _ Qw RV) RV) (by rw[aj RW];exact Us _ _ Ut RW) (by rw[aj Qv];exact Jk _ _ hle)
   (by rw[aj pa.symm];exact Us _ _ (Qu _ _ (up1 _ _ ha5 pa.symm) pa.symm) pa.symm) ⟨e1,e2,e3,e4,e5,e6,pa⟩) (λP y hy=> ?_) λb o h hb=> ?_)
  ·rcases pv hy with⟨_,rfl⟩|⟨_,rfl⟩|⟨_,rfl⟩|⟨_,rfl⟩|⟨_,rfl⟩|⟨_,rfl⟩
   ·exact .inl rfl
   ·right
    cases z:H y with
    |none=>rfl
    |some o=>
     by_cases e:y=p
     ·exact absurd e Oa
     ·rw[S3 _ _ (S2 _ _ (s1 y o z e))] at Ae;cases Ae
   ·exact .inr (XM _ (by rw[aj RV] at Ur;exact Ur))
   ·right
    refine XM _ ?_
    cases z:H5 y with
    |none=>rfl
    |some o=>
     rw[aj RW] at Ep
     rw[up1 _ _ z RW] at Ep;cases Ep
   ·right
    refine XM _ ?_
    cases z:H5 y with
    |none=>rfl
    |some o=>
     rw[aj Qv] at Hc
     rw[Qu _ _ (up1 _ _ z Qv) Qv] at Hc;cases Hc
   ·right
    cases z:H y with
    |none=>rfl
    |some o=>
     by_cases e:y=p
     ·exact absurd e.symm pa
     ·rw[S2 _ _ (s1 y o z e)] at na;cases na
  ·rw[aj hb]
   exact Us _ _ (Qu _ _ (up1 _ _ (Vp _ _ (S3 _ _ (S2 _ _ (s1 b o h hb)))) hb) hb) hb
end
theorem nR:∀(a b:List (List (List Int))),PyFlat.put (a++b)=PyFlat.put a++PyFlat.put b
 | [],_=>rfl
 |c::a,b=>by
  show PyFlat.put1 c++PyFlat.put (a++b)=(PyFlat.put1 c++PyFlat.put a)++PyFlat.put b
  rw[nR a b,List.append_assoc]
def mI(cs:List (List (List Int)))(k:Nat):Nat:=(PyFlat.put (cs.take k)).length
theorem Af(cs:List (List (List Int)))(k:Nat):(PyFlat.put cs).drop (mI cs k)=PyFlat.put (cs.drop k):=by
 have e:PyFlat.put cs=PyFlat.put (cs.take k)++PyFlat.put (cs.drop k):=by rw[<-nR,List.take_append_drop]
 rw[e]
 unfold mI
 rw[List.drop_left]
theorem F6{cs:List (List (List Int))}{k:Nat}{c:List (List Int)}(h:cs[k]? =some c):mI cs (k+1)=mI cs k+(PyFlat.put1 c).length:=by
 unfold mI
 rw[cO h,nR,List.length_append]
 show _+(PyFlat.put1 c++PyFlat.put []).length=_
 rw[List.length_append]
 rfl
theorem wz{α:Type}{cs:List α}{k:Nat}{c:α}(h:cs[k]? =some c):cs.drop k=c::cs.drop (k+1):=by
 obtain⟨hk,e⟩:=List.getElem?_eq_some_iff.mp h
 rw[<-e]
 exact List.drop_eq_getElem_cons hk
structure Parts(c:List (List Int))(p:Nat)(nums row:List Int):Prop where
 put:PyFlat.put1 c=(p:Int)::(nums++(if bu p then((row.length:Int)::row) else []))
 nn:pj[p]? =some nums.length
 XG:bu p=false->row= []
 st:p=0↔bK c=.start
theorem Parts.at{cs:List (List (List Int))}{k p:Nat}{c:List (List Int)}{nums row:List Int}(q:Parts c p nums row)(h:cs[k]? =some c):CallAt (PyFlat.put cs) (mI cs k) p nums row (PyFlat.put (cs.drop (k+1))) where
 eq:=by
  rw[Af,wz h]
  show PyFlat.put1 c++PyFlat.put (cs.drop (k+1))=_
  rw[q.put,List.cons_append,List.append_assoc]
 nn:=q.nn
 XG:=q.XG
theorem Parts.len{c:List (List Int)}{p:Nat}{nums row:List Int}(q:Parts c p nums row):(PyFlat.put1 c).length=1+nums.length+(if bu p then 1+row.length else 0):=by
 rw[q.put,List.length_cons,List.length_append]
 split
 ·rw[List.length_cons]
  omega
 ·rw[List.length_nil]
  omega
theorem nonneg{z:Int}{k:Nat}(h:Km383Neutral.natural z k=true):0<=z:=by
 unfold Km383Neutral.natural at h
 rw[Bool.and_eq_true,decide_eq_true_eq] at h
 exact h.1
theorem Jl{p:Nat}(h:bu p=false){r:List Int}:(if bu p=true then r else [])= []:=by rw[h];rfl
theorem gM{c:List (List Int)}{p:Nat}(h:(p==0)=false)(e:Km383Neutral.isStart (bK c)=false):p=0↔bK c=.start:=⟨λq=>(by rw[q] at h;cases h),λq=>(by rw[q] at e;cases e)⟩
theorem cN{c:List (List Int)}{p:Nat}{nums:List Int}(h:bu p=false)(hp:PyFlat.put1 c=(p:Int)::nums)(nn:pj[p]? =some nums.length)(st:p=0↔bK c=.start):∃p nums row,Parts c p nums row:=
 ⟨p,nums, [],⟨by rw[hp,Jl h,List.append_nil],nn,λ_=>rfl,st⟩⟩
theorem Cu{c:List (List Int)}{p:Nat}{nums row:List Int}(h:bu p=true)(hp:PyFlat.put1 c=(p:Int)::(nums++((row.length:Int)::row)))(nn:pj[p]? =some nums.length)(st:p=0↔bK c=.start):∃p nums row,Parts c p nums row:=
 ⟨p,nums,row,⟨by rw[hp,if_pos h],nn,(λz=>by rw[h] at z;cases z),st⟩⟩
theorem mj(b r0:List Int):PyFlat.put1 [b,r0]=b++((r0.length:Int)::r0):=by
 show b++(((r0.length:Int)::r0)++ [])=_
 rw[List.append_nil]
theorem pz{c:List (List Int)}(h:Km383Neutral.asked1 c=true):∃p nums row,Parts c p nums row:=by
 revert c
 apply Vk
 ·intros;exact cN (p:=0) (nums:= []) (by decide) rfl rfl ⟨λ_=>rfl,λ_=>rfl⟩
 ·intros;exact cN (p:=1) (nums:= [_,_,_,_]) (by decide) rfl rfl (gM rfl rfl)
 ·intros;exact cN (p:=2) (nums:= [_,_]) (by decide) rfl rfl (gM rfl rfl)
 ·intros;exact Cu (p:=3) (nums:= [_,_,_,_]) (by decide) (mj _ _) rfl (gM rfl rfl)
 ·intros;exact cN (p:=4) (nums:= [_,_]) (by decide) rfl rfl (gM rfl rfl)
 ·intros;exact cN (p:=5) (nums:= [_]) (by decide) rfl rfl (gM rfl rfl)
 ·intros;exact cN (p:=6) (nums:= [_,_]) (by decide) rfl rfl (gM rfl rfl)
 ·intros;exact cN (p:=7) (nums:= [_,_,_]) (by decide) rfl rfl (gM rfl rfl)
 ·intros;exact cN (p:=8) (nums:= [_,_]) (by decide) rfl rfl (gM rfl rfl)
 ·intros;exact cN (p:=9) (nums:= [_,_,_]) (by decide) rfl rfl (gM rfl rfl)
 ·intros;exact cN (p:=10) (nums:= [_,_]) (by decide) rfl rfl (gM rfl rfl)
 ·intros;exact cN (p:=11) (nums:= [_,_]) (by decide) rfl rfl (gM rfl rfl)
 ·intros;exact cN (p:=12) (nums:= [_]) (by decide) rfl rfl (gM rfl rfl)
 ·intros;exact cN (p:=13) (nums:= [_,_]) (by decide) rfl rfl (gM rfl rfl)
 ·intros;exact cN (p:=14) (nums:= [_]) (by decide) rfl rfl (gM rfl rfl)
 ·intros;exact cN (p:=15) (nums:= [_,_]) (by decide) rfl rfl (gM rfl rfl)
 ·intros;exact cN (p:=16) (nums:= [_,_]) (by decide) rfl rfl (gM rfl rfl)
 ·intros;exact cN (p:=17) (nums:= [_]) (by decide) rfl rfl (gM rfl rfl)
 ·intros;exact cN (p:=18) (nums:= [_]) (by decide) rfl rfl (gM rfl rfl)
 ·intros;exact cN (p:=19) (nums:= []) (by decide) rfl rfl (gM rfl rfl)
 ·intros;exact cN (p:=20) (nums:= []) (by decide) rfl rfl (gM rfl rfl)
 ·intros;exact Cu (p:=21) (nums:= [_]) (by decide) (mj _ _) rfl (gM rfl rfl)
 ·intros;exact Cu (p:=22) (nums:= [_]) (by decide) (mj _ _) rfl (gM rfl rfl)
 ·intros;exact cN (p:=23) (nums:= [_]) (by decide) rfl rfl (gM rfl rfl)
 ·intros;exact cN (p:=24) (nums:= []) (by decide) rfl rfl (gM rfl rfl)
 ·exact λc h _ z=>by rw[h] at z;cases z
def after(b:Book)(cs:List (List (List Int))):Book:=cs.foldl (λb c=>(Km383.act b (bK c)).1) b
theorem ui:∀(cs:List (List (List Int)))(b:Book)(c:List (List Int)),run b (cs++ [c])=run b cs++ [Km383Neutral.told (Km383.act (after b cs) (bK c)).2]
 | [],_,_=>rfl
 |d::cs,b,c=>by
  show _::run _ (cs++ [c])=_::(run _ cs++_)
  rw[ui cs _ c]
  rfl
theorem Cv(cs:List (List (List Int)))(b:Book)(c:List (List Int)):after b (cs++ [c])=(Km383.act (after b cs) (bK c)).1:=by
 unfold after
 rw[List.foldl_append]
 rfl
theorem F7(l:List (List Int))(a:List Int):PyFlat.told (l++ [a])=(PyFlat.told l++ [(a.length:Int)])++a:=by
 unfold PyFlat.told
 rw[List.flatMap_append,List.append_assoc]
 simp
theorem uj:∀(cs:List (List (List Int)))(b:Book),Good b->Good (after b cs)
 | [],_,h=>h
 |c::cs,b,h=>uj cs _ (Iv h (bK c))
def Jm(K:W.Frag):Sp:=λvs H Q _=>∃(a:Addr)(ns:List Int),vs= [.ref a]/\aF K H a (ns.map V.int)/\PyKm383.answers_asked ns=true/\∀(H':Hp)(p:Addr),H' p=some (.lst ((PyKm383.answers ns).map V.int))->Q (.ref p) H'
theorem Er:∀(cs:List (List (List Int)))(b:Book),(run b cs).length=cs.length
 | [],_=>rfl
 |c::cs,b=>by
  show(run _ cs).length+1=cs.length+1
  rw[Er cs]
theorem Ag:∀(l:List (List Int)),(∀a∈l,a.length<=130)->(PyFlat.told l).length<=131 * l.length
 | [],_=>Nat.le_refl _
 |a::l,h=>by
  have ih:=Ag l λx hx=>h x (List.mem_cons_of_mem _ hx)
  have ha:=h a List.mem_cons_self
  show(((a.length:Int)::a)++PyFlat.told l).length<=_
  rw[List.length_append,List.length_cons,List.length_cons]
  omega
theorem Rep.Ob{K:W.Frag}{H H':Hp}{m:Addr}{b:Book}{A:aQ}(R:Rep K H m b A)(h:∀P y o,A.at m P=some y->H y=some o->H' y=some o):Rep K H' m b A:=by
 obtain⟨C,T,R'⟩:=R.ex
 refine⟨⟨C,T,⟨λP y hy=> ?_,R'.inj,R'.np,R'.nt,R'.ns,R'.ne,R'.so⟩⟩,R.inv,R.log⟩
 obtain⟨o,ho⟩:=cK.some (R'.ex P y hy)
 exact cK.of ((h P y o hy ho).trans ho.symm) (R'.ex P y hy)
section
variable{P:Program}{w:World}{K:W.Frag}{mg:Str->Option Value}{ae:Heap}
structure Lw(K:W.Frag)(H0:Hp)(a:Addr)(cs:List (List (List Int)))(k:Nat)(σ:L2.St)(H:Hp):Prop where
 ex:∃(m g:Addr)(A:aQ)(sd:Option V),σ= [some (.ref a),some (.ref m),some (.ref g),some (.int (mI cs k)),sd]/\Rep K H m (after Km383.fresh (cs.take k)) A/\au H0 H/\(∀P y,A.at m P=some y->H0 y=none)/\
  H g=some (.lst ((PyFlat.told (run Km383.fresh (cs.take k))).map V.int))/\H0 g=none/\(∀P,A.at m P≠some g)
 hk:k<=cs.length
 sm:∀x∈run Km383.fresh (cs.take k),x.length<=130
theorem Es{cs:List (List (List Int))}{k:Nat}(ha:∀c∈cs,Km383Neutral.asked1 c=true)(hk:k<=cs.length):(mI cs k<(PyFlat.put cs).length)↔k<cs.length:=by
 have e:=congrArg List.length (Af cs k)
 rw[List.length_drop] at e
 constructor
 ·intro h
  by_cases q:k<cs.length
  ·exact q
  ·rw[List.drop_of_length_le (by omega)] at e
   have e:(PyFlat.put cs).length - mI cs k=0:=e
   omega
 ·intro h
  have g:cs[k]? =some cs[k]:=List.getElem?_eq_getElem h
  obtain⟨p,nums,row,q⟩:=pz (ha _ (List.getElem_mem h))
  have l:=q.len
  rw[wz g] at e
  have e:(PyFlat.put cs).length - mI cs k=(PyFlat.put1 cs[k]++PyFlat.put (cs.drop (k+1))).length:=e
  rw[List.length_append] at e
  omega
abbrev Jn:Nat:=206
def F8(s:Stmt):List Stmt:=match s with
 | .While _ b _ _=>b
 |_=> []
def Uu:List Stmt:=(F8 ((bL (top Jn)).getD 3 (.Pass ⟨0,0,0,0⟩))).drop 1
theorem eD:ao ["calls","museum","given","at","said"] ["calls"] (ah (top Jn)):=b5
end
theorem Rep.kM{K:W.Frag}{H:Hp}{m:Addr}{b:Book}{A:aQ}(R:Rep K H m b A):∀P y,A.at m P=some y->∃o,H y=some o:=λP y h=>by
 obtain⟨C,T,R'⟩:=R.ex
 exact cK.some (R'.ex P y h)
section
variable{P:Program}{w:World}{K:W.Frag}{mg:Str->Option Value}{ae:Heap}
theorem F9{C:Cs}{b:Book}{A:aQ}{p l:Nat}(hp:p<b.house.places.length):∀P,P≠.pl p->exp C ⟨b4 b.house p l,b.log⟩ A P=exp C b A P
 | .mu,_| .lp,_| .lt,_| .ls,_| .le,_| .th _,_| .nm _,_| .st _,_| .sh _,_| .bk _,_| .en _,_=>rfl
 | .pl i,h=>by
   have n:i≠p:=λe=>h (by rw[e])
   show cK.ins _ (dW (b4 b.house p l) i)=cK.ins _ (dW b.house i)
   have e1:(b4 b.house p l).place i=b.house.place i:=by rw[fZ,if_neg (λz=>n z.1)]
   have e2:(b4 b.house p l).lightOn i b.house.today=b.house.lightOn i b.house.today:=by rw[mO hp (Nat.le_refl _),if_neg n]
   unfold dW Qm
   rw[e1]
   show cK.ins _ [_,_,_,(_,V.int ((b4 b.house p l).lightOn i b.house.today:Nat))]=_
   rw[e2]
 | .li i,_=>by
   show cK.lst ((aC (b4 b.house p l) i).map nV)=cK.lst ((aC b.house i).map nV)
   unfold aC
   congr 2
   apply List.map_congr_left
   intro k hk
   rw[List.mem_range] at hk
   have hk:k<b.house.today - (b.house.thing i).came+1:=hk
   by_cases q:(b.house.thing i).came<=b.house.today
   ·exact BI (show(b.house.thing i).came+k<=b.house.today by omega)
   ·have:k=0:=by omega
    subst this
    rw[dM (by show(b.house.thing i).came+0<=(b.house.thing i).came;omega),dM (by omega)]
def pA(m:Addr)(b:Book)(A:aQ)(ys:List V)(b':Book)(r:V):Prop:=∃p l:Nat,ys= [.ref m,.int p,.int l]/\p<b.house.places.length/\l<=10000/\b'=⟨b4 b.house p l,b.log⟩/\r=.int 0
theorem x4:ao ["museum","place","units"] ["museum","place","units"] (ah (top 166)):=b5
theorem x5(D:Dn K mg "set_light" 166):iR P w K mg ae "set_light" 1 pA qy:=by
 refine iR.ofD D mU x4 ?_
 rintro f aK A0 aq s H XE ys Q m b A b' r hr R ⟨p,l,rfl,hp,hl,rfl,rfl⟩ _ hQ
 obtain⟨x,hx⟩:=R.xJ hp
 refine cv (ix ((fld (nm 0) R.dw).lst (aF.of R.lp)) (nm 1) (IV hx)) (nm 2) λH2 S2=> ?_
 obtain⟨C,T,R2⟩:=(R.up S2).ex
 obtain⟨dx,ho⟩:=R2.ex (.pl p) x hx
 refine⟨C.p,dx,_,ho,T.p,T.pf _ (by decide),(by show 4<1000;decide),cB int λH3 S3=> ?_⟩
 have R3:d8 (upd H2 x (.ins C.p dx (cY "light" (.int l) (dW b.house p)))) C m ⟨b4 b.house p l,b.log⟩ A:=by
  refine R2.change (.pl p) hx jG ⟨dx,?_⟩ (λP h _=>F9 hp P h) (dP _ _ _) rfl rfl rfl (λ_=>rfl)
  rw[ak]
  congr 2
  show _=dW (b4 b.house p l) p
  have e1:(b4 b.house p l).place p= { b.house.place p with light:=Km383.from_ (b.house.place p).light b.house.today l }:=by rw[fZ,if_pos ⟨rfl,hp⟩]
  have e2:(b4 b.house p l).lightOn p b.house.today=l:=by rw[mO hp (Nat.le_refl _),if_pos rfl]
  unfold dW Qm
  rw[e1]
  show _= [_,_,_,(_,V.int ((b4 b.house p l).lightOn p b.house.today:Nat))]
  rw[e2]
  rfl
 exact hQ H3 A ⟨⟨C,T,R3.up S3⟩,v8 R.inv hl,R.log⟩ ((Fr.upd (G:= []) (P:=.pl p) S2 hx).trans (Fr.same S3) R.kM)
abbrev cy(h:House)(t l:Nat):House:=h.setThing t λx=> { x with harm:=l }
theorem uk(h:House)(t l i:Nat):(cy h t l).here i=h.here i:=i5 (f:=λx=> { x with harm:=l }) (λ_=>rfl) i
theorem Jo(h:House)(t l i d:Nat):(cy h t l).dose i d=h.dose i d:=zJ (f:=λx=> { x with harm:=l }) (λ_=>rfl) (λ_=>rfl) i d
theorem Jp{C:Cs}{b:Book}{A:aQ}{t l:Nat}(ht:t<b.house.things.length):∀P,P≠.th t->exp C ⟨cy b.house t l,b.log⟩ A P=exp C b A P
 | .mu,_| .lp,_| .lt,_| .ls,_| .le,_| .pl _,_| .sh _,_| .bk _,_| .en _,_=>rfl
 | .th i,h=>by
   have n:i≠t:=λe=>h (by rw[e])
   show cK.ins _ (bz (cy b.house t l) i _ _ _)=cK.ins _ (bz b.house i _ _ _)
   unfold bz
   rw[uk,bN,if_neg (λz=>n z.1)]
 | .nm i,_=>by
   show cK.lst (((cy b.house t l).thing i).name.map nV)=cK.lst ((b.house.thing i).name.map nV)
   rw[bN]
   by_cases q:i=t/\t<b.house.things.length
   ·rw[if_pos q,q.1]
   ·rw[if_neg q]
 | .li i,_=>by
   show cK.lst ((aC (cy b.house t l) i).map nV)=cK.lst ((aC b.house i).map nV)
   unfold aC
   have hc:((cy b.house t l).thing i).came=(b.house.thing i).came:=by
    rw[bN]
    by_cases q:i=t/\t<b.house.things.length
    ·rw[if_pos q,q.1]
    ·rw[if_neg q]
   rw[hc]
   congr 2
   apply List.map_congr_left
   intro k _
   exact Jo _ _ _ _ _
 | .st i,_=>by
   show cK.lst ((a6 (cy b.house t l) i).map nV)=cK.lst ((a6 b.house i).map nV)
   rw[jC (h:=b.house) (g:=cy b.house t l) rfl ?_ λd _=>lY (f:=λx=> { x with harm:=l }) (λ_=>rfl) i d]
   rw[bN]
   by_cases q:i=t/\t<b.house.things.length
   ·rw[if_pos q,q.1]
   ·rw[if_neg q]
def rA(m:Addr)(b:Book)(A:aQ)(ys:List V)(b':Book)(r:V):Prop:=∃t l:Nat,ys= [.ref m,.int t,.int l]/\t<b.house.things.length/\l<=5/\b'=⟨cy b.house t l,b.log⟩/\r=.int (if decide (3<=l)&&(b.house.place (b.house.here t)).kind==1 then 1 else 0)
theorem rB:ao ["museum","thing","level","kept"] ["museum","thing","level"] (ah (top 177)):=b5
theorem Ah(D:Dn K mg "set_harm" 177)(aZ:Cal P w K mg ae "is_bad_there" 2 (Rq K d9)):iR P w K mg ae "set_harm" 3 rA qy:=by
 refine iR.ofD D mU rB ?_
 rintro f aK A0 aq s H XE ys Q m b A b' r hr R ⟨t,l,rfl,ht,hl,rfl,rfl⟩ _ hQ
 obtain⟨x,hx⟩:=R.sV ht
 have m3:A.at m (.th t)=some x.1:=by show(A.ta[t]?).map (·.1)=_;rw[hx];rfl
 refine dH 3 (ix ((fld (nm 0) R.aX).lst (aF.of R.lt)) (nm 1) (wu hx)) (λH1 S1=> ?_) rB.nd
 have R1:=R.up S1
 refine cv (nm 3) (nm 2) λH2 S2=> ?_
 obtain⟨C,T,R2⟩:=(R1.up S2).ex
 obtain⟨dx,ho⟩:=R2.ex (.th t) x.1 m3
 refine⟨C.t,dx,_,ho,T.t,T.tf _ (by decide),(by show 9<1000;decide),?_⟩
 have R3:d8 (upd H2 x.1 (.ins C.t dx (cY "harm" (.int l) (bz b.house t (dG A t).2.1 (dG A t).2.2.1 (dG A t).2.2.2)))) C m ⟨cy b.house t l,b.log⟩ A:=by
  refine R2.change (.th t) m3 jG ⟨dx,?_⟩ (λP h _=>Jp ht P h) rfl (BH _ _ _) rfl rfl (λ_=>rfl)
  rw[ak]
  congr 2
  show _=bz (cy b.house t l) t _ _ _
  unfold bz
  rw[uk,bN,if_pos ⟨rfl,ht⟩]
  rfl
 have R4:Rep K _ m ⟨cy b.house t l,b.log⟩ A:=⟨⟨C,T,R3⟩,jy R.inv λx o=>⟨o.name,o.KR,o.lim,hl,o.came,o.stays,o.back⟩,R.log⟩
 have RZ:t<(cy b.house t l).things.length:=by rw[BH];exact ht
 have R0:(cy b.house t l).here t<(cy b.house t l).places.length:=ie R4.inv RZ
 refine cB (y:=.int (if decide (3<=l)&&(b.house.place (b.house.here t)).kind==1 then 1 else 0)) (E.cast (N5 (sh1:=.v (.int 1)) (sh2:=.v (.int 0)) (aI (call (aZ.at hr) (a1 (nm 0) (a1 (nm 1) (a1 (fld (nm 3) (R4.gR hx)) a0))) ⟨m,_,A,R4,t,_,rfl,RZ,R0,rfl⟩)) (λ_=>int) (λ_=>int)) ?_) λH5 S5=> ?_
 ·have e:Km383.bad ((cy b.house t l).thing t) ((cy b.house t l).place ((cy b.house t l).here t))=(decide (3<=l)&&(b.house.place (b.house.here t)).kind==1):=by
   unfold Km383.bad
   rw[uk,bN,if_pos ⟨rfl,ht⟩,Bool.and_comm]
   rfl
  rw[e]
  cases(decide (3<=l)&&(b.house.place (b.house.here t)).kind==1)<;>rfl
 ·exact hQ H5 A (R4.up S5) ((Fr.upd (G:= []) (P:=.th t) (S1.trans S2) m3).trans (Fr.same S5) R.kM)
end
end Mu
namespace Ev
open PySem PySem.Spec PyProof.Rows L2
section
variable{X:Cx}{o arg:Expr}{rest:List Stmt}{σ:L2.St}{H:Hp}{D:Ends}{pos pos' apos:PySem.Pos}
theorem Jq{l:Addr}{ns:List Int}{i:Int}{j:Nat}(ho:E X o σ H (.v (.ref l)))(hl:H l=some (.lst (ns.map V.int)))(ha:E X arg σ H (.v (.int i)))(hj:ns[j]? =some i)(By:∀k,k<j->ns[k]?≠some i)(h:∀H2,au H H2->sb X rest D σ (upd H2 l (.lst ((ns.eraseIdx j).map V.int))))
 (hs:swapsWith (.Call (.Attribute o "remove" apos) [arg] [] pos') none pos.line X.env=pure false:=by rfl)(cC:attributeBase o "remove" X.env (eval o X.env)=eval o X.env:=by rfl)
 (nE:((backTo pos' (starEach [arg] X.env)).all (λx=> !x.1)&&(backToKw pos' (keywordEach [] X.env)).all (λx=>x.1.isSome)
   &&decide ([arg].length+([]:List Keyword).length+(if ([]:List Keyword).isEmpty then 0 else 1)<30))=true:=by rfl)
 (hline:(apos.endLine==pos'.line)=true:=by rfl)(hU:starEach [arg] X.env=(false,eval arg X.env)::starEach [] X.env:=by rfl):
 sb X (.Expr (.Call (.Attribute o "remove" apos) [arg] [] pos') pos::rest) D σ H:=
 cQ (aU (sM (zm PySem.F.plainAttrs_list PySem.F.slot_list_remove PySem.F.type_list_remove Nn.FY az (bJ az du hU) cC nE hline hU rfl) hs) aD)
  (ho H (au.refl _) _ λv H1 S1 ov=>by
    have ev:v=.ref l:=ov
    subst ev
    refine⟨.inl ⟨rfl,_,aF.of (S1 _ _ hl)⟩,ha H1 S1 _ λw H2 S2 ow=> ?_⟩
    have ew:w=.int i:=ow
    subst ew
    exact⟨l,ns,i,j,rfl,rfl,(S1.trans S2) _ _ hl,hj,By,h H2 (S1.trans S2)⟩)
end
end Ev
namespace Mu
open PySem PySem.Spec PyProof.Rows L2 Ev
open Km383 (House Book)
theorem f6{h:House}{e i:Nat}{o:Option Km383.Show}(he:e<h.shows.length):(h.setShow e o).show_ i=if i=e then o else h.show_ i:=by
 show(h.shows.set e o).getD i none=if i=e then o else h.shows.getD i none
 rw[List.getD_eq_getElem?_getD,List.getD_eq_getElem?_getD,List.getElem?_set]
 by_cases q:i=e
 ·rw[if_pos q,if_pos q.symm,if_pos he]
  rfl
 ·rw[if_neg q,if_neg (λz=>q z.symm)]
theorem fO{h:House}{e i:Nat}{s:Km383.Show}(he:e<h.shows.length):House.aH (h.setShow e (some s)) i=if i=e then s else House.aH h i:=by
 unfold House.aH
 rw[f6 he]
 by_cases q:i=e
 ·rw[if_pos q,if_pos q]
  rfl
 ·rw[if_neg q,if_neg q]
theorem Cw{C:Cs}{b:Book}{A:aQ}{e:Nat}{l:List Nat}(he:e<b.house.shows.length)(hh:(House.aH b.house e).hung=false):∀P,P≠.bk e->exp C ⟨b.house.setShow e (some ⟨(House.aH b.house e).place,(House.aH b.house e).first,(House.aH b.house e).end_,l,false⟩),b.log⟩ A P=exp C b A P
 | .mu,_| .lp,_| .lt,_| .ls,_| .le,_| .pl _,_| .th _,_| .nm _,_| .li _,_| .st _,_| .en _,_=>rfl
 | .sh i,_=>by
   show cK.ins _ (iu (House.aH (b.house.setShow e _) i) _)=cK.ins _ (iu (House.aH b.house i) _)
   rw[fO he]
   by_cases q:i=e
   ·subst q
    rw[if_pos rfl]
    unfold iu
    rw[hh]
   ·rw[if_neg q]
 | .bk i,h=>by
   have n:i≠e:=λz=>h (by rw[z])
   show cK.lst ((House.aH (b.house.setShow e _) i).things.map nV)=cK.lst ((House.aH b.house i).things.map nV)
   rw[fO he,if_neg n]
section
variable{P:Program}{w:World}{K:W.Frag}{mg:Str->Option Value}{ae:Heap}
theorem um{H:Hp}{C:Cs}{m:Addr}{b:Book}{A:aQ}{e:Nat}{x:Addr×Addr}{l:List Nat}(R:d8 H C m b A)(hx:A.sa[e]? =some (some x))(hh:(House.aH b.house e).hung=false):
 d8 (upd H x.2 (.lst (l.map nV))) C m ⟨b.house.setShow e (some ⟨(House.aH b.house e).place,(House.aH b.house e).first,(House.aH b.house e).end_,l,false⟩),b.log⟩ A:=by
 have he:e<b.house.shows.length:=by rw[<-R.ns];exact(List.getElem?_eq_some_iff.mp hx).1
 refine R.change (.bk e) (by show(A.sa.getD e none).map (·.2)=_;rw[dX hx];rfl) jG ?_ (λP h _=>Cw he hh P h) rfl rfl (by show(b.house.shows.set e _).length=_;rw[List.length_set]) rfl (λi=> ?_)
 ·show _=some (HO.lst ((House.aH (b.house.setShow e _) e).things.map nV))
  rw[ak,fO he,if_pos rfl]
 ·rw[f6 he]
  by_cases q:i=e
  ·subst q
   have s:=R.so i
   rw[dX hx] at s
   rw[if_pos rfl,<-s]
   rfl
  ·rw[if_neg q]
def m4(m:Addr)(b:Book)(A:aQ)(ys:List V)(b':Book)(r:V):Prop:=∃e t:Nat,ys= [.ref m,.int e,.int t]/\¬(b.house.show_ e).isNone=true/\(House.aH b.house e).hung=false/\(House.aH b.house e).things.length<100/\
 b'=⟨b.house.setShow e (some ⟨(House.aH b.house e).place,(House.aH b.house e).first,(House.aH b.house e).end_,(House.aH b.house e).things++ [t],false⟩),b.log⟩/\cj b'.house/\r=.int (((House.aH b.house e).things.length+1:Nat):Int)
theorem m5:ao ["museum","show","thing","booked"] ["museum","show","thing"] (ah (top 189)):=b5
theorem vo(D:Dn K mg "book_thing" 189)(G:Gs mg):iR P w K mg ae "book_thing" 1 m4 qy:=by
 refine iR.ofD D mU m5 ?_
 rintro f aK A0 aq s H XE ys Q m b A b' r hr R ⟨e,t,rfl,hs,hh,hlen,rfl,hI,rfl⟩ _ hQ
 obtain⟨x,hx,h6,hS,_⟩:=R.vj hs
 have m3:A.at m (.bk e)=some x.2:=by show(A.sa.getD e none).map (·.2)=_;rw[dX hx];rfl
 refine dH 3 (fld (ix ((fld (nm 0) R.dY).lst (aF.of R.ls)) (nm 1) (Mg hx)) hS.dy) (λH1 S1=> ?_) m5.nd
 refine dh (nm 3) (S1 _ _ hS.booked) λH2 S2=>(nm 2) H2 (au.refl _) _ λv H3 S3 ov=> ?_
 have ev:v=.int t:=ov
 subst ev
 refine⟨_,S3 _ _ (S2 _ _ (S1 _ _ hS.booked)),by rw[List.length_map];exact cu (by omega),?_⟩
 obtain⟨C,T,R3⟩:=(((R.up S1).up S2).up S3).ex
 have R4:=um (l:=(House.aH b.house e).things++ [t]) R3 hx hh
 have ee:(((House.aH b.house e).things++ [t]).map nV)=(House.aH b.house e).things.map nV++ [V.int t]:=by
  rw[List.map_append]
  rfl
 rw[ee] at R4
 refine cB (y:=.int (((House.aH b.house e).things.length+1:Nat):Int)) (E.cast (len (a1 ((nm 3).lst (aF.of ak)) a0) (G.b _ (by decide))) ?_) λH5 S5=> ?_
 ·rw[List.length_append,List.length_map]
  rfl
 ·exact hQ H5 A ⟨⟨C,T,R4.up S5⟩,hI,R.log⟩ ((Fr.upd (G:= []) ((S1.trans S2).trans S3) m3).trans (Fr.same S5) R.kM)
def kr(m:Addr)(b:Book)(A:aQ)(ys:List V)(b':Book)(r:V):Prop:=∃e t:Nat,ys= [.ref m,.int e,.int t]/\¬(b.house.show_ e).isNone=true/\(House.aH b.house e).hung=false/\t∈(House.aH b.house e).things/\(House.aH b.house e).things.Nodup/\
 b'=⟨b.house.setShow e (some ⟨(House.aH b.house e).place,(House.aH b.house e).first,(House.aH b.house e).end_,(House.aH b.house e).things.filter λx=>decide (x≠t),false⟩),b.log⟩/\cj b'.house/\r=.int (((House.aH b.house e).things.length - 1:Nat):Int)
theorem erase_filter:∀{l:List Nat}{t j:Nat},l.Nodup->l[j]? =some t->l.eraseIdx j=l.filter λx=>decide (x≠t)
 | [],_,_,_,h=>by simp at h
 |a::l,t,0,nd,h=>by
  have e:a=t:=Option.some.inj h
  subst e
  show l=_
  rw[List.filter_cons,if_neg (by simp)]
  refine(List.filter_eq_self.mpr λx hx=> ?_).symm
  have ne:x≠a:=λz=>(List.nodup_cons.mp nd).1 (by rw[<-z];exact hx)
  simpa using ne
 |a::l,t,j+1,nd,h=>by
  have ht:t∈l:=List.mem_of_getElem? (show l[j]? =some t from h)
  have na:a≠t:=λz=>(List.nodup_cons.mp nd).1 (by rw[z];exact ht)
  show a::l.eraseIdx j=_
  rw[List.filter_cons,if_pos (decide_eq_true na),erase_filter (List.nodup_cons.mp nd).2 h]
theorem ku:ao ["museum","show","thing","booked"] ["museum","show","thing"] (ah (top 191)):=b5
theorem sC(D:Dn K mg "unbook_thing" 191)(G:Gs mg):iR P w K mg ae "unbook_thing" 1 kr qy:=by
 refine iR.ofD D mU ku ?_
 rintro f aK A0 aq s H XE ys Q m b A b' r hr R ⟨e,t,rfl,hs,hh,xf,XO,rfl,hI,rfl⟩ _ hQ
 obtain⟨x,hx,h6,hS,_⟩:=R.vj hs
 have m3:A.at m (.bk e)=some x.2:=by show(A.sa.getD e none).map (·.2)=_;rw[dX hx];rfl
 obtain⟨j,hj⟩:=List.getElem?_of_mem xf
 refine dH 3 (fld (ix ((fld (nm 0) R.dY).lst (aF.of R.ls)) (nm 1) (Mg hx)) hS.dy) (λH1 S1=> ?_) ku.nd
 refine Jq (ns:=(House.aH b.house e).things.map λ(n:Nat)=>(n:Int)) (i:=(t:Int)) (j:=j) (nm 3) (by rw[List.map_map];exact S1 _ _ hS.booked) (nm 2) (by rw[List.getElem?_map,hj];rfl) (λk hk Uv=> ?_) λH2 S2=> ?_
 ·rw[List.getElem?_map] at Uv
  cases q:(House.aH b.house e).things[k]? with
  |none=>rw[q] at Uv;cases Uv
  |some y=>
   rw[q] at Uv
   have ey:(y:Int)=(t:Int):=Option.some.inj Uv
   have ey:y=t:=by omega
   subst ey
   have:=Ua XO q hj
   omega
 obtain⟨C,T,R3⟩:=((R.up S1).up S2).ex
 have R4:=um (l:=(House.aH b.house e).things.filter λx=>decide (x≠t)) R3 hx hh
 have ee:(((House.aH b.house e).things.map λ(n:Nat)=>(n:Int)).eraseIdx j).map V.int=((House.aH b.house e).things.filter λx=>decide (x≠t)).map nV:=by
  rw[Nn.qm,List.map_map,erase_filter XO hj]
  rfl
 rw[ee]
 refine cB (y:=.int (((House.aH b.house e).things.length - 1:Nat):Int)) (E.cast (len (a1 ((nm 3).lst (aF.of ak)) a0) (G.b _ (by decide))) ?_) λH5 S5=> ?_
 ·rw[List.length_map,<-erase_filter XO hj,List.length_eraseIdx_of_lt (List.getElem?_eq_some_iff.mp hj).1]
 ·exact hQ H5 A ⟨⟨C,T,R4.up S5⟩,hI,R.log⟩ ((Fr.upd (G:= []) (S1.trans S2) m3).trans (Fr.same S5) R.kM)
end
theorem Jr{C:Cs}{b:Book}{A:aQ}{t:Nat}{f:Km383.Thing->Km383.Thing}(h1:∀x,(f x).stays=x.stays)(h2:∀x,(f x).came=x.came)(h3:∀x,(f x).name=x.name):∀P,P≠.th t->exp C ⟨b.house.setThing t f,b.log⟩ A P=exp C b A P
 | .mu,_| .lp,_| .lt,_| .ls,_| .le,_| .pl _,_| .sh _,_| .bk _,_| .en _,_=>rfl
 | .th i,h=>by
   have n:i≠t:=λe=>h (by rw[e])
   show cK.ins _ (bz (b.house.setThing t f) i _ _ _)=cK.ins _ (bz b.house i _ _ _)
   unfold bz
   rw[i5 h1,bN,if_neg (λz=>n z.1)]
 | .nm i,_=>by
   show cK.lst (((b.house.setThing t f).thing i).name.map nV)=cK.lst ((b.house.thing i).name.map nV)
   rw[bN]
   by_cases q:i=t/\t<b.house.things.length
   ·rw[if_pos q,h3,q.1]
   ·rw[if_neg q]
 | .li i,_=>by
   show cK.lst ((aC (b.house.setThing t f) i).map nV)=cK.lst ((aC b.house i).map nV)
   unfold aC
   have hc:((b.house.setThing t f).thing i).came=(b.house.thing i).came:=by
    rw[bN]
    by_cases q:i=t/\t<b.house.things.length
    ·rw[if_pos q,h2,q.1]
    ·rw[if_neg q]
   rw[hc]
   congr 2
   apply List.map_congr_left
   intro k _
   exact zJ h1 h2 _ _
 | .st i,_=>by
   show cK.lst ((a6 (b.house.setThing t f) i).map nV)=cK.lst ((a6 b.house i).map nV)
   rw[jC (h:=b.house) (g:=b.house.setThing t f) rfl ?_ λd _=>lY h1 i d]
   rw[bN]
   by_cases q:i=t/\t<b.house.things.length
   ·rw[if_pos q,h2,q.1]
   ·rw[if_neg q]
abbrev iA(h:House)(t:Nat)(o:Option Nat):House:=h.setThing t λx=> { x with back:=o }
section
variable{P:Program}{w:World}{K:W.Frag}{mg:Str->Option Value}{ae:Heap}
theorem uo{H:Hp}{C:Cs}{m dx:Addr}{b:Book}{A:aQ}{t p:Nat}{x:Addr×Addr×Addr×Addr}(R:d8 H C m b A)(ht:t<b.house.things.length)(hx:A.ta[t]? =some x):
 d8 (upd H x.1 (.ins C.t dx (cY "place" (.int p) (bz b.house t (dG A t).2.1 (dG A t).2.2.1 (dG A t).2.2.2)))) C m ⟨b.house.put t p,b.log⟩ A:=by
 have m3:A.at m (.th t)=some x.1:=by show(A.ta[t]?).map (·.1)=_;rw[hx];rfl
 refine R.change (.th t) m3 jG ⟨dx,?_⟩ (λP h _=>En ht P h) rfl (tQ _ _ _) rfl rfl (λ_=>rfl)
 rw[ak]
 congr 2
 show _=bz (b.house.put t p) t _ _ _
 unfold bz
 rw[da,if_pos ⟨rfl,ht⟩,gN ht,if_pos rfl]
 rfl
theorem wA{H:Hp}{C:Cs}{m dx:Addr}{b:Book}{A:aQ}{t:Nat}{o:Option Nat}{x:Addr×Addr×Addr×Addr}(R:d8 H C m b A)(ht:t<b.house.things.length)(hx:A.ta[t]? =some x):
 d8 (upd H x.1 (.ins C.t dx (cY "back" (Ej o) (bz b.house t (dG A t).2.1 (dG A t).2.2.1 (dG A t).2.2.2)))) C m ⟨iA b.house t o,b.log⟩ A:=by
 have m3:A.at m (.th t)=some x.1:=by show(A.ta[t]?).map (·.1)=_;rw[hx];rfl
 refine R.change (.th t) m3 jG ⟨dx,?_⟩ (λP h _=>Jr (f:=λx=> { x with back:=o }) (λ_=>rfl) (λ_=>rfl) (λ_=>rfl) P h) rfl (BH _ _ _) rfl rfl (λ_=>rfl)
 rw[ak]
 congr 2
 show _=bz (iA b.house t o) t _ _ _
 have e1:(iA b.house t o).here t=b.house.here t:=i5 (f:=λx=> { x with back:=o }) (λ_=>rfl) t
 have e2:(iA b.house t o).thing t= { b.house.thing t with back:=o }:=by rw[bN,if_pos ⟨rfl,ht⟩]
 unfold bz
 rw[e1,e2]
 rfl
def m6(m:Addr)(b:Book)(A:aQ)(ys:List V)(b':Book)(r:V):Prop:=∃t p d:Nat,ys= [.ref m,.int t,.int p,.int d]/\t<b.house.things.length/\p<b.house.places.length/\d<=2000/\b'=⟨iA (b.house.put t p) t (some d),b.log⟩/\r=.int 0
theorem m7:ao ["museum","thing","place","back","kept"] ["museum","thing","place","back"] (ah (top 180)):=b5
theorem vp(D:Dn K mg "lend_thing" 180):iR P w K mg ae "lend_thing" 1 m6 qy:=by
 refine iR.ofD D RQ m7 ?_
 rintro f aK A0 aq s H XE ys Q m b A b' r hr R ⟨t,p,d,rfl,ht,hp,hd,rfl,rfl⟩ _ hQ
 obtain⟨x,hx⟩:=R.sV ht
 have m3:A.at m (.th t)=some x.1:=by show(A.ta[t]?).map (·.1)=_;rw[hx];rfl
 refine dH 4 (ix ((fld (nm 0) R.aX).lst (aF.of R.lt)) (nm 1) (wu hx)) (λH1 S1=> ?_) m7.nd
 refine cv (nm 4) (nm 2) λH2 S2=> ?_
 obtain⟨C,T,R2⟩:=((R.up S1).up S2).ex
 obtain⟨dx,ho⟩:=R2.ex (.th t) x.1 m3
 refine⟨C.t,dx,_,ho,T.t,T.tf _ (by decide),(by show 9<1000;decide),?_⟩
 have R3:=uo (p:=p) (dx:=dx) R2 ht hx
 refine cv (nm 4) (nm 3) λH4 S4=> ?_
 have R4:=R3.up S4
 obtain⟨Uw,XQ⟩:=R4.ex (.th t) x.1 m3
 have RZ:t<(b.house.put t p).things.length:=by rw[tQ];exact ht
 refine⟨C.t,Uw,_,XQ,T.t,T.tf _ (by decide),(by show 9<1000;decide),cB int λH5 S5=> ?_⟩
 have R5:=wA (o:=some d) (dx:=Uw) R4 RZ hx
 have hI:cj (iA (b.house.put t p) t (some d)):=jy (ib R.inv hp) λx o=>⟨o.name,o.KR,o.lim,o.harm,o.came,o.stays,λb' hb=>by
  have e:d=b':=Option.some.inj hb
  omega⟩
 exact hQ H5 A ⟨⟨C,T,R5.up S5⟩,hI,R.log⟩ (((Fr.upd (G:= []) (S1.trans S2) m3).trans (Fr.upd S4 m3) R.kM).trans (Fr.same S5) R.kM)
def m8(m:Addr)(b:Book)(A:aQ)(ys:List V)(b':Book)(r:V):Prop:=∃t p:Nat,ys= [.ref m,.int t,.int p]/\t<b.house.things.length/\p<b.house.places.length/\b'=⟨iA (b.house.put t p) t none,b.log⟩/\r=.int 0
theorem m9:ao ["museum","thing","place","kept"] ["museum","thing","place"] (ah (top 182)):=b5
theorem vq(D:Dn K mg "bring_home" 182):iR P w K mg ae "bring_home" 1 m8 qy:=by
 refine iR.ofD D mU m9 ?_
 rintro f aK A0 aq s H XE ys Q m b A b' r hr R ⟨t,p,rfl,ht,hp,rfl,rfl⟩ _ hQ
 obtain⟨x,hx⟩:=R.sV ht
 have m3:A.at m (.th t)=some x.1:=by show(A.ta[t]?).map (·.1)=_;rw[hx];rfl
 refine dH 3 (ix ((fld (nm 0) R.aX).lst (aF.of R.lt)) (nm 1) (wu hx)) (λH1 S1=> ?_) m9.nd
 refine cv (nm 3) (nm 2) λH2 S2=> ?_
 obtain⟨C,T,R2⟩:=((R.up S1).up S2).ex
 obtain⟨dx,ho⟩:=R2.ex (.th t) x.1 m3
 refine⟨C.t,dx,_,ho,T.t,T.tf _ (by decide),(by show 9<1000;decide),?_⟩
 have R3:=uo (p:=p) (dx:=dx) R2 ht hx
 refine cv (nm 3) non λH4 S4=> ?_
 have R4:=R3.up S4
 obtain⟨Uw,XQ⟩:=R4.ex (.th t) x.1 m3
 have RZ:t<(b.house.put t p).things.length:=by rw[tQ];exact ht
 refine⟨C.t,Uw,_,XQ,T.t,T.tf _ (by decide),(by show 9<1000;decide),cB int λH5 S5=> ?_⟩
 have R5:=wA (o:=none) (dx:=Uw) R4 RZ hx
 have hI:cj (iA (b.house.put t p) t none):=jy (ib R.inv hp) λx o=>⟨o.name,o.KR,o.lim,o.harm,o.came,o.stays,λb' hb=>by cases hb⟩
 exact hQ H5 A ⟨⟨C,T,R5.up S5⟩,hI,R.log⟩ (((Fr.upd (G:= []) (S1.trans S2) m3).trans (Fr.upd S4 m3) R.kM).trans (Fr.same S5) R.kM)
end
end Mu
namespace Ev
open PySem PySem.Spec PyProof.Rows L2
section
variable{X:Cx}{iter:Expr}{bd rest:List Stmt}{σ:L2.St}{H:Hp}{D:Ends}{pos pos':PySem.Pos}
theorem Et(i:Nat){x:Str}{l:Addr}{xs:List V}(hit:E X iter σ H (.v (.ref l)))(Pv:Nat->L2.St->Hp->Prop)(h0:∀H1,au H H1->Pv 0 σ H1)(hl:∀k aO H',k<=xs.length->Pv k aO H'->aF X.K H' l xs)
 (ht:∀k y aO H',xs[k]? =some y->Pv k aO H'->sb X bd { D with nx:=Pv (k+1),ct:=Pv (k+1),bk:=λeQ H2=>sb X rest D eQ H2 } (aO.set i (some y)) H')(hd:∀aO H',Pv xs.length aO H'->sb X rest D aO H')
 (hp:PassesOwn (model X.prog X.w) X.A X.env X.xe)(hN:X.N.Nodup)(hc:X.calm=true:=by rfl)(hi:X.N[i]? =some x:=by rfl)(hx:Loc X.env.scope x:=by exact Or.inl rfl)
 (hs:∀x,foldedSetIterable iter X.env x=pure x:=by intro _;rfl)(hf:X.fn x=true\/X.env.scope.names.lookup x=some .local:=by first|exact .inl rfl|exact .inr rfl|assumption):
 sb X (.For (.Name x pos') iter bd [] pos::rest) D σ H:=by
 refine cQ (aU (wU hp hc (sN az) (fK hN hi hx hf) aD hs) aD) (hit H (au.refl _) _ λv H1 S1 ov=> ?_)
 have ev:v=.ref l:=ov
 subst ev
 refine⟨l,rfl,⟨xs,hl 0 σ H1 (Nat.zero_le _) (h0 H1 S1)⟩,?_⟩
 exact zc (K:=X.K) (a:=l) (xs:=xs) (g:=gn i) (tb:=sb X bd) (D:= { D with nx:=λeQ H2=>sb X rest D eQ H2 }) Pv (h0 H1 S1) hl (λk y aO H' hy p=>ht k y aO H' hy p) hd
end
end Ev
namespace Mu
open PySem PySem.Spec PyProof.Rows L2 Ev
open Km383 (House Book)
abbrev nS(h:House)(l:List Nat)(p:Nat):House:=l.foldl (λg t=>g.put t p) h
theorem Ga(h:House)(l:List Nat)(t p:Nat):nS h (l++ [t]) p=(nS h l p).put t p:=by
 unfold nS
 rw[List.foldl_append]
 rfl
theorem Js{h:House}{e:Nat}{s:Km383.Show}(hs:h.shows[e]? =some (some s)):House.aH h e=s:=by
 unfold House.aH
 rw[jx hs]
 rfl
theorem Jt{C:Cs}{b:Book}{A:aQ}{e:Nat}(he:e<b.house.shows.length):∀P,P≠.sh e->exp C ⟨b.house.setShow e (some ⟨(House.aH b.house e).place,(House.aH b.house e).first,(House.aH b.house e).end_,(House.aH b.house e).things,true⟩),b.log⟩ A P=exp C b A P
 | .mu,_| .lp,_| .lt,_| .ls,_| .le,_| .pl _,_| .th _,_| .nm _,_| .li _,_| .st _,_| .en _,_=>rfl
 | .sh i,h=>by
   have n:i≠e:=λz=>h (by rw[z])
   show cK.ins _ (iu (House.aH (b.house.setShow e _) i) _)=cK.ins _ (iu (House.aH b.house i) _)
   rw[fO he,if_neg n]
 | .bk i,_=>by
   show cK.lst ((House.aH (b.house.setShow e _) i).things.map nV)=cK.lst ((House.aH b.house i).things.map nV)
   rw[fO he]
   by_cases q:i=e
   ·subst q
    rw[if_pos rfl]
   ·rw[if_neg q]
theorem _root_.Ev.nT{X:Cx}{e:Expr}{rest:List Stmt}{σ:L2.St}{H:Hp}{D:Ends}{pos:PySem.Pos}(h:se X e σ H λ_ H1=>sb X rest D σ H1)(hs:swapsWith e none pos.line X.env=pure false:=by rfl):sb X (.Expr e pos::rest) D σ H:=
 cQ (aU (sM az hs) aD) h
def XR(K:W.Frag)(ψ:Addr->Book->aQ->List V->Book->V->Prop):Sp:=λys H Q _=>∃m b A b' r,Rep K H m b A/\ψ m b A ys b' r/\∀H',Rep K H' m b' A->Fr m [] A A H H'->Q r H'
section
variable{P:Program}{w:World}{K:W.Frag}{mg:Str->Option Value}{ae:Heap}
structure uq(P:Program)(w:World)(K:W.Frag)(mg:Str->Option Value)(ae:Heap)(x:Str)(k:Nat)(ψ:Addr->Book->aQ->List V->Book->V->Prop):Prop where
 ex:∃(f:Addr)(fd:FuncData)(ps:List Str),bD P w K mg ae eT k f fd ps (XR K ψ)/\mg x=some (.ref f)/\W.keepIn K (.ref f)=true/\Binds K fd ps []
theorem uq.ofD{x:Str}{i:Nat}{N ps:List Str}{k:Nat}{ψ:Addr->Book->aQ->List V->Book->V->Prop}(D:Dn K mg x i)(hb:∀(f:Addr)(fd:FuncData),jq K x x (top i) f fd->Binds K fd ps [])(Sc:ao N ps (ah (top i)))
 (body:∀(f:Addr)(aK:Value)(A0:Around)(aq:List Env)(s:Shared)(H:Hp)(XE:XK)(ys:List V)(Q:VK)(m:Addr)(b:Book)(A:aQ)(b':Book)(r:V),dC k (A0.deeper (envOfC x (ah (top i)) s.heap.objs.size f aK))->Rep K H m b A->ψ m b A ys b' r->
   (∀H',Rep K H' m b' A->Fr m [] A A H H'->Q r H')->sb (bx P w K mg ae N x (top i) f aK A0 aq s H XE) (bL (top i)) { nx:=λ_ H'=>Q .non H',rt:=Q } (start N ys) H)(len:∀m b A ys b' r,ψ m b A ys b' r->ys.length=ps.length:=by intro _ _ _ _ _ _ h;repeat (first| (rw[h.1];rfl)| (rw[h];rfl)| (obtain⟨_,h⟩:=h))):uq P w K mg ae x (k+1) ψ:=by
 obtain⟨f,fd,F,hm⟩:=D
 refine⟨⟨f,fd,ps,F.ok Sc (λvs H Q E h=> ?_) (λaK A0 aq s H vs Q E hr h=> ?_),hm,F.kp,hb f fd F⟩⟩
 ·obtain⟨m,b,A,b',r,_,Jd,_⟩:=h
  exact len m b A vs b' r Jd
 ·obtain⟨m,b,A,b',r,R,Jd,hQ⟩:=h
  exact⟨_,aD,body f aK A0 aq s H E vs Q m b A b' r hr R Jd hQ⟩
theorem uq.call{X:Cx}{x:Str}{k j:Nat}{ψ:Addr->Book->aQ->List V->Book->V->Prop}(C:uq X.prog X.w X.K X.mg X.ae x k ψ)(hr:dC j X.A)(hj:k<=j){e:Expr}{es:List Expr}{p pos:PySem.Pos}{σ:L2.St}{H:Hp}{ys:List V}{Q:VK}{m:Addr}{b b':Book}{A:aQ}{r:V}(ha:Ev.A X (e::es) σ H (vs ys))(R:Rep X.K H m b A)(Jd:ψ m b A ys b' r)(hQ:∀H',Rep X.K H' m b' A->Fr m [] A A H H'->Q r H')
 (hg:Gl X x:=by rfl)(tK:(x==("__debug__":Str))=false:=by decide)(he:starEach (e::es) X.env=(false,eval e X.env)::starEach es X.env:=by rfl)(hpl:(backTo pos (starEach es X.env)).any (·.1)=false:=by rfl):se X (.Call (.Name x p) (e::es) [] pos) σ H Q:=by
 obtain⟨f,fd,ps,F,hm,hk,hb⟩:=C.ex
 exact cS F (hr.mono hj) hm hk hb ha (λH1 S1=>⟨m,b,A,b',r,R.up S1,Jd,λH' R' fr=>hQ H' R' ((Fr.same S1).trans fr λP y h=>by
  obtain⟨C',T',R''⟩:=R.ex
  exact cK.some (R''.ex P y h))⟩) hg tK he hpl
def nU(m:Addr)(b:Book)(A:aQ)(ys:List V)(b':Book)(r:V):Prop:=∃(e p:Nat)(x:Addr×Addr),ys= [.ref m,.ref x.2,.int p]/\A.sa[e]? =some (some x)/\p<b.house.places.length/\b'=⟨nS b.house (House.aH b.house e).things p,b.log⟩/\r=.non
theorem ur(h:House)(l:List Nat)(p e:Nat):House.aH (nS h l p) e=House.aH h e:=by
 unfold House.aH House.show_
 rw[fw]
theorem uv:ao ["museum","things","place","thing"] ["museum","things","place"] (ah (top 194)):=b5
theorem Cy(D:Dn K mg "put_all" 194):uq P w K mg ae "put_all" 1 nU:=by
 refine uq.ofD D mU uv ?_
 rintro f aK A0 aq s H XE ys Q m b A b' r hr R ⟨e,p,x,rfl,hx,hp,rfl,rfl⟩ hQ
 have se:House.aH b.house e=House.aH b.house e/\¬(b.house.show_ e).isNone=true:=by
  obtain⟨s0,Vq,_⟩:=R.show_ hx
  exact⟨rfl,by rw[jx Vq];simp⟩
 have oS:=R.inv.sh e _ (dF se.2)
 refine Et 3 (l:=x.2) (xs:=(House.aH b.house e).things.map nV) (nm 1)
  (λk aO H'=>∃y:Option V,aO= [some (.ref m),some (.ref x.2),some (.int p),y]/\Rep K H' m ⟨nS b.house ((House.aH b.house e).things.take k) p,b.log⟩ A/\Fr m [] A A H H')
  (λH2 S2=>⟨none,rfl,R.up S2,Fr.same S2⟩) (λk aO H' _ ⟨y,_,R',_⟩=> ?_) (λk y aO H' hy ⟨z,oj,R',fr⟩=> ?_) (λaO H' ⟨y,oj,R',fr⟩=> ?_) PassesOwn.never uv.nd
 ·obtain⟨s',Qq,Em⟩:=R'.show_ hx
  have q:House.aH b.house e=s':=(ur b.house ((House.aH b.house e).things.take k) p e).symm.trans (Js Qq)
  rw[q]
  exact aF.of Em.booked
 ·subst oj
  rw[List.getElem?_map] at hy
  cases hk:(House.aH b.house e).things[k]? with
  |none=>rw[hk] at hy;cases hy
  |some t=>
   rw[hk] at hy
   obtain rfl:nV t=y:=Option.some.inj hy
   have ht:t<(nS b.house ((House.aH b.house e).things.take k) p).things.length:=by
    rw[xk]
    exact oS.th t (List.mem_of_getElem? hk)
   obtain⟨xt,XS⟩:=R'.sV ht
   have m3:A.at m (.th t)=some xt.1:=by show(A.ta[t]?).map (·.1)=_;rw[XS];rfl
   refine cv (ix ((fld (nm 0) R'.aX).lst (aF.of R'.lt)) (nm 3) (wu XS)) (nm 2) λH2 S2=> ?_
   obtain⟨C,T,R2⟩:=(R'.up S2).ex
   obtain⟨dx,ho⟩:=R2.ex (.th t) xt.1 m3
   refine⟨C.t,dx,_,ho,T.t,T.tf _ (by decide),(by show 9<1000;decide),dB ⟨some (nV t),rfl,?_,fr.trans (Fr.upd (G:= []) S2 m3) R.kM⟩⟩
   rw[cO hk,Ga]
   exact⟨⟨C,T,uo R2 ht XS⟩,ib R'.inv (by rw[fY];exact hp),R'.log⟩
 ·rw[List.length_map,List.take_length] at R'
  exact dB (hQ H' R' fr)
def pB(m:Addr)(b:Book)(A:aQ)(ys:List V)(b':Book)(r:V):Prop:=∃e:Nat,ys= [.ref m,.int e]/\¬(b.house.show_ e).isNone=true/\
 b'=⟨(nS b.house (House.aH b.house e).things (House.aH b.house e).place).setShow e (some ⟨(House.aH b.house e).place,(House.aH b.house e).first,(House.aH b.house e).end_,(House.aH b.house e).things,true⟩),b.log⟩/\cj b'.house/\r=.int (((House.aH b.house e).things.length:Nat):Int)
theorem pC:ao ["museum","show","kept"] ["museum","show"] (ah (top 195)):=b5
theorem x6(D:Dn K mg "hang_show" 195)(G:Gs mg)(eN:uq P w K mg ae "put_all" 1 nU):iR P w K mg ae "hang_show" 2 pB qy:=by
 refine iR.ofD D mH pC ?_
 rintro f aK A0 aq s H XE ys Q m b A b' r hr R ⟨e,rfl,hs,rfl,hI,rfl⟩ _ hQ
 obtain⟨x,hx,h6,hS,_⟩:=R.vj hs
 have oS:=R.inv.sh e _ (dF hs)
 have he:e<b.house.shows.length:=by rw[<-R.ns];exact(List.getElem?_eq_some_iff.mp hx).1
 have shl:∀l:List Nat,House.aH (nS b.house l (House.aH b.house e).place) e=House.aH b.house e:=λl=>ur _ _ _ _
 refine dH 2 (ix ((fld (nm 0) R.dY).lst (aF.of R.ls)) (nm 1) (Mg hx)) (λH1 S1=> ?_) pC.nd
 have Vr:=hS.up S1
 refine Ev.nT (eN.call (ys:= [.ref m,.ref x.2,.int (House.aH b.house e).place]) hr (by decide) (a1 (nm 0) (a1 (fld (nm 2) Vr.dy) (a1 (fld (nm 2) Vr.wq) a0))) (R.up S1) ⟨e,_,x,rfl,hx,oS.place,rfl,rfl⟩ λH' R' fr=> ?_)
 ·have fr:=(Fr.same (m:=m) (G:= []) (A:=A) S1).trans fr R.kM
  have Qx:A.at m (.sh e)=some x.1:=by show(A.sa.getD e none).map (·.1)=_;rw[dX hx];rfl
  refine cv (nm 2) bl λH2 S2=> ?_
  obtain⟨C,T,R2⟩:=(R'.up S2).ex
  obtain⟨dx,ho⟩:=R2.ex (.sh e) x.1 Qx
  refine⟨C.s,dx,_,ho,T.s,T.sf _ (by decide),(by show 5<1000;decide),?_⟩
  have Vs:e<(nS b.house (House.aH b.house e).things (House.aH b.house e).place).shows.length:=by rw[fw];exact he
  have R3:d8 (upd H2 x.1 (.ins C.s dx (cY "hung" (.bl true) (iu (House.aH (nS b.house (House.aH b.house e).things (House.aH b.house e).place) e) ((A.sa.getD e none).getD (0,0)).2)))) C m ⟨(nS b.house (House.aH b.house e).things (House.aH b.house e).place).setShow e (some ⟨(House.aH b.house e).place,(House.aH b.house e).first,(House.aH b.house e).end_,(House.aH b.house e).things,true⟩),b.log⟩ A:=by
   have ex:=Jt (C:=C) (b:=⟨nS b.house (House.aH b.house e).things (House.aH b.house e).place,b.log⟩) (A:=A) Vs
   rw[shl] at ex
   refine R2.change (.sh e) Qx jG ⟨dx,?_⟩ (λP h _=>ex P h) rfl rfl (by show(List.set _ _ _).length=_;rw[List.length_set]) rfl (λi=> ?_)
   ·rw[ak,shl]
    congr 2
    show _=iu (House.aH (House.setShow _ e _) e) _
    rw[fO Vs,if_pos rfl]
    rfl
   ·rw[f6 Vs]
    by_cases q:i=e
    ·subst q
     rw[if_pos rfl]
     have s:=R2.so i
     rw[dX hx] at s
     rw[<-s]
     rfl
    ·rw[if_neg q]
  have R4:Rep K _ m _ A:=⟨⟨C,T,R3⟩,hI,R.log⟩
  obtain⟨s',Qq,Em⟩:=R4.show_ hx
  have q:s'.things=(House.aH b.house e).things:=by
   have h2:(House.setShow (nS b.house (House.aH b.house e).things (House.aH b.house e).place) e (some ⟨(House.aH b.house e).place,(House.aH b.house e).first,(House.aH b.house e).end_,(House.aH b.house e).things,true⟩)).show_ e=some s':=jx Qq
   rw[f6 Vs,if_pos rfl] at h2
   cases h2
   rfl
  refine cB (y:=.int (((House.aH b.house e).things.length:Nat):Int)) (E.cast (len (a1 ((fld (nm 2) Em.dy).lst (aF.of Em.booked)) a0) (G.b _ (by decide))) ?_) λH5 S5=> ?_
  ·rw[List.length_map,q]
  ·exact hQ H5 A (R4.up S5) ((fr.trans (Fr.upd (G:= []) S2 Qx) R.kM).trans (Fr.same S5) R.kM)
end
end Mu
namespace Ev
open PySem PySem.Spec PyProof.Rows L2
section
variable{X:Cx}{o e i arg:Expr}{rest:List Stmt}{σ:L2.St}{H:Hp}{D:Ends}{pos pos' apos:PySem.Pos}
theorem Ju{l:Addr}{xs:List V}{j:Nat}(hu:X.A.units+64<cLine)(ho:E X o σ H (.l xs))(ha:E X arg σ H (.v .non))(XT:∀z∈xs,Nn.RP X.K H z)(hj:xs[j]? =some .non)(By:∀(m:Nat)(z:V),m<j->xs[m]? =some z->z≠.non)
 (cC:attributeBase o "index" X.env (eval o X.env)=eval o X.env:=by rfl)
 (nE:((backTo pos' (starEach [arg] X.env)).all (λx=> !x.1)&&(backToKw pos' (keywordEach [] X.env)).all (λx=>x.1.isSome)
   &&decide ([arg].length+([]:List Keyword).length+(if ([]:List Keyword).isEmpty then 0 else 1)<30))=true:=by rfl)
 (hline:(apos.endLine==pos'.line)=true:=by rfl)(hU:starEach [arg] X.env=(false,eval arg X.env)::starEach [] X.env:=by rfl):
 E X (.Call (.Attribute o "index" apos) [arg] [] pos') σ H (.v (.int j)):=λH1 S1 Q hQ=>
 aY (zm PySem.F.plainAttrs_list PySem.F.slot_list_index PySem.F.type_list_index (Nn.FX hu) az (bJ az du hU) cC nE hline hU rfl)
  (ho H1 S1 _ λv H2 S2 ⟨p,ev,hp⟩=>by
    subst ev
    refine⟨.inl ⟨rfl,_,hp⟩,ha H2 (S1.trans S2) _ λw H3 S3 ow=> ?_⟩
    have ew:w=.non:=ow
    subst ew
    exact⟨p,xs,j,rfl,rfl,S3.seq hp,λz hz=>by
     rcases XT z hz with e|⟨a,C,dx,fs,e,h,pl⟩
     ·exact .inl e
     ·exact .inr ⟨a,C,dx,fs,e,((S1.trans S2).trans S3) _ _ h,pl⟩,hj,By,hQ _ _ (S2.trans S3) rfl⟩)
theorem Jv(h:se X e σ H λy H1=>∃p xs,∃j:Nat,E X o σ H1 (.v (.ref p))/\E X i σ H1 (.v (.int (j:Int)))/\∀H2,au H1 H2->H2 p=some (.lst xs)/\j<xs.length/\sb X rest D σ (upd H2 p (.lst (xs.set j y))))
 (hs:swapsWithSole [.Subscript o i pos'] e pos.line X.env=pure false:=by rfl)(hw:swappedStores [.Subscript o i pos'] e X.env=pure none:=by rfl)(h1:(assignEach [.Subscript o i pos'] X.env).map (·.2)= [assign (.Subscript o i pos') X.env]:=by rfl)
 (ha:∀v,assign (.Subscript o i pos') X.env v=(do
   let ov <-holding [v] (eval o X.env)
   let iv <-holding [v,ov] (eval i X.env)
   standAt pos'
   holding [v,ov,iv] (setItem ov iv v)
   release [v,ov,iv] []):=by intro _;rfl):sb X (.Assign [.Subscript o i pos'] e pos::rest) D σ H:=
 cQ (aU (O5 az (O3 az az set_list ha) hs hw h1) aD) (xV h λy H1 ⟨p,xs,j,ho,hi,k⟩=>ho H1 (au.refl _) _ λv H2 S2 ov=>hi H2 S2 _ λw H3 S3 ow=>by
  have ev:v=.ref p:=ov
  have ew:w=.int j:=ow
  subst ev ew
  obtain⟨h1,h2,h3⟩:=k H3 (S2.trans S3)
  exact⟨p,xs,(j:Int),j,rfl,rfl,h1,by
   unfold KQ
   rw[if_pos (by omega),if_pos (by omega),Int.toNat_natCast],h3⟩)
end
end Ev
namespace Mu
open PySem PySem.Spec PyProof.Rows L2 Ev
open Km383 (House Book)
def Oc(p f o:V)(bl:Addr):List (Str×V):= [("hall",p),("first",f),("over",o),("hung",.bl false),("booked",.ref bl)]
def Jw(C:Addr)(ys:List V)(a:Addr)(H H':Hp):Prop:=∀p f o,ys= [p,f,o]->∃dx bl,H' a=some (.ins C dx (Oc p f o bl))/\H' bl=some (.lst [])/\H bl=none/\bl≠a
section
variable{P:Program}{w:World}{K:W.Frag}{mg:Str->Option Value}{ae:Heap}
abbrev Od:Stmt:=inClass (top 158) 0
theorem Ml:ao ["self","hall","first","over"] ["self","hall","first","over"] (ah Od):=b5
theorem Gb{f C:Addr}{fd:FuncData}(F:jq K "__init__" "Show.__init__" Od f fd)(T:wW K C)(nf:∀f∈(["hall","first","over","hung","booked"]:List Str),bX K C f):bD P w K mg ae eT 1 f fd ["self","hall","first","over"] (ji C 3 (Jw C)):=by
 refine F.ok Ml (λvs H Q E h=> ?_) (λaK A0 aq s H vs Q E hr h=>⟨_,aD,?_⟩)
 ·obtain⟨p,dx,ys,rfl,hl,_⟩:=h
  show ys.length+1=4
  rw[hl]
 ·obtain⟨p,dx,ys,rfl,hl,hp,k⟩:=h
  obtain⟨u,v,o,rfl⟩:=aah hl
  refine cv (nm 0) (nm 1) λH1 S1=>⟨C,dx, [],S1 _ _ hp,T,nf _ (by decide),(by decide),?_⟩
  refine cv (nm 0) (nm 2) λH2 S2=>⟨C,dx,_,S2 _ _ ak,T,nf _ (by decide),(by show 1<1000;decide),?_⟩
  refine cv (nm 0) (nm 3) λH3 S3=>⟨C,dx,_,S3 _ _ ak,T,nf _ (by decide),(by show 2<1000;decide),?_⟩
  refine cv (nm 0) bl λH4 S4=>⟨C,dx,_,S4 _ _ ak,T,nf _ (by decide),(by show 3<1000;decide),?_⟩
  have st:∀b o',H b=some o'->b≠p->upd H4 p (.ins C dx (cY "hung" (.bl false) (cY "over" o (cY "first" v (cY "hall" u []))))) b=some o':=λb o' h hb=>by
   rw[aj hb]
   refine S4 _ _ ?_
   rw[aj hb]
   refine S3 _ _ ?_
   rw[aj hb]
   refine S2 _ _ ?_
   rw[aj hb]
   exact S1 _ _ h
  refine jH (gT _ (au.refl _) _ λbl H5 S5 R9 XU=>⟨p,nm 0,λH6 S6=>⟨C,dx,_,S6 _ _ (S5 _ _ ak),T,nf _ (by decide),(by show 4<1000;decide),?_⟩⟩)
  have XW:bl≠p:=λz=>by
   rw[z,ak] at R9
   cases R9
  refine dB (k _ (λp' f' o' e=> ?_) λb o' h hb=> ?_)
  ·cases e
   refine⟨dx,bl,ak,by rw[aj XW];exact S6 _ _ XU,?_,XW⟩
   cases z:H bl with
   |none=>rfl
   |some o'=>
    rw[st bl o' z XW] at R9
    cases R9
  ·rw[aj hb]
   exact S6 _ _ (S5 _ _ (st b o' h hb))
abbrev pD(A:aQ)(e:Nat)(x:Addr×Addr):aQ:= { A with sa:=A.sa.set e (some x) }
theorem nW{A:aQ}{e i:Nat}{x:Addr×Addr}(he:e<A.sa.length):(A.sa.set e (some x)).getD i none=if i=e then some x else A.sa.getD i none:=by
 rw[List.getD_eq_getElem?_getD,List.getD_eq_getElem?_getD,List.getElem?_set]
 by_cases q:i=e
 ·rw[if_pos q,if_pos q.symm,if_pos he]
  rfl
 ·rw[if_neg q,if_neg (λz=>q z.symm)]
theorem nX{m:Addr}{A:aQ}{e:Nat}{x:Addr×Addr}(he:e<A.sa.length):∀P,P∉ [Spot.sh e,Spot.bk e]->(pD A e x).at m P=A.at m P
 | .mu,_| .lp,_| .lt,_| .ls,_| .le,_| .pl _,_| .th _,_| .nm _,_| .li _,_| .st _,_| .en _,_=>rfl
 | .sh i,h=>by
   have n:i≠e:=λz=>h (by rw[z];simp)
   show((A.sa.set e (some x)).getD i none).map (·.1)=_
   rw[nW he,if_neg n]
   rfl
 | .bk i,h=>by
   have n:i≠e:=λz=>h (by rw[z];simp)
   show((A.sa.set e (some x)).getD i none).map (·.2)=_
   rw[nW he,if_neg n]
   rfl
theorem uw{m a bl:Addr}{A:aQ}{e:Nat}(he:e<A.sa.length){P:Spot}{y:Addr}(hP:P∈ [Spot.sh e,Spot.bk e])(hy:(pD A e (a,bl)).at m P=some y):(P=.sh e/\y=a)\/(P=.bk e/\y=bl):=by
 rcases List.mem_cons.mp hP with q|q
 ·subst q
  have hy:((A.sa.set e (some (a,bl))).getD e none).map (·.1)=some y:=hy
  rw[nW he,if_pos rfl] at hy
  exact .inl ⟨rfl,(Option.some.inj hy).symm⟩
 ·have q:=List.mem_singleton.mp q
  subst q
  have hy:((A.sa.set e (some (a,bl))).getD e none).map (·.2)=some y:=hy
  rw[nW he,if_pos rfl] at hy
  exact .inr ⟨rfl,(Option.some.inj hy).symm⟩
theorem Gd{H:Hp}{C:Cs}{m a bl dx:Addr}{b:Book}{A:aQ}{e p f o:Nat}(R:d8 H C m b A)(hx:A.sa[e]? =some none)(na:∀Q,A.at m Q≠some a)(nb:∀Q,A.at m Q≠some bl)(Vt:bl≠a)
 (ho:H a=some (.ins C.s dx (Oc (.int p) (.int f) (.int o) bl)))(hb:H bl=some (.lst [])):d8 (upd H A.ls (.lst ((A.sa.map cJ).set e (.ref a)))) C m ⟨b.house.setShow e (some ⟨p,f,o, [],false⟩),b.log⟩ (pD A e (a,bl)):=by
 have he:e<A.sa.length:=(List.getElem?_eq_some_iff.mp hx).1
 have Mm:e<b.house.shows.length:=by rw[<-R.ns];exact he
 have Vu:∀{P:Spot}{y:Addr},P∈ [Spot.sh e,Spot.bk e]->(pD A e (a,bl)).at m P=some y->(P=.sh e/\y=a)\/(P=.bk e/\y=bl):=λ{P y} hP hy=>uw he hP hy
 refine⟨λP y hy=> ?_,o9 [.sh e,.bk e] R.inj (nX he) (λP hP y hy=> ?_) (λP hP Q hQ y h1 h2=> ?_),R.np,R.nt,?_,R.ne,λi=> ?_⟩
 ·by_cases q:P∈ [Spot.sh e,Spot.bk e]
  ·rcases Vu q hy with⟨rfl,rfl⟩|⟨rfl,rfl⟩
   ·refine⟨dx,?_⟩
    rw[aj (λz=>na .ls (by rw[z];rfl)),ho]
    congr 2
    show _=iu (House.aH (b.house.setShow e _) e) (((A.sa.set e (some (y,bl))).getD e none).getD (0,0)).2
    rw[fO Mm,if_pos rfl,nW he,if_pos rfl]
    rfl
   ·show _=some (HO.lst ((House.aH (b.house.setShow e _) e).things.map nV))
    rw[aj (λz=>nb .ls (by rw[z];rfl)),hb,fO Mm,if_pos rfl]
    rfl
  ·have pY:=hy
   rw[nX he P q] at pY
   by_cases ql:P=.ls
   ·subst ql
    have ey:A.ls=y:=Option.some.inj pY
    subst ey
    show _=some (HO.lst ((A.sa.set e (some (a,bl))).map cJ))
    rw[ak,List.map_set]
    rfl
   ·have old:=cK.of (aj (H:=H) (a:=A.ls) (o:=.lst ((A.sa.map cJ).set e (.ref a))) λz=>ql (R.inj P .ls y pY (by rw[z];rfl))) (R.ex P y pY)
    have ee:exp C ⟨b.house.setShow e (some ⟨p,f,o, [],false⟩),b.log⟩ (pD A e (a,bl)) P=exp C b A P:=by
     cases P with
     |sh i=>
      have n:i≠e:=λz=>q (by rw[z];simp)
      show cK.ins _ (iu (House.aH (b.house.setShow e _) i) (((A.sa.set e (some (a,bl))).getD i none).getD (0,0)).2)=cK.ins _ (iu (House.aH b.house i) ((A.sa.getD i none).getD (0,0)).2)
      rw[fO Mm,if_neg n,nW he,if_neg n]
     |bk i=>
      have n:i≠e:=λz=>q (by rw[z];simp)
      show cK.lst ((House.aH (b.house.setShow e _) i).things.map nV)=cK.lst ((House.aH b.house i).things.map nV)
      rw[fO Mm,if_neg n]
     |ls=>exact absurd rfl ql
     |_=>rfl
    rw[ee]
    exact old
 ·rcases Vu hP hy with⟨_,rfl⟩|⟨_,rfl⟩
  ·exact na
  ·exact nb
 ·rcases Vu hP h1 with⟨rfl,e1⟩|⟨rfl,e1⟩<;>rcases Vu hQ h2 with⟨rfl,e2⟩|⟨rfl,e2⟩
  ·rfl
  ·exact absurd (e2.symm.trans e1) Vt
  ·exact absurd (e1.symm.trans e2) Vt
  ·rfl
 ·show(A.sa.set e _).length=(b.house.shows.set e _).length
  rw[List.length_set,List.length_set]
  exact R.ns
 ·show((A.sa.set e (some (a,bl))).getD i none).isSome=_
  rw[nW he,f6 Mm]
  by_cases q:i=e
  ·rw[if_pos q,if_pos q]
   rfl
  ·rw[if_neg q,if_neg q]
   exact R.so i
theorem Rep.Qy{H:Hp}{m:Addr}{b:Book}{A:aQ}(R:Rep K H m b A){e:Nat}(h:freeOf b.house=some e):A.sa[e]? =some none/\∀(i:Nat)(z:V),i<e->(A.sa.map cJ)[i]? =some z->z≠.non:=by
 have six:=R.six
 obtain⟨C,T,R⟩:=R.ex
 unfold freeOf at h
 rw[List.find?_range_eq_some] at h
 obtain⟨h1,h2,h3⟩:=h
 have h2:e<6:=List.mem_range.mp h2
 have g:A.sa[e]? =some A.sa[e]:=List.getElem?_eq_getElem (by omega)
 constructor
 ·rw[g]
  have s:=R.so e
  rw[dX g] at s
  cases q:A.sa[e] with
  |none=>rfl
  |some x=>
   rw[q] at s
   cases q2:b.house.show_ e with
   |none=>rw[q2] at s;cases s
   |some y=>rw[q2] at h1;cases h1
 ·intro i z hi hz ez
  subst ez
  rw[List.getElem?_map] at hz
  have gi:A.sa[i]? =some A.sa[i]:=List.getElem?_eq_getElem (by omega)
  rw[gi] at hz
  have s:=R.so i
  rw[dX gi] at s
  have n:=h3 i hi
  cases q:A.sa[i] with
  |none=>
   rw[q] at s
   cases q2:b.house.show_ i with
   |none=>rw[q2] at n;simp at n
   |some y=>rw[q2] at s;cases s
  |some x=>
   rw[q] at hz
   cases(show V.ref x.1=V.non from Option.some.inj hz)
def rC(m:Addr)(b:Book)(A:aQ)(ys:List V)(b':Book)(r:V):Prop:=∃p f o e:Nat,ys= [.ref m,.int p,.int f,.int o]/\freeOf b.house=some e/\b'=⟨b.house.setShow e (some ⟨p,f,o, [],false⟩),b.log⟩/\cj b'.house/\r=.int e
theorem rD:ao ["museum","place","first","over","number"] ["museum","place","first","over"] (ah (top 186)):=b5
theorem Ai{f1:Addr}{ug:FuncData}(D:Dn K mg "add_show" 186)(hC:∀C:Cs,Tx K C.m C.p C.t C.s->mg "Show"=some (.ref C.s)/\Mk K C.s f1/\bD P w K mg ae eT 1 f1 ug ["self","hall","first","over"] (ji C.s 3 (Jw C.s)))(bI:Binds K ug ["self","hall","first","over"] []):iR P w K mg ae "add_show" 3 rC qy:=by
 refine iR.ofD D RQ rD ?_
 rintro f aK A0 aq s H XE ys Q m b A b' r hr R ⟨p,fi,o,e,rfl,hf,rfl,hI,rfl⟩ _ hQ
 obtain⟨hx,By⟩:=R.Qy hf
 refine dH 4 (Ju (l:=A.ls) (j:=e) hr.units ((fld (nm 0) R.dY).lst (aF.of R.ls)) non R.Zb (by rw[List.getElem?_map,hx];rfl) By) (λH1 S1=> ?_) rD.nd
 obtain⟨C,T,R1⟩:=(R.up S1).ex
 have R1r:=R.up S1
 obtain⟨mC,MC,FC⟩:=hC C T
 refine Jv (nQ (ys:= [.int p,.int fi,.int o]) MC FC hr mC bI (a1 (nm 1) (a1 (nm 2) (a1 (nm 3) a0))) rfl λa H2 H3 S2 na S3 ⟨H4,Ab,Vv⟩=> ?_)
 obtain⟨dx,bl,ho,hb,R9,Vt⟩:=Ab _ _ _ rfl
 have Zd:=(R1r.up S2).up S3
 refine⟨A.ls,A.sa.map cJ,e,fld (nm 0) Zd.dY,nm 4,λH5 S5=>⟨S5 _ _ Zd.ls,by rw[List.length_map];exact(List.getElem?_eq_some_iff.mp hx).1,?_⟩⟩
 have R5:=((R1.up S2).up S3).up S5
 have Vo:=(R1.up S2).tracked na
 have Ze:H2 bl=none:=au.free Vv R9
 have nb':=(R1.up S2).tracked Ze
 have R6:=Gd (p:=p) (f:=fi) (o:=o) R5 hx Vo nb' Vt (S5 _ _ ho) (S5 _ _ hb)
 refine cB (nm 4) λH7 S7=>hQ H7 _ ⟨⟨C,T,R6.up S7⟩,hI,R.log⟩ ⟨λy u hy n _=>S7 _ _ ?_,λP y hy=> ?_⟩
 ·rw[aj (λz=>n .ls (by rw[z];rfl))]
  exact S5 _ _ (S3 _ _ (S2 _ _ (S1 _ _ hy)))
 ·by_cases q:P∈ [Spot.sh e,Spot.bk e]
  ·rcases uw (List.getElem?_eq_some_iff.mp hx).1 q hy with⟨_,rfl⟩|⟨_,rfl⟩
   ·exact .inr (.inl ((S1.trans S2).free na))
   ·exact .inr (.inl ((S1.trans S2).free Ze))
  ·rw[nX (List.getElem?_eq_some_iff.mp hx).1 P q] at hy
   exact .inl ⟨P,hy⟩
end
theorem Jx{h:House}{t d:Nat}(hc:(h.thing t).came<=d)(hd:d<h.today):qP ((a6 h t).map nV) ((d:Int) - ((h.thing t).came:Nat))=some (.int (((h.where_ t d).getD 0:Nat):Int)):=by
 have e:(d:Int) - ((h.thing t).came:Nat)=((d - (h.thing t).came:Nat):Int):=by omega
 rw[e]
 refine cZ ?_
 unfold a6
 rw[List.getElem?_map,List.getElem?_map,List.getElem?_range (by omega)]
 show some (nV ((h.where_ t ((h.thing t).came+(d - (h.thing t).came))).getD 0))=_
 rw[show(h.thing t).came+(d - (h.thing t).came)=d by omega]
 rfl
theorem Aj(h:House)(q:Nat):h.inside q q=true:=by
 unfold House.inside Km383.PLACES Km383.within
 simp
theorem Ak{h:House}{o:Nat}(ne:0≠o):h.inside 0 o=false:=by
 unfold House.inside Km383.PLACES Km383.within
 simp[ne]
theorem rE{h:House}(I:cj h){o:Nat}:∀(f q:Nat),q<h.places.length->q<=f->Km383.within h.places (f+1) q o=Km383.within h.places f q o
 | 0,q,hq,hf=>by
   have:q=0:=by omega
   subst this
   simp[Km383.within]
 |f+1,q,hq,hf=>by
  show(q==o||(decide (q≠0)&&Km383.within h.places (f+1) (h.place q).up o))=(q==o||(decide (q≠0)&&Km383.within h.places f (h.place q).up o))
  by_cases q0:q=0
  ·rw[q0]
   simp
  ·have up:(h.place q).up<q:=(I.pl q _ (iX hq)).up.resolve_left q0
   rw[rE I f (h.place q).up (by omega) (by omega)]
theorem Ge{h:House}(I:cj h){q o:Nat}(hq:q<h.places.length)(q0:q≠0)(ne:q≠o):h.inside q o=h.inside (h.place q).up o:=by
 have up:(h.place q).up<q:=(I.pl q _ (iX hq)).up.resolve_left q0
 have n12:=I.np.2
 unfold House.inside Km383.PLACES
 rw[rE I 11 (h.place q).up (by omega) (by omega)]
 show(q==o||(decide (q≠0)&&Km383.within h.places 11 (h.place q).up o))=_
 simp[q0,ne]
theorem Gf{w:List Nat}(h:w.length<=8):Km383.isName w=(decide (0<w.length)&&w.all Km383.isLetter):=by
 unfold Km383.isName Km383.NAME
 rw[decide_eq_true h,Bool.true_and]
 rfl
theorem Qz{K:W.Frag}{H:Hp}{xs ys:List V}{a b c d e:V}(h:dv K H [.v a,.v b,.v c,.v d,.v e,.l xs] ys):∃p,ys= [a,b,c,d,e,.ref p]/\aF K H p xs:=by
 cases h with
 |cons r1 h=>cases h with
  |cons r2 h=>cases h with
   |cons r3 h=>cases h with
    |cons r4 h=>cases h with
     |cons r5 h=>cases h with
      |cons r6 h=>
       cases h
       obtain⟨p,ep,q⟩:=r6
       have e1:_=a:=r1
       have e2:_=b:=r2
       have e3:_=c:=r3
       have e4:_=d:=r4
       have e5:_=e:=r5
       subst e1 e2 e3 e4 e5 ep
       exact⟨p,rfl,q⟩
theorem _root_.Ev.Mp{X:Cx}{c:Expr}{bd rest:List Stmt}{σ:L2.St}{H:Hp}{sh:Sh}{pos:PySem.Pos}(W:Nat->L2.St->Prop){n:Nat}(h0:W n σ)(ht:∀n aO,W n aO->∃k,T X c aO H k/\(k=true->∃xE,B X bd aO H xE/\∃n',n'<n/\W n' xE)/\(k=false->S X rest aO H sh))
 (hp:PassesOwn (model X.prog X.w) X.A X.env X.xe):S X (.While c bd [] pos::rest) σ H sh:=λH1 S1 D hD=>
 mh (λn aO H'=>W n aO/\au H1 H') ⟨h0,au.refl _⟩ (λn aO H' ⟨w,S2⟩=>by
  obtain⟨k,hT,h1,h2⟩:=ht n aO w
  refine⟨k,hT.up (S1.trans S2),λhk H3 S3=> ?_,λhk H3 S3=> ?_⟩
  ·obtain⟨xE,hB,n',hn,w'⟩:=h1 hk
   exact hB H3 ((S1.trans S2).trans S3) _ λH4 S4=>⟨n',hn,w',(S2.trans S3).trans S4⟩
  ·exact h2 hk H3 ((S1.trans S2).trans S3) D λv H4 S4 ov=>hD v H4 ((S2.trans S3).trans S4) ov) hp
section
variable{P:Program}{w:World}{K:W.Frag}{mg:Str->Option Value}{ae:Heap}
def rF(m:Addr)(b:Book)(A:aQ)(l:List Sh)(z:Sh):Prop:=∃(t:Nat)(d:Nat),l= [.v (.ref m),.v (.int t),.v (.int d)]/\(t<b.house.things.length)/\((b.house.thing t).came<=d)/\(d<=b.house.today)/\z=.v (.int (((b.house.where_ t d).getD 0:Nat):Int))
theorem rG:ao ["museum","thing","day","kept"] ["museum","thing","day"] (ah (top 34)):=b5
theorem Al(D:Dn K mg "place_on" 34)(G:Gs mg):Cal P w K mg ae "place_on" 1 (Rq K rF):=by
 refine Cal.ofD D mU rG Rq.up ?_
 rintro f aK A0 aq s H XE l z ys hr os ⟨m,b,A,R,t,d,rfl,ht,hc,hd,rfl⟩
 obtain rfl:=dv.vs (xs:= [(.ref m),(.int t),(.int d)]) os
 obtain⟨x,hx⟩:=R.sV ht
 refine gQ 3 (ix ((fld (nm 0) R.aX).lst (aF.of R.lt)) (nm 1) (wu hx)) ?_ rG.nd
 refine aw (Qg (ai cg (nm 2) (fld (nm 0) R.dg)) (λq=>E.cast (fld (nm 3) (R.gR hx)) ?_) (λq=>ix ((fld (nm 3) (R.Qn hx)).lst (aF.of (R.Qo hx))) (sub (nm 2) (fld (nm 3) (R.Ek hx))) (Jx hc ?_)))
 ·have e:d=b.house.today:=by
   have:=of_decide_eq_true q
   omega
  subst e
  rfl
 ·have:=of_decide_eq_false q
  omega
def jI(m:Addr)(b:Book)(A:aQ)(l:List Sh)(z:Sh):Prop:=∃(p:Nat)(o:Nat),l= [.v (.ref m),.v (.int p),.v (.int o)]/\(p<b.house.places.length)/\z=.v (.bl (b.house.inside p o))
theorem jJ:ao ["museum","place","outer","at"] ["museum","place","outer"] (ah (top 23)):=b5
theorem x8(D:Dn K mg "is_within" 23)(G:Gs mg):Cal P w K mg ae "is_within" 1 (Rq K jI):=by
 refine Cal.ofD D mU jJ Rq.up ?_
 rintro f aK A0 aq s H XE l z ys hr os ⟨m,b,A,R,p,o,rfl,hp,rfl⟩
 obtain rfl:=dv.vs (xs:= [(.ref m),(.int p),(.int o)]) os
 refine gQ 3 (nm 1) ?_ jJ.nd
 refine Mp (λn aO=>(∃q:Nat,n=q+1/\aO= [some (.ref m),some (.int p),some (.int o),some (.int q)]/\q<b.house.places.length/\b.house.inside q o=b.house.inside p o)\/(n=0/\aO= [some (.ref m),some (.int p),some (.int o),some .non]/\b.house.inside p o=false)) (n:=p+1) (.inl ⟨p,rfl,rfl,hp,rfl⟩) (λn aO hw=> ?_) PassesOwn.never
 rcases hw with⟨q,rfl,rfl,hq,e⟩|⟨rfl,rfl,e⟩
 ·refine⟨_,tY (w_and (m:= !decide ((q:Int)=(o:Int))) (ai tX (nm 3) non) λ_=>xD (ai Xs (nm 3) (nm 2))),λhk=> ?_,λhk=> ?_⟩
  ·obtain⟨a,ha⟩:=R.xJ hq
   have ne:q≠o:=λz=>by
    subst z
    simp at hk
   refine⟨_,Eh 3 (fld (ix ((fld (nm 0) R.dw).lst (aF.of R.lp)) (nm 3) (IV ha)) (R.fUp ha)) wo jJ.nd,?_⟩
   unfold Qm
   by_cases q0:q=0
   ·rw[if_pos q0]
    refine⟨0,by omega,.inr ⟨rfl,rfl,?_⟩⟩
    rw[<-e,q0]
    subst q0
    exact Ak ne
   ·rw[if_neg q0]
    have ok:=R.inv.pl q _ (iX hq)
    have up:(b.house.place q).up<q:=ok.up.resolve_left q0
    refine⟨(b.house.place q).up+1,by omega,.inl ⟨(b.house.place q).up,rfl,rfl,by omega,?_⟩⟩
    rw[<-e]
    exact(Ge R.inv hq q0 ne).symm
  ·have eq:q=o:=by
    by_cases z:q=o
    ·exact z
    ·have:¬((q:Int)=(o:Int)):=by omega
     simp[this] at hk
   subst eq
   refine Ev.S.cast (aw (cI tX (nm 3) non)) ?_
   rw[<-e,Aj]
   rfl
 ·refine⟨_,tY (w_and (k:=false) (m:=false) (T.cast (ai tX (nm 3) non) rfl) (λz=>nomatch z)),(λhk=>nomatch hk),λhk=> ?_⟩
  refine Ev.S.cast (aw (cI tX (nm 3) non)) ?_
  rw[e]
  rfl
def jj(m:Addr)(b:Book)(A:aQ)(l:List Sh)(z:Sh):Prop:=∃(n:Nat)(k:Nat)(u:Nat)(p:Nat)(ns:List Nat),l= [.v (.ref m),.v (.int n),.v (.int k),.v (.int u),.v (.int p),.l (ns.map nV)]/\(ns.length<=8)/\z=.v (.int (gB (if 8<n then(b.house,-22) else b.house.do_ (.thing ns k u p)).2))
theorem qA:ao ["museum","n","material","limit","place","letters"] ["museum","n","material","limit","place","letters"] (ah (top 169)):=b5
theorem qB(D:Dn K mg "thing_refusal" 169)(G:Gs mg)(jK:Cal P w K mg ae "has_name" 1 (Rq K rk))(bO:Cal P w K mg ae "is_full" 2 (Rq K gS))(aA:Cal P w K mg ae "has_place" 1 (Rq K b9))(bf:Cal P w K mg ae "is_away" 1 (Rq K fH))(ml:Cal P w K mg ae "is_name" 1 (Rq K ud)):Cal P w K mg ae "thing_refusal" 3 (Rq K jj):=by
 refine Cal.ofD D bd6 qA Rq.up ?_
 rintro f aK A0 aq s H XE l z ys hr os ⟨m,b,A,R,n,k,u,p,ns,rfl,hn,rfl⟩
 obtain⟨q,rfl,hq⟩:=Qz os
 refine aR (ai rS (nm 1) (G.k (i:=8))) (aw (G.k (i:= -22))) (by simp;omega) (by decide) λn0=> ?_
 simp only[House.do_,Km383.THINGS]
 refine aR (cz (aI (call (aA.at hr) (a1 (nm 0) (a1 (nm 4) a0)) ⟨m,b,A,R,p,rfl,rfl⟩))) (aw (G.k (i:= -2))) (by simp) (by decide) λn1=> ?_
 have hp:p<b.house.places.length:=by omega
 obtain⟨a,ha⟩:=R.xJ hp
 refine aR (tY (w_or (cz (aI (call (ml.at hr) (a1 ((nm 5).lst hq) a0) ⟨m,b,A,R,ns,rfl,by omega,rfl⟩))) λ_=>(w_or (ai rS (nm 2) (G.k (i:=7))) λ_=>(w_or (ai rS (nm 3) (G.k (i:=1000000))) λ_=>(gP (aI (call (bf.at hr) (a1 (nm 0) (a1 (nm 4) a0)) ⟨m,b,A,R,p,rfl,hp,rfl⟩))))))) (aw (G.k (i:= -22))) (by rw[Gf hn];generalize (decide (0<ns.length)&&ns.all Km383.isLetter)=X;cases X<;>simp<;>omega) (by decide) λn2=> ?_
 refine aR (aI (call (jK.at hr) (a1 (nm 0) (a1 ((nm 5).lst hq) a0)) ⟨m,b,A,R,ns,rfl,rfl⟩)) (aw (G.k (i:= -17))) Iff.rfl (by decide) λn3=> ?_
 have FN:=R.inv.nt
 refine aR (ai cg (len (a1 ((fld (nm 0) R.aX).lst (aF.of R.lt)) a0) (G.b _ (by decide))) (G.k (i:=24))) (aw (G.k (i:= -28))) (by rw[decide_eq_true_eq,List.length_map,R.nt];omega) (by decide) λn4=> ?_
 refine aR (aI (call (bO.at hr) (a1 (nm 0) (a1 (nm 4) a0)) ⟨m,b,A,R,p,rfl,hp,rfl⟩)) (aw (G.k (i:= -12))) Iff.rfl (by decide) λn5=> ?_
 exact Ev.S.cast (aw (G.k (i:=0))) iw
def kv(m:Addr)(b:Book)(A:aQ)(l:List Sh)(z:Sh):Prop:=∃(e:Nat)(p:Nat),l= [.v (.ref m),.v (.int e),.v (.int p)]/\(HH b.house)/\z=.v (.int (gB (b.house.do_ (.down e p)).2))
theorem kx:ao ["museum","show","place","kept"] ["museum","show","place"] (ah (top 196)):=b5
theorem sD(D:Dn K mg "down_refusal" 196)(G:Gs mg)(a9:Cal P w K mg ae "is_hall" 1 (Rq K fG))(bf:Cal P w K mg ae "is_away" 1 (Rq K fH))(cn:Cal P w K mg ae "has_room_for" 2 (Rq K gg))(aW:Cal P w K mg ae "has_show" 1 (Rq K eJ))(aA:Cal P w K mg ae "has_place" 1 (Rq K b9)):Cal P w K mg ae "down_refusal" 3 (Rq K kv):=by
 refine Cal.ofD D mU kx Rq.up ?_
 rintro f aK A0 aq s H XE l z ys hr os ⟨m,b,A,R,e,p,rfl,hh,rfl⟩
 obtain rfl:=dv.vs (xs:= [(.ref m),(.int e),(.int p)]) os
 rw[xr]
 refine aR (tY (w_or (cz (aI (call (aW.at hr) (a1 (nm 0) (a1 (nm 1) a0)) ⟨m,b,A,R,e,rfl,rfl⟩))) λ_=>(gP (cz (aI (call (aA.at hr) (a1 (nm 0) (a1 (nm 2) a0)) ⟨m,b,A,R,p,rfl,rfl⟩)))))) (aw (G.k (i:= -2))) (by cases b.house.show_ e<;>simp) (by decide) λn1=> ?_
 obtain⟨RT,n1b⟩:=not_or.mp n1
 have hp:p<b.house.places.length:=by omega
 obtain⟨a,ha⟩:=R.xJ hp
 obtain⟨x,hx,h6,hS,Uo⟩:=R.vj RT
 refine gQ 3 (ix ((fld (nm 0) R.dY).lst (aF.of R.ls)) (nm 1) (Mg hx)) ?_ kx.nd
 refine aR (cz (aI (fld (nm 3) hS.t4))) (aw (G.k (i:= -6))) (by simp) (by decide) λn2=> ?_
 refine aR (tY (w_or (aI (call (a9.at hr) (a1 (nm 0) (a1 (nm 2) a0)) ⟨m,b,A,R,p,rfl,hp,rfl⟩)) λ_=>(gP (aI (call (bf.at hr) (a1 (nm 0) (a1 (nm 2) a0)) ⟨m,b,A,R,p,rfl,hp,rfl⟩))))) (aw (G.k (i:= -22))) (by simp) (by decide) λn3=> ?_
 have ho:=Iu hh RT (by simpa using n2) (λz=>n3 (.inl z))
 refine aR (cz (aI (call (cn.at hr) (a1 (nm 0) (a1 (nm 2) (a1 ((fld (nm 3) hS.dy).lst (aF.of hS.booked)) a0))) ⟨m,b,A,R,p,_,rfl,hp,rfl⟩))) (aw (G.k (i:= -12))) (by rw[ho];simp;omega) (by decide) λn4=> ?_
 exact Ev.S.cast (aw (G.k (i:=0))) iw
def iB(m:Addr)(b:Book)(A:aQ)(l:List Sh)(z:Sh):Prop:=∃(e:Nat),l= [.v (.ref m),.v (.int e)]/\z=.v (.int (gB (b.house.do_ (.cancel e)).2))
theorem pE:ao ["museum","show"] ["museum","show"] (ah (top 198)):=b5
theorem pF(D:Dn K mg "cancel_refusal" 198)(G:Gs mg)(aW:Cal P w K mg ae "has_show" 1 (Rq K eJ)):Cal P w K mg ae "cancel_refusal" 2 (Rq K iB):=by
 refine Cal.ofD D mH pE Rq.up ?_
 rintro f aK A0 aq s H XE l z ys hr os ⟨m,b,A,R,e,rfl,rfl⟩
 obtain rfl:=dv.vs (xs:= [(.ref m),(.int e)]) os
 rw[qh]
 refine aR (cz (aI (call (aW.at hr) (a1 (nm 0) (a1 (nm 1) a0)) ⟨m,b,A,R,e,rfl,rfl⟩))) (aw (G.k (i:= -2))) (by cases b.house.show_ e<;>simp) (by decide) λn1=> ?_
 obtain⟨x,hx,h6,hS,Uo⟩:=R.vj n1
 refine aR (aI (fld (ix ((fld (nm 0) R.dY).lst (aF.of R.ls)) (nm 1) (Mg hx)) hS.t4)) (aw (G.k (i:= -15))) Iff.rfl (by decide) λn2=> ?_
 exact Ev.S.cast (aw (G.k (i:=0))) lu
end
abbrev jk(A:aQ)(e:Nat):aQ:= { A with sa:=A.sa.set e none }
theorem sY{A:aQ}{e i:Nat}(he:e<A.sa.length):(A.sa.set e none).getD i none=if i=e then none else A.sa.getD i none:=by
 rw[List.getD_eq_getElem?_getD,List.getD_eq_getElem?_getD,List.getElem?_set]
 by_cases q:i=e
 ·rw[if_pos q,if_pos q.symm,if_pos he]
  rfl
 ·rw[if_neg q,if_neg (λz=>q z.symm)]
theorem iC{m:Addr}{A:aQ}{e:Nat}{y:Addr}(he:e<A.sa.length):∀P,(jk A e).at m P=some y->A.at m P=some y/\P≠.sh e/\P≠.bk e
 | .mu,h| .lp,h| .lt,h| .ls,h| .le,h| .pl _,h| .th _,h| .nm _,h| .li _,h| .st _,h| .en _,h=>⟨h,(λz=>nomatch z),(λz=>nomatch z)⟩
 | .sh i,h=>by
   have h:((A.sa.set e none).getD i none).map (·.1)=some y:=h
   rw[sY he] at h
   by_cases q:i=e
   ·rw[if_pos q] at h
    cases h
   ·rw[if_neg q] at h
    exact⟨h,(λz=>q (Spot.sh.inj z)),(λz=>nomatch z)⟩
 | .bk i,h=>by
   have h:((A.sa.set e none).getD i none).map (·.2)=some y:=h
   rw[sY he] at h
   by_cases q:i=e
   ·rw[if_pos q] at h
    cases h
   ·rw[if_neg q] at h
    exact⟨h,(λz=>nomatch z),(λz=>q (Spot.bk.inj z))⟩
theorem wB{H:Hp}{C:Cs}{m:Addr}{b:Book}{A:aQ}{e:Nat}(R:d8 H C m b A)(he:e<A.sa.length):d8 (upd H A.ls (.lst ((A.sa.map cJ).set e .non))) C m ⟨b.house.setShow e none,b.log⟩ (jk A e):=by
 have Mm:e<b.house.shows.length:=by rw[<-R.ns];exact he
 refine⟨λP y hy=> ?_,λP Q y h1 h2=>R.inj P Q y (iC he P h1).1 (iC he Q h2).1,R.np,R.nt,?_,R.ne,λi=> ?_⟩
 ·obtain⟨pY,n1,n2⟩:=iC he P hy
  by_cases ql:P=.ls
  ·subst ql
   have ey:A.ls=y:=Option.some.inj pY
   subst ey
   show _=some (HO.lst ((A.sa.set e none).map cJ))
   rw[ak,List.map_set]
   rfl
  ·have old:=cK.of (aj (H:=H) (a:=A.ls) (o:=.lst ((A.sa.map cJ).set e .non)) λz=>ql (R.inj P .ls y pY (by rw[z];rfl))) (R.ex P y pY)
   have ee:exp C ⟨b.house.setShow e none,b.log⟩ (jk A e) P=exp C b A P:=by
    cases P with
    |sh i=>
     have n:i≠e:=λz=>n1 (by rw[z])
     show cK.ins _ (iu (House.aH (b.house.setShow e _) i) (((A.sa.set e none).getD i none).getD (0,0)).2)=cK.ins _ (iu (House.aH b.house i) ((A.sa.getD i none).getD (0,0)).2)
     rw[sY he,if_neg n]
     unfold House.aH
     rw[f6 Mm,if_neg n]
    |bk i=>
     have n:i≠e:=λz=>n2 (by rw[z])
     show cK.lst ((House.aH (b.house.setShow e _) i).things.map nV)=cK.lst ((House.aH b.house i).things.map nV)
     unfold House.aH
     rw[f6 Mm,if_neg n]
    |ls=>exact absurd rfl ql
    |_=>rfl
   rw[ee]
   exact old
 ·show(A.sa.set e _).length=(b.house.shows.set e _).length
  rw[List.length_set,List.length_set]
  exact R.ns
 ·show((A.sa.set e none).getD i none).isSome=_
  rw[sY he,f6 Mm]
  by_cases q:i=e
  ·rw[if_pos q,if_pos q]
   rfl
  ·rw[if_neg q,if_neg q]
   exact R.so i
theorem _root_.Ev.Fd.ne{K:W.Frag}{H:Hp}{p a:Addr}{f:Str}{x:V}{o:HO}(h:Fd K H p f x)(n:p≠a):Fd K (upd H a o) p f x:=by
 obtain⟨C,dx,fs,h1,h2⟩:=h
 exact⟨C,dx,fs,(aj n).trans h1,h2⟩
section
variable{P:Program}{w:World}{K:W.Frag}{mg:Str->Option Value}{ae:Heap}
theorem Eu{H H1 H2:Hp}{m:Addr}{A:aQ}{e:Nat}{o:HO}(he:e<A.sa.length)(a:Fr m [] A A H H1)(S:au H1 H2):Fr m [] A (jk A e) H (upd H2 A.ls o):=
 ⟨λy u hy n g=>by rw[aj (λz=>n .ls (by rw[z];rfl))];exact S _ _ (a.keep y u hy n g),λP y h=>.inl ⟨P,(iC he P h).1⟩⟩
def lC(m:Addr)(b:Book)(A:aQ)(ys:List V)(b':Book)(r:V):Prop:=∃e:Nat,ys= [.ref m,.int e]/\¬(b.house.show_ e).isNone=true/\b'=⟨b.house.setShow e none,b.log⟩/\r=.int 0
theorem ux:ao ["museum","show"] ["museum","show"] (ah (top 199)):=b5
theorem uz(D:Dn K mg "cancel_show" 199):iR P w K mg ae "cancel_show" 1 lC qy:=by
 refine iR.ofD D mH ux ?_
 rintro f aK A0 aq s H XE ys Q m b A b' r hr R ⟨e,rfl,hs,rfl,rfl⟩ _ hQ
 obtain⟨x,hx,h6,hS,_⟩:=R.vj hs
 have he:e<A.sa.length:=(List.getElem?_eq_some_iff.mp hx).1
 refine Jv (non H (au.refl _) _ λv H1 S1 ov=> ?_)
 have ev:v=.non:=ov
 subst ev
 have R1:=R.up S1
 refine⟨A.ls,A.sa.map cJ,e,fld (nm 0) R1.dY,nm 1,λH2 S2=>⟨S2 _ _ R1.ls,by rw[List.length_map];exact he,?_⟩⟩
 obtain⟨C,T,R2⟩:=(R1.up S2).ex
 refine cB int λH3 S3=>hQ H3 (jk A e) ⟨⟨C,T,(wB R2 he).up S3⟩,oH R.inv,R.log⟩ ?_
 have f0:=Eu (o:=.lst ((A.sa.map cJ).set e .non)) he (Fr.same (m:=m) (G:= []) (A:=A) S1) S2
 exact⟨λy u hy n g=>S3 _ _ (f0.keep y u hy n g),f0.new⟩
def pG(m:Addr)(b:Book)(A:aQ)(ys:List V)(b':Book)(r:V):Prop:=∃e p:Nat,ys= [.ref m,.int e,.int p]/\¬(b.house.show_ e).isNone=true/\p<b.house.places.length/\
 b'=⟨(nS b.house (House.aH b.house e).things p).setShow e none,b.log⟩/\r=.int (((House.aH b.house e).things.length:Nat):Int)
theorem pH:ao ["museum","show","place","kept"] ["museum","show","place"] (ah (top 197)):=b5
theorem x9(D:Dn K mg "take_down" 197)(G:Gs mg)(eN:uq P w K mg ae "put_all" 1 nU):iR P w K mg ae "take_down" 2 pG qy:=by
 refine iR.ofD D mU pH ?_
 rintro f aK A0 aq s H XE ys Q m b A b' r hr R ⟨e,p,rfl,hs,hp,rfl,rfl⟩ _ hQ
 obtain⟨x,hx,h6,hS,_⟩:=R.vj hs
 have he:e<A.sa.length:=(List.getElem?_eq_some_iff.mp hx).1
 refine dH 3 (ix ((fld (nm 0) R.dY).lst (aF.of R.ls)) (nm 1) (Mg hx)) (λH1 S1=> ?_) pH.nd
 have Vr:=hS.up S1
 refine Ev.nT (eN.call (ys:= [.ref m,.ref x.2,.int p]) hr (by decide) (a1 (nm 0) (a1 (fld (nm 3) Vr.dy) (a1 (nm 2) a0))) (R.up S1) ⟨e,_,x,rfl,hx,hp,rfl,rfl⟩ λH' R' fr=> ?_)
 have fr:=(Fr.same (m:=m) (G:= []) (A:=A) S1).trans fr R.kM
 refine Jv (non H' (au.refl _) _ λv H2 S2 ov=> ?_)
 have ev:v=.non:=ov
 subst ev
 have R2:=R'.up S2
 refine⟨A.ls,A.sa.map cJ,e,fld (nm 0) R2.dY,nm 1,λH3 S3=>⟨S3 _ _ R2.ls,by rw[List.length_map];exact he,?_⟩⟩
 have R3:=R2.up S3
 obtain⟨s',Qq,Em⟩:=R3.show_ hx
 have q:s'=House.aH b.house e:=((ur b.house (House.aH b.house e).things p e).symm.trans (Js Qq)).symm
 subst q
 obtain⟨C,T,RC⟩:=R3.ex
 have Sb:A.at m (.sh e)=some x.1:=by show(A.sa.getD e none).map (·.1)=_;rw[dX hx];rfl
 have Vw:A.at m (.bk e)=some x.2:=by show(A.sa.getD e none).map (·.2)=_;rw[dX hx];rfl
 have n1:x.1≠A.ls:=λz=>nomatch RC.inj (.sh e) .ls x.1 Sb (by rw[z];rfl)
 have n2:x.2≠A.ls:=λz=>nomatch RC.inj (.bk e) .ls x.2 Vw (by rw[z];rfl)
 have bk:upd H3 A.ls (.lst ((A.sa.map cJ).set e .non)) x.2=some (.lst ((House.aH b.house e).things.map nV)):=(aj n2).trans Em.booked
 refine cB (y:=.int (((House.aH b.house e).things.length:Nat):Int)) (E.cast (len (a1 ((fld (nm 3) (Em.dy.ne n1)).lst (aF.of bk)) a0) (G.b _ (by decide))) (by rw[List.length_map])) λH5 S5=> ?_
 refine hQ H5 (jk A e) ⟨⟨C,T,(wB RC he).up S5⟩,oH (oG _ R.inv hp),R.log⟩ ?_
 have f0:=Eu (o:=.lst ((A.sa.map cJ).set e .non)) he fr (S2.trans S3)
 exact⟨λy u hy n g=>S5 _ _ (f0.keep y u hy n g),f0.new⟩
end
def Jy(n k u c p:V)(sl ll:Addr):List (Str×V):= [("name",n),("material",k),("limit",u),("harm",.int 0),("came",c),("place",p),("back",.non),("stays",.ref sl),("lights",.ref ll)]
def Ew(C:Addr)(ys:List V)(a:Addr)(H H':Hp):Prop:=∀n k u c p,ys= [n,k,u,c,p]->∃dx sl ll,H' a=some (.ins C dx (Jy n k u c p sl ll))/\H' sl=some (.lst [])/\H' ll=some (.lst [.int 0])/\H sl=none/\H ll=none/\sl≠a/\ll≠a/\sl≠ll
section
variable{P:Program}{w:World}{K:W.Frag}{mg:Str->Option Value}{ae:Heap}
abbrev Jz:Stmt:=inClass (top 157) 0
theorem JA:ao ["self","name","material","limit","came","place"] ["self","name","material","limit","came","place"] (ah Jz):=b5
theorem Cz{f C:Addr}{fd:FuncData}(F:jq K "__init__" "Thing.__init__" Jz f fd)(T:wW K C)(nf:∀f∈(["name","material","limit","harm","came","place","back","stays","lights"]:List Str),bX K C f):bD P w K mg ae eT 1 f fd ["self","name","material","limit","came","place"] (ji C 5 (Ew C)):=by
 refine F.ok JA (λvs H Q XE h=> ?_) (λaK A0 aq s H vs Q XE hr h=>⟨_,aD,?_⟩)
 ·obtain⟨p,dx,ys,rfl,hl,_⟩:=h
  show ys.length+1=6
  rw[hl]
 ·obtain⟨p,dx,ys,rfl,hl,hp,k⟩:=h
  obtain⟨n,ma,u,c,pl,rfl⟩:=aaj hl
  refine cv (nm 0) (nm 1) λH1 S1=>⟨C,dx, [],S1 _ _ hp,T,nf _ (by decide),(by decide),?_⟩
  refine cv (nm 0) (nm 2) λH2 S2=>⟨C,dx,_,S2 _ _ ak,T,nf _ (by decide),(by show 1<1000;decide),?_⟩
  refine cv (nm 0) (nm 3) λH3 S3=>⟨C,dx,_,S3 _ _ ak,T,nf _ (by decide),(by show 2<1000;decide),?_⟩
  refine cv (nm 0) int λH4 S4=>⟨C,dx,_,S4 _ _ ak,T,nf _ (by decide),(by show 3<1000;decide),?_⟩
  refine cv (nm 0) (nm 4) λH5 S5=>⟨C,dx,_,S5 _ _ ak,T,nf _ (by decide),(by show 4<1000;decide),?_⟩
  refine cv (nm 0) (nm 5) λH6 S6=>⟨C,dx,_,S6 _ _ ak,T,nf _ (by decide),(by show 5<1000;decide),?_⟩
  refine cv (nm 0) non λH7 S7=>⟨C,dx,_,S7 _ _ ak,T,nf _ (by decide),(by show 6<1000;decide),?_⟩
  have st:∀b o',H b=some o'->b≠p->upd H7 p (.ins C dx (cY "back" .non (cY "place" pl (cY "came" c (cY "harm" (.int 0) (cY "limit" u (cY "material" ma (cY "name" n [])))))))) b=some o':=λb o' h hb=>by
   rw[aj hb]
   refine S7 _ _ ?_
   rw[aj hb]
   refine S6 _ _ ?_
   rw[aj hb]
   refine S5 _ _ ?_
   rw[aj hb]
   refine S4 _ _ ?_
   rw[aj hb]
   refine S3 _ _ ?_
   rw[aj hb]
   refine S2 _ _ ?_
   rw[aj hb]
   exact S1 _ _ h
  refine jH (gT _ (au.refl _) _ λsl H8 S8 JB NZ=>⟨p,nm 0,λH9 S9=>⟨C,dx,_,S9 _ _ (S8 _ _ ak),T,nf _ (by decide),(by show 7<1000;decide),?_⟩⟩)
  have K1:sl≠p:=λz=>by
   rw[z,ak] at JB
   cases JB
  refine jH ((cx int) _ (au.refl _) _ λll Vg Jj CB XX=>⟨p,nm 0,λQt Jk=>⟨C,dx,_,Jk _ _ (Jj _ _ ak),T,nf _ (by decide),(by show 8<1000;decide),?_⟩⟩)
  have Ae:ll≠p:=λz=>by
   rw[z,ak] at CB
   cases CB
  have s9:∀b o',H9 b=some o'->b≠p->Qt b=some o':=λb o' h hb=>Jk _ _ (Jj _ _ (by rw[aj hb];exact h))
  have Ep:sl≠ll:=λz=>by
   rw[<-z,aj K1,S9 _ _ NZ] at CB
   cases CB
  refine dB (k _ (λn' k' u' c' p' e=> ?_) λb o' h hb=> ?_)
  ·cases e
   refine⟨dx,sl,ll,ak,by rw[aj K1];exact s9 _ _ (S9 _ _ NZ) K1,by rw[aj Ae];exact Jk _ _ XX,?_,?_,K1,Ae,Ep⟩
   ·cases z:H sl with
    |none=>rfl
    |some o'=>
     rw[st sl o' z K1] at JB
     cases JB
   ·cases z:H ll with
    |none=>rfl
    |some o'=>
     rw[aj Ae,S9 _ _ (S8 _ _ (st ll o' z Ae))] at CB
     cases CB
  ·rw[aj hb]
   exact s9 _ _ (S9 _ _ (S8 _ _ (st b o' h hb))) hb
abbrev gU(A:aQ)(x:Addr×Addr×Addr×Addr):aQ:= { A with ta:=A.ta++ [x] }
abbrev jL(n:Nat):List Spot:= [.th n,.nm n,.li n,.st n]
theorem ya{A:aQ}{x:Addr×Addr×Addr×Addr}{i:Nat}{α:Type}{f:Addr×Addr×Addr×Addr->α}(h:i≠A.ta.length):(A.ta++ [x])[i]?.map f=A.ta[i]?.map f:=by rw[cD,if_neg h]
theorem lD{m:Addr}{A:aQ}{x:Addr×Addr×Addr×Addr}:∀P,P∉jL A.ta.length->(gU A x).at m P=A.at m P
 | .mu,_| .lp,_| .lt,_| .ls,_| .le,_| .pl _,_| .sh _,_| .bk _,_| .en _,_=>rfl
 | .th i,h=>ya λe=>h (by rw[e];simp)
 | .nm i,h=>ya λe=>h (by rw[e];simp)
 | .li i,h=>ya λe=>h (by rw[e];simp)
 | .st i,h=>ya λe=>h (by rw[e];simp)
theorem f7{m a n l s:Addr}{A:aQ}{P:Spot}{y:Addr}(hP:P∈jL A.ta.length)(hy:(gU A (a,n,l,s)).at m P=some y):(P=.th A.ta.length/\y=a)\/(P=.nm A.ta.length/\y=n)\/(P=.li A.ta.length/\y=l)\/(P=.st A.ta.length/\y=s):=by
 have g:(A.ta++ [(a,n,l,s)])[A.ta.length]? =some (a,n,l,s):=by rw[cD,if_pos rfl]
 simp only[jL,List.mem_cons,List.not_mem_nil,or_false] at hP
 rcases hP with rfl|rfl|rfl|rfl
 ·have hy:((A.ta++ [(a,n,l,s)])[A.ta.length]?).map (·.1)=some y:=hy
  rw[g] at hy
  exact .inl ⟨rfl,(Option.some.inj hy).symm⟩
 ·have hy:((A.ta++ [(a,n,l,s)])[A.ta.length]?).map (·.2.1)=some y:=hy
  rw[g] at hy
  exact .inr (.inl ⟨rfl,(Option.some.inj hy).symm⟩)
 ·have hy:((A.ta++ [(a,n,l,s)])[A.ta.length]?).map (·.2.2.1)=some y:=hy
  rw[g] at hy
  exact .inr (.inr (.inl ⟨rfl,(Option.some.inj hy).symm⟩))
 ·have hy:((A.ta++ [(a,n,l,s)])[A.ta.length]?).map (·.2.2.2)=some y:=hy
  rw[g] at hy
  exact .inr (.inr (.inr ⟨rfl,(Option.some.inj hy).symm⟩))
abbrev newThing(h:House)(w:List Nat)(k u p:Nat):Km383.Thing:=⟨w,k,u,h.today,0, [(h.today,p)],none⟩
theorem Gh{A:aQ}{x:Addr×Addr×Addr×Addr}{i:Nat}(h:i≠A.ta.length):dG (gU A x) i=dG A i:=by
 unfold dG
 rw[List.getD_eq_getElem?_getD,List.getD_eq_getElem?_getD,cD,if_neg h]
theorem Gi{A:aQ}{x:Addr×Addr×Addr×Addr}:dG (gU A x) A.ta.length=x:=lq (by rw[cD,if_pos rfl])
theorem uA{A:aQ}{i:Nat}{α:Type}{f:Addr×Addr×Addr×Addr->α}{y:α}(h:A.ta[i]?.map f=some y):i<A.ta.length:=by
 cases q:A.ta[i]? with
 |none=>rw[q] at h;cases h
 |some x=>exact(List.getElem?_eq_some_iff.mp q).1
theorem yb{C:Cs}{m:Addr}{b:Book}{A:aQ}{x:Addr×Addr×Addr×Addr}{w:List Nat}{k u p:Nat}(nt:A.ta.length=b.house.things.length){y:Addr}:∀P,P∉jL A.ta.length->P≠.lt->A.at m P=some y->exp C ⟨bq b.house (newThing b.house w k u p),b.log⟩ (gU A x) P=exp C b A P
 | .mu,_,_,_| .lp,_,_,_| .ls,_,_,_| .le,_,_,_| .pl _,_,_,_| .sh _,_,_,_| .bk _,_,_,_| .en _,_,_,_=>rfl
 | .lt,_,h,_=>absurd rfl h
 | .th i,h,_,hy=>by
   have n:i≠A.ta.length:=λe=>h (by rw[e];simp)
   have lt:i<b.house.things.length:=by rw[<-nt];exact uA hy
   show cK.ins _ (bz (bq b.house _) i _ _ _)=cK.ins _ (bz b.house i _ _ _)
   rw[Gh n]
   unfold bz
   rw[zM lt,eH,if_neg (by omega)]
 | .nm i,h,_,hy=>by
   have lt:i<b.house.things.length:=by rw[<-nt];exact uA hy
   show cK.lst (((bq b.house _).thing i).name.map nV)=_
   rw[eH,if_neg (by omega)]
   rfl
 | .li i,h,_,hy=>by
   have lt:i<b.house.things.length:=by rw[<-nt];exact uA hy
   show cK.lst ((aC (bq b.house _) i).map nV)=cK.lst ((aC b.house i).map nV)
   congr 2
   unfold aC
   rw[eH,if_neg (by omega)]
   apply List.map_congr_left
   intro j _
   exact FL lt
 | .st i,h,_,hy=>by
   have lt:i<b.house.things.length:=by rw[<-nt];exact uA hy
   show cK.lst ((a6 (bq b.house _) i).map nV)=cK.lst ((a6 b.house i).map nV)
   rw[jC (h:=b.house) (g:=bq b.house _) rfl (by rw[eH,if_neg (by omega)]) λd _=>qf lt]
theorem CC{H:Hp}{C:Cs}{m a n l s dx:Addr}{b:Book}{A:aQ}{w:List Nat}{k u p:Nat}(R:d8 H C m b A)(na:∀Q,A.at m Q≠some a)(nn:∀Q,A.at m Q≠some n)(nl:∀Q,A.at m Q≠some l)(ns:∀Q,A.at m Q≠some s)(d1:n≠a)(d2:l≠a)(d3:s≠a)(d4:n≠l)(d5:n≠s)(d6:s≠l)
 (ho:H a=some (.ins C.t dx (Jy (.ref n) (.int k) (.int u) (.int b.house.today) (.int p) s l)))(hn:H n=some (.lst (w.map nV)))(hl:H l=some (.lst [.int 0]))(hs:H s=some (.lst [])):
 d8 (upd H A.lt (.lst ((A.ta.map λx=>V.ref x.1)++ [.ref a]))) C m ⟨bq b.house (newThing b.house w k u p),b.log⟩ (gU A (a,n,l,s)):=by
 have tn:(bq b.house (newThing b.house w k u p)).thing A.ta.length=newThing b.house w k u p:=by rw[eH,if_pos R.nt]
 have hw:(bq b.house (newThing b.house w k u p)).here A.ta.length=p:=by
  unfold House.here House.where_
  rw[tn]
  show(Km383.asOf [(b.house.today,p)] b.house.today).getD 0=p
  rw[Mu.Ac]
  rfl
 refine⟨λP y hy=> ?_,o9 (jL A.ta.length) R.inj lD (λP hP y hy=> ?_) (λP hP Q hQ y h1 h2=> ?_),R.np,?_,R.ns,R.ne,R.so⟩
 ·by_cases q:P∈jL A.ta.length
  ·rcases f7 q hy with⟨rfl,rfl⟩|⟨rfl,rfl⟩|⟨rfl,rfl⟩|⟨rfl,rfl⟩
   ·refine⟨dx,?_⟩
    rw[aj (λz=>na .lt (by rw[z];rfl)),ho]
    congr 2
    show _=bz (bq b.house _) A.ta.length _ _ _
    rw[Gi]
    unfold bz
    rw[hw,tn]
    rfl
   ·show _=some (HO.lst (((bq b.house _).thing A.ta.length).name.map nV))
    rw[aj (λz=>nn .lt (by rw[z];rfl)),hn,tn]
   ·show _=some (HO.lst ((aC (bq b.house _) A.ta.length).map nV))
    rw[aj (λz=>nl .lt (by rw[z];rfl)),hl]
    unfold aC
    rw[tn]
    show _=some (HO.lst (((List.range (b.house.today - b.house.today+1)).map _).map nV))
    rw[Nat.sub_self]
    show _=some (HO.lst [nV ((bq b.house _).dose A.ta.length (b.house.today+0))])
    rw[dM (by rw[tn];show b.house.today+0<=b.house.today;omega)]
    rfl
   ·show _=some (HO.lst ((a6 (bq b.house _) A.ta.length).map nV))
    rw[aj (λz=>ns .lt (by rw[z];rfl)),hs]
    unfold a6
    rw[tn]
    show _=some (HO.lst (((List.range (b.house.today - b.house.today)).map _).map nV))
    rw[Nat.sub_self]
    rfl
  ·have pY:=hy
   rw[lD P q] at pY
   by_cases ql:P=.lt
   ·subst ql
    have ey:A.lt=y:=Option.some.inj pY
    subst ey
    show _=some (HO.lst ((A.ta++ [(a,n,l,s)]).map λx=>V.ref x.1))
    rw[ak,List.map_append]
    rfl
   ·rw[yb R.nt P q ql pY]
    exact cK.of (aj λz=>ql (R.inj P .lt y pY (by rw[z];rfl))) (R.ex P y pY)
 ·rcases f7 hP hy with⟨_,rfl⟩|⟨_,rfl⟩|⟨_,rfl⟩|⟨_,rfl⟩
  ·exact na
  ·exact nn
  ·exact nl
  ·exact ns
 ·rcases f7 hP h1 with⟨rfl,e1⟩|⟨rfl,e1⟩|⟨rfl,e1⟩|⟨rfl,e1⟩<;>rcases f7 hQ h2 with⟨rfl,e2⟩|⟨rfl,e2⟩|⟨rfl,e2⟩|⟨rfl,e2⟩<;>subst e1<;>
   first
    |rfl
    |exact absurd e2 d1|exact absurd e2 d2|exact absurd e2 d3|exact absurd e2 d4|exact absurd e2 d5|exact absurd e2 d6
    |exact absurd e2.symm d1|exact absurd e2.symm d2|exact absurd e2.symm d3|exact absurd e2.symm d4|exact absurd e2.symm d5|exact absurd e2.symm d6
 ·show(A.ta++ [_]).length=(b.house.things++ [_]).length
  rw[List.length_append,List.length_append,R.nt]
  rfl
def Ex(K:W.Frag):Sp:=λys H Q _=>∃(m la:Addr)(b:Book)(A:aQ)(k u p:Nat)(wd:List Nat),ys= [.ref m,.int k,.int u,.int p,.ref la]/\Rep K H m b A/\H la=some (.lst (wd.map nV))/\(∀P,A.at m P≠some la)/\cj (bq b.house (newThing b.house wd k u p))/\
 ∀H' A',Rep K H' m ⟨bq b.house (newThing b.house wd k u p),b.log⟩ A'->Fr m [la] A A' H H'->H' la=some (.lst (wd.map nV))->Q (.int ((b.house.things.length:Nat):Int)) H'
theorem yc:ao ["museum","material","limit","place","letters"] ["museum","material","limit","place","letters"] (ah (top 170)):=b5
theorem yd{f f1:Addr}{fd ug:FuncData}(F:jq K "add_thing" "add_thing" (top 170) f fd)(G:Gs mg)(hC:∀C:Cs,Tx K C.m C.p C.t C.s->mg "Thing"=some (.ref C.t)/\Mk K C.t f1/\bD P w K mg ae eT 1 f1 ug ["self","name","material","limit","came","place"] (ji C.t 5 (Ew C.t)))(bI:Binds K ug ["self","name","material","limit","came","place"] []):bD P w K mg ae eT 3 f fd ["museum","material","limit","place","letters"] (Ex K):=by
 refine F.ok yc (λvs H Q XE h=> ?_) (λaK A0 aq s H vs Q XE hr h=>⟨_,aD,?_⟩)
 ·obtain⟨m,la,b,A,k,u,p,wd,rfl,_⟩:=h
  rfl
 ·obtain⟨m,la,b,A,k,u,p,wd,rfl,R,Gj,Gk,hI,hQ⟩:=h
  refine dh (fld (nm 0) R.aX) R.lt λH1 S1=> ?_
  have Rr:=R.up S1
  obtain⟨C,T,R1⟩:=(R.up S1).ex
  obtain⟨mC,MC,FC⟩:=hC C T
  refine nQ (ys:= [.ref la,.int k,.int u,.int b.house.today,.int p]) MC FC hr mC bI (a1 (nm 4) (a1 (nm 1) (a1 (nm 2) (a1 (fld (nm 0) Rr.dg) (a1 (nm 3) a0))))) rfl λa H2 H3 S2 na S3 ⟨H4,Ab,Vv⟩=> ?_
  obtain⟨dx,sl,ll,ho,hs,hl,JB,CB,d3,d2,d6⟩:=Ab _ _ _ _ _ rfl
  have R2:=R1.up S2
  have R3:=R2.up S3
  have FN:=hI.nt
  have FN:(b.house.things++ [_]).length<=24:=FN
  rw[List.length_append] at FN
  have FN:b.house.things.length+1<=24:=FN
  have Vx:H2 la=some (.lst (wd.map nV)):=S2 _ _ (S1 _ _ Gj)
  have XY:H2 sl=none:=au.free Vv JB
  have XZ:H2 ll=none:=au.free Vv CB
  have ne:∀{x:Addr},H2 x=none->la≠x:=λh e=>by
   rw[e,h] at Vx
   cases Vx
  refine⟨_,R3.ex .lt _ rfl,?_,?_⟩
  ·rw[List.length_map,R.nt]
   exact cu (by omega)
  ·have R4:=CC (w:=wd) (k:=k) (u:=u) (p:=p) R3 (R2.tracked na) Gk (R2.tracked XZ) (R2.tracked XY) (ne na) d2 d3 (ne XZ) (ne XY) d6 ho (S3 _ _ Vx) hl hs
   have K0:Rep K _ m ⟨bq b.house (newThing b.house wd k u p),b.log⟩ (gU A (a,la,ll,sl)):=⟨⟨C,T,R4⟩,hI,R.log⟩
   refine cB (y:=.int ((b.house.things.length:Nat):Int)) (E.cast (sub (len (a1 ((fld (nm 0) K0.aX).lst (aF.of K0.lt)) a0) (G.b _ (by decide))) int) ?_) λH5 S5=> ?_
   ·rw[List.length_map]
    show Sh.v (V.int (((A.ta++ [_]).length:Nat) - 1))=_
    rw[List.length_append,R.nt]
    congr 2
    show((b.house.things.length+1:Nat):Int) - 1=_
    omega
   ·refine hQ H5 _ (K0.up S5) ⟨λy o hy n _=>S5 _ _ ?_,λP y hy=> ?_⟩ ?_
    ·rw[aj (λe=>n .lt (by rw[e];rfl))]
     exact S3 _ _ (S2 _ _ (S1 _ _ hy))
    ·by_cases q:P∈jL A.ta.length
     ·rcases f7 q hy with⟨_,rfl⟩|⟨_,rfl⟩|⟨_,rfl⟩|⟨_,rfl⟩
      ·exact .inr (.inl ((S1.trans S2).free na))
      ·exact .inr (.inr (by simp))
      ·exact .inr (.inl ((S1.trans S2).free XZ))
      ·exact .inr (.inl ((S1.trans S2).free XY))
     ·rw[lD P q] at hy
      exact .inl ⟨P,hy⟩
    ·refine S5 _ _ ?_
     rw[aj (λe=>Gk .lt (by rw[e];rfl))]
     exact S3 _ _ Vx
end
end Mu
namespace Ev
open PySem PySem.Spec PyProof.Rows L2
section
variable{X:Cx}{arg:Expr}{bd rest:List Stmt}{σ:L2.St}{H:Hp}{D:Ends}{pos pos' rp cp:PySem.Pos}
theorem Ey(i:Nat){x:Str}{n:Nat}(ha:E X arg σ H (.v (.int n)))(hn:n<=100000)(Pv:Nat->L2.St->Hp->Prop)(h0:∀H1,au H H1->Pv 0 σ H1)
 (ht:∀k aO H',k<n->Pv k aO H'->sb X bd { D with nx:=Pv (k+1),ct:=Pv (k+1),bk:=λeQ H2=>sb X rest D eQ H2 } (aO.set i (some (.int (k:Nat)))) H')(hd:∀aO H',Pv n aO H'->sb X rest D aO H')
 (hm:X.mg "range"=none)(hp:PassesOwn (model X.prog X.w) X.A X.env X.xe)(hN:X.N.Nodup)(hc:X.calm=true:=by rfl)(hg:Gl X "range":=by rfl)(hU:starEach [arg] X.env= [(false,eval arg X.env)]:=by rfl)(hi:X.N[i]? =some x:=by rfl)(hx:Loc X.env.scope x:=by exact Or.inl rfl)
 (hs:∀x,foldedSetIterable (.Call (.Name "range" rp) [arg] [] cp) X.env x=pure x:=by intro _;rfl)(hf:X.fn x=true\/X.env.scope.names.lookup x=some .local:=by first|exact .inl rfl|exact .inr rfl|assumption):
 sb X (.For (.Name x pos') (.Call (.Name "range" rp) [arg] [] cp) bd [] pos::rest) D σ H:=by
 refine cQ (aU (wU hp hc (vL hg hm (bJ az du hU) hU) (fK hN hi hx hf) aD hs) aD) (ha H (au.refl _) _ λv H1 S1 ov=> ?_)
 have ev:v=.int n:=ov
 subst ev
 refine⟨(n:Int),rfl,by omega,by omega,?_⟩
 rw[Int.toNat_natCast]
 exact Ff (lo:=0) (n:=n) (g:=gn i) (tb:=sb X bd) (D:= { D with nx:=λeQ H2=>sb X rest D eQ H2 }) Pv (h0 H1 S1) (λk aO H' hk p=>by
  rw[Int.zero_add]
  exact ht k aO H' hk p) hd
end
section
variable{X:Cx}{σ:L2.St}{H:Hp}
theorem X1{elt arg:Expr}{ifs:List Expr}{scope:Scope}{pos mG rp cp:PySem.Pos}{x:Str}(i:Nat){n:Nat}(p:Nat->Bool)(f:Nat->V)(ha:E X arg σ H (.v (.int n)))(hn:n<=100000)
 (ht:∀k,k<n->∀(s:Shared)(H0:Hp)(C:Addr)(cl:List (Str×Addr))(fp:List Addr),Ts (X.iN s H0 scope (compEnvC scope cl C X.env) fp) ifs ((wipe σ [i]).set i (some (.int (k:Nat)))) H (p k))
 (he:∀k,k<n->p k=true->∀(s:Shared)(H0:Hp)(C:Addr)(cl:List (Str×Addr))(fp:List Addr),E (X.iN s H0 scope (compEnvC scope cl C X.env) fp) elt ((wipe σ [i]).set i (some (.int (k:Nat)))) H (.v (f k)))
 (hm:X.mg "range"=none)(hN:X.N.Nodup)(hg:Gl X "range":=by rfl)(hU:starEach [arg] X.env= [(false,eval arg X.env)]:=by rfl)(hi:X.N[i]? =some x:=by rfl)(hx:∀cl C,L2.Loc (compEnvC scope cl C X.env).scope x:=by exact λ_ _=>Or.inl rfl)(ok:mK X.N X.env.scope scope [(x,i)]:=by exact kX rfl)
 (hf:∀(s:Shared)(H0:Hp)(C:Addr)(cl:List (Str×Addr))(fp:List Addr),(X.iN s H0 scope (compEnvC scope cl C X.env) fp).fn x=true\/(X.iN s H0 scope (compEnvC scope cl C X.env) fp).env.scope.names.lookup x=some .local:=by exact λ_ _ _ _ _=>Or.inr rfl)
 (hc:X.calm=true:=by rfl)(hs:∀x,foldedSetIterable (.Call (.Name "range" rp) [arg] [] cp) X.env x=pure x:=by intro _;rfl):
 E X (.ListComp elt [⟨.Name x mG,.Call (.Name "range" rp) [arg] [] cp,ifs,0⟩] scope pos) σ H (.n (((List.range n).filter p).map f)):=λH1 S1 Q hQ=>by
 have kJ:=sizeLine_eq
 refine aY (D0 (own:= [(x,i)]) (tt:=KY (List.range n) (λ(k:Nat)=>V.int k) σ i p H) (te:=KZ (List.range n) (λ(k:Nat)=>V.int k) σ i p f H) hc hN (vL hg hm (bJ az du hU) hU) ok (λs H0 C cl fp=>fK (i:=i) hN hi (hx cl C) (hf s H0 C cl fp))
  (λs H0 C cl fp ag s1 τ H' Q' I ⟨y,hy,qk,SH,hq⟩=> ?_) (λs H0 C cl fp ag s1 τ H' Q' I ⟨y,hy,py,qk,SH,hq⟩=> ?_) hs) ?_
 ·subst qk
  exact ht y (List.mem_range.mp hy) s H0 C cl fp H' SH _ (λH2 S2=>hq H2 S2) ag s1 I
 ·subst qk
  exact he y (List.mem_range.mp hy) py s H0 C cl fp H' SH _ (λv H2 S2 ov=>by
   have ev:v=f y:=ov
   subst ev
   exact hq H2 S2) ag s1 I
 ·refine ha H1 S1 _ λv H2 S2 ov=> ?_
  have ev:v=.int n:=ov
  subst ev
  refine⟨(n:Int),rfl,by omega,by omega,λD hD=> ?_⟩
  rw[Int.toNat_natCast]
  refine HS (lo:=0) (n:=n) (g:=gn i) (tt:=KY (List.range n) (λ(k:Nat)=>V.int k) σ i p H) (te:=KZ (List.range n) (λ(k:Nat)=>V.int k) σ i p f H) (vs:= [i]) (σ:=σ) (Qd:=λH'=>Q (.ref D) H') (λk H'=>au H2 H'/\H' D=some (.lst (((List.range k).filter p).map f))) ⟨au.upd hD,ak⟩ (λk H' hk ⟨S3,hd⟩=> ?_) (λH' ⟨S3,hd⟩=> ?_)
  ·rw[Int.zero_add]
   refine⟨?_,k,List.mem_range.mpr hk,rfl,(S1.trans S2).trans S3,λH4 S4=> ?_⟩
   ·show wipe ((wipe σ [i]).set i (some (V.int (k:Nat)))) [i]=wipe σ [i]
    simp[wipe]
   ·by_cases py:p k=true
    ·dsimp only
     rw[if_pos py]
     refine⟨k,List.mem_range.mpr hk,py,rfl,((S1.trans S2).trans S3).trans S4,λH5 S5=>⟨_,S5 _ _ (S4 _ _ hd),?_,λb o e=> ?_,?_⟩⟩
     ·rw[List.length_map]
      refine Nat.lt_of_le_of_lt (List.length_filter_le _ _) ?_
      rw[List.length_range]
      omega
     ·rw[aj (aE e hD)]
      exact S5 _ _ (S4 _ _ (S3 _ _ e))
     ·rw[ak,List.range_succ,cR,if_pos py,List.map_append]
      rfl
    ·dsimp only
     rw[if_neg py]
     refine⟨S3.trans S4,?_⟩
     rw[List.range_succ,cR,if_neg py]
     exact S4 _ _ hd
  ·exact hQ _ _ (S2.trans S3) ⟨D,rfl,hd⟩
end
end Ev
namespace Mu
open PySem PySem.Spec PyProof.Rows L2 Ev
open Km383 (House Book)
theorem CD{h:House}(I:cj h){t:Nat}(ht:t<h.things.length):a6 (cM h 1) t=a6 h t++ [h.here t]:=by
 have c:=ic I ht
 unfold a6
 show(List.range (h.today+1 - (h.thing t).came)).map _=_
 rw[show h.today+1 - (h.thing t).came=(h.today - (h.thing t).came)+1 by omega,List.range_succ,List.map_append]
 congr 1
 show [(h.where_ t ((h.thing t).came+(h.today - (h.thing t).came))).getD 0]=_
 rw[show(h.thing t).came+(h.today - (h.thing t).came)=h.today by omega]
 rfl
theorem Am{h:House}(I:cj h){t:Nat}(ht:t<h.things.length):aC (cM h 1) t=aC h t++ [h.dose t h.today+h.lightOn (h.here t) h.today]:=by
 have c:=ic I ht
 unfold aC
 show(List.range (h.today+1 - (h.thing t).came+1)).map _=_
 rw[show h.today+1 - (h.thing t).came+1=(h.today - (h.thing t).came+1)+1 by omega,List.range_succ,List.map_append]
 congr 1
 show [h.dose t ((h.thing t).came+(h.today - (h.thing t).came+1))]=_
 rw[show(h.thing t).came+(h.today - (h.thing t).came+1)=h.today+1 by omega,wa I ht 1,Nat.one_mul]
theorem An{h:House}(I:cj h){t:Nat}(ht:t<h.things.length):qP ((aC h t).map nV) (-1)=some (.int ((h.dose t h.today:Nat):Int)):=by
 have c:=ic I ht
 unfold qP KQ
 have hl:((aC h t).map nV).length=h.today - (h.thing t).came+1:=by
  unfold aC
  rw[List.length_map,List.length_map,List.length_range]
 rw[hl,if_neg (by omega),if_pos (by omega)]
 show((aC h t).map nV)[((-1:Int)+((h.today - (h.thing t).came+1:Nat):Int)).toNat]? =_
 rw[show((-1:Int)+((h.today - (h.thing t).came+1:Nat):Int)).toNat=h.today - (h.thing t).came by omega]
 unfold aC
 rw[List.getElem?_map,List.getElem?_map,List.getElem?_range (by omega)]
 show some (nV (h.dose t ((h.thing t).came+(h.today - (h.thing t).came))))=_
 rw[show(h.thing t).came+(h.today - (h.thing t).came)=h.today by omega]
 rfl
def uB(C:Cs)(b:Book)(A:aQ)(j k:Nat):Spot->cK
 | .st i=>if i<j then .lst ((a6 (cM b.house 1) i).map nV) else exp C b A (.st i)
 | .li i=>if i<k then .lst ((aC (cM b.house 1) i).map nV) else exp C b A (.li i)
 | .mu=>exp C b A .mu
 | .lp=>exp C b A .lp
 | .lt=>exp C b A .lt
 | .ls=>exp C b A .ls
 | .le=>exp C b A .le
 | .pl i=>exp C b A (.pl i)
 | .th i=>exp C b A (.th i)
 | .nm i=>exp C b A (.nm i)
 | .sh i=>exp C b A (.sh i)
 | .bk i=>exp C b A (.bk i)
 | .en i=>exp C b A (.en i)
def uC(H:Hp)(C:Cs)(m:Addr)(b:Book)(A:aQ)(j k:Nat):Prop:=∀P a,A.at m P=some a->(uB C b A j k P).holds H a
theorem uC.up{H H':Hp}{C:Cs}{m:Addr}{b:Book}{A:aQ}{j k:Nat}(S:au H H')(h:uC H C m b A j k):uC H' C m b A j k:=λP a ha=>cK.up S (h P a ha)
theorem Gm{C:Cs}{b:Book}{A:aQ}:∀P,uB C b A 0 0 P=exp C b A P
 | .st i=>by simp[uB]
 | .li i=>by simp[uB]
 | .mu| .lp| .lt| .ls| .le| .pl _| .th _| .nm _| .sh _| .bk _| .en _=>rfl
theorem Mq{C:Cs}{b:Book}{A:aQ}{j k:Nat}:∀P,P≠.st j->uB C b A (j+1) k P=uB C b A j k P
 | .st i,h=>by
   have n:i≠j:=λe=>h (by rw[e])
   show(if i<j+1 then _ else _)=if i<j then _ else _
   by_cases q:i<j
   ·rw[if_pos q,if_pos (by omega)]
   ·rw[if_neg q,if_neg (by omega)]
 | .li i,_=>rfl
 | .mu,_| .lp,_| .lt,_| .ls,_| .le,_| .pl _,_| .th _,_| .nm _,_| .sh _,_| .bk _,_| .en _,_=>rfl
theorem Mr{C:Cs}{b:Book}{A:aQ}{j k:Nat}:∀P,P≠.li k->uB C b A j (k+1) P=uB C b A j k P
 | .li i,h=>by
   have n:i≠k:=λe=>h (by rw[e])
   show(if i<k+1 then _ else _)=if i<k then _ else _
   by_cases q:i<k
   ·rw[if_pos q,if_pos (by omega)]
   ·rw[if_neg q,if_neg (by omega)]
 | .st i,_=>rfl
 | .mu,_| .lp,_| .lt,_| .ls,_| .le,_| .pl _,_| .th _,_| .nm _,_| .sh _,_| .bk _,_| .en _,_=>rfl
theorem uC.st{H:Hp}{C:Cs}{m a:Addr}{b:Book}{A:aQ}{j k:Nat}(h:uC H C m b A j k)(inj:∀(P Q:Spot)(a:Addr),A.at m P=some a->A.at m Q=some a->P=Q)(ha:A.at m (.st j)=some a):uC (upd H a (.lst ((a6 (cM b.house 1) j).map nV))) C m b A (j+1) k:=λP y hy=>by
 by_cases q:P=.st j
 ·subst q
  have e:y=a:=Option.some.inj (hy.symm.trans ha)
  subst e
  show cK.holds _ _ (if j<j+1 then _ else _)
  rw[if_pos (by omega)]
  exact ak
 ·rw[Mq P q]
  exact cK.of (aj λe=>q (inj P (.st j) y hy (by rw[e];exact ha))) (h P y hy)
theorem uC.li{H:Hp}{C:Cs}{m a:Addr}{b:Book}{A:aQ}{j k:Nat}(h:uC H C m b A j k)(inj:∀(P Q:Spot)(a:Addr),A.at m P=some a->A.at m Q=some a->P=Q)(ha:A.at m (.li k)=some a):uC (upd H a (.lst ((aC (cM b.house 1) k).map nV))) C m b A j (k+1):=λP y hy=>by
 by_cases q:P=.li k
 ·subst q
  have e:y=a:=Option.some.inj (hy.symm.trans ha)
  subst e
  show cK.holds _ _ (if k<k+1 then _ else _)
  rw[if_pos (by omega)]
  exact ak
 ·rw[Mr P q]
  exact cK.of (aj λe=>q (inj P (.li k) y hy (by rw[e];exact ha))) (h P y hy)
section
variable{P:Program}{w:World}{K:W.Frag}{mg:Str->Option Value}{ae:Heap}
def uD(m:Addr)(b:Book)(A:aQ)(ys:List V)(b':Book)(r:V):Prop:=ys= [.ref m]/\b.house.today+1<=2000/\b'=⟨cM b.house 1,b.log⟩/\r=.non
theorem uE:ao ["museum","kept"] ["museum"] (ah (top 174)):=b5
theorem CF(D:Dn K mg "end_day" 174):uq P w K mg ae "end_day" 1 uD:=by
 refine uq.ofD D Bh uE ?_
 rintro f aK A0 aq s H XE ys Q m b A b' r hr R ⟨rfl,hd,rfl,rfl⟩ hQ
 obtain⟨C,T,RC⟩:=R.ex
 have I:=R.inv
 have kJ:=sizeLine_eq
 refine Et 1 (l:=A.lt) (xs:=A.ta.map λx=>V.ref x.1) (fld (nm 0) R.aX)
  (λk aO H'=>∃y:Option V,aO= [some (.ref m),y]/\uC H' C m b A k k/\Fr m [] A A H H')
  (λH2 S2=>⟨none,rfl,λP a ha=>by rw[Gm];exact cK.up S2 (RC.ex P a ha),Fr.same S2⟩) (λk aO H' _ ⟨y,_,W,_⟩=>aF.of (show H' A.lt=some (.lst (A.ta.map λx=>V.ref x.1)) from W .lt _ rfl)) (λk y aO H' hy ⟨z,oj,W,fr⟩=> ?_) (λaO H' ⟨y,oj,W,fr⟩=> ?_) PassesOwn.never uE.nd
 ·subst oj
  obtain⟨x,hx,rfl⟩:=R.Qp hy
  have ht:k<b.house.things.length:=by rw[<-R.nt];exact(List.getElem?_eq_some_iff.mp hx).1
  have aT:A.at m (.th k)=some x.1:=by show(A.ta[k]?).map (·.1)=_;rw[hx];rfl
  have aS:A.at m (.st k)=some x.2.2.2:=by show(A.ta[k]?).map (·.2.2.2)=_;rw[hx];rfl
  have aL:A.at m (.li k)=some x.2.2.1:=by show(A.ta[k]?).map (·.2.2.1)=_;rw[hx];rfl
  have fT:∀{G:Hp}{j i:Nat}{f:Str}{v:V},uC G C m b A j i->f∈(["name","material","limit","harm","came","place","back","stays","lights"]:List Str)->(bz b.house k x.2.1 x.2.2.1 x.2.2.2).lookup f=some v->Fd K G x.1 f v:=λ{G j i f v} W hf hv=>by
   obtain⟨dx,ho⟩:=W (.th k) x.1 aT
   rw[lq hx] at ho
   exact⟨C.t,dx,_,ho,T.t,T.tf _ hf,hv⟩
  have c:=ic I ht
  have Vq:H' x.2.2.2=some (.lst ((a6 b.house k).map nV)):=by
   have h:=W (.st k) x.2.2.2 aS
   have e:uB C b A k k (.st k)=exp C b A (.st k):=if_neg (Nat.lt_irrefl k)
   rw[e] at h
   exact h
  refine dh (fld (nm 1) (fT W (by decide) rfl)) Vq λH1 S1=> ?_
  refine(fld (nm 1) (fT W (f:="place") (v:=.int (b.house.here k)) (by decide) rfl)) H1 S1 _ λv H2 S2 ov=> ?_
  have ev:v=.int (b.house.here k):=ov
  subst ev
  refine⟨_,S2 _ _ (S1 _ _ Vq),?_,?_⟩
  ·rw[List.length_map]
   unfold a6
   rw[List.length_map,List.length_range]
   omega
  ·have e1:(a6 b.house k).map nV++ [V.int (b.house.here k)]=(a6 (cM b.house 1) k).map nV:=by
    rw[CD I ht,List.map_append]
    rfl
   rw[e1]
   have W1:=(W.up (S1.trans S2)).st RC.inj aS
   have X2:upd H2 x.2.2.2 (.lst ((a6 (cM b.house 1) k).map nV)) x.2.2.1=some (.lst ((aC b.house k).map nV)):=by
    have h:=W1 (.li k) x.2.2.1 aL
    have e:uB C b A (k+1) k (.li k)=exp C b A (.li k):=if_neg (Nat.lt_irrefl k)
    rw[e] at h
    exact h
   have hp:=ie I ht
   obtain⟨pa,Zf⟩:=R.xJ hp
   refine dh (fld (nm 1) (fT W1 (by decide) rfl)) X2 λH3 S3=> ?_
   have fM:Fd K (upd H2 x.2.2.2 (.lst ((a6 (cM b.house 1) k).map nV))) m "places" (.ref A.lp):=by
    obtain⟨dm,hm⟩:=W1 .mu m rfl
    exact⟨C.m,dm,_,hm,T.m,T.mf _ (by decide),rfl⟩
   have lP:upd H2 x.2.2.2 (.lst ((a6 (cM b.house 1) k).map nV)) A.lp=some (.lst (A.pa.map .ref)):=W1 .lp _ rfl
   have fP:Fd K (upd H2 x.2.2.2 (.lst ((a6 (cM b.house 1) k).map nV))) pa "light" (.int (b.house.lightOn (b.house.here k) b.house.today)):=by
    obtain⟨dp,hp⟩:=W1 (.pl (b.house.here k)) pa Zf
    exact⟨C.p,dp,_,hp,T.p,T.pf _ (by decide),rfl⟩
   refine(add (ix ((fld (nm 1) (fT W1 (f:="lights") (v:=.ref x.2.2.1) (by decide) rfl)).lst (aF.of X2)) (neg int) (An I ht)) (fld (ix ((fld (nm 0) fM).lst (aF.of lP)) (fld (nm 1) (fT W1 (f:="place") (v:=.int (b.house.here k)) (by decide) rfl)) (IV Zf)) fP)) H3 S3 _ λv H4 S4 ov=> ?_
   have ev:v=.int ((b.house.dose k b.house.today:Nat)+(b.house.lightOn (b.house.here k) b.house.today:Nat)):=ov
   subst ev
   refine⟨_,S4 _ _ (S3 _ _ X2),?_,?_⟩
   ·rw[List.length_map]
    unfold aC
    rw[List.length_map,List.length_range]
    omega
   ·have e2:(aC b.house k).map nV++ [V.int ((b.house.dose k b.house.today:Nat)+(b.house.lightOn (b.house.here k) b.house.today:Nat))]=(aC (cM b.house 1) k).map nV:=by
     rw[Am I ht,List.map_append]
     rfl
    rw[e2]
    refine dB ⟨some (.ref x.1),rfl,(W1.up (S3.trans S4)).li RC.inj aL,?_⟩
    exact(fr.trans (Fr.upd (G:= []) (S1.trans S2) aS) R.kM).trans (Fr.upd (G:= []) (S3.trans S4) aL) R.kM
 ·subst oj
  rw[List.length_map,R.nt] at W
  obtain⟨dm,hm⟩:=W .mu m rfl
  have fM:Fd K H' m "today" (.int b.house.today):=⟨C.m,dm,_,hm,T.m,T.mf _ (by decide),rfl⟩
  refine cv (nm 0) (add (fld (nm 0) fM) int) λH2 S2=>⟨C.m,dm,_,S2 _ _ hm,T.m,T.mf _ (by decide),(by show 5<1000;decide),?_⟩
  have W2:=W.up S2
  have R3:d8 (upd H2 m (.ins C.m dm (cY "today" (.int ((b.house.today:Nat)+1)) (sU b.house A.lp A.lt A.ls A.le)))) C m ⟨cM b.house 1,b.log⟩ A:=by
   refine⟨λP a ha=> ?_,RC.inj,RC.np,RC.nt,RC.ns,RC.ne,RC.so⟩
   by_cases q:P=.mu
   ·subst q
    have e:m=a:=Option.some.inj ha
    subst e
    refine⟨dm,?_⟩
    rw[ak]
    rfl
   ·have old:=cK.of (aj (H:=H2) (a:=m) (o:=.ins C.m dm (cY "today" (.int ((b.house.today:Nat)+1)) (sU b.house A.lp A.lt A.ls A.le))) λe=>q (RC.inj P .mu a ha (by rw[e];rfl))) (W2 P a ha)
    have ee:exp C ⟨cM b.house 1,b.log⟩ A P=uB C b A b.house.things.length b.house.things.length P:=by
     cases P with
     |mu=>exact absurd rfl q
     |pl i=>
      have hi:i<b.house.places.length:=by
       rw[<-R.np]
       exact(List.getElem?_eq_some_iff.mp (show A.pa[i]? =some a from ha)).1
      show cK.ins _ (dW (cM b.house 1) i)=cK.ins _ (dW b.house i)
      unfold dW
      rw[zL I hi]
      rfl
     |th i=>
      have hi:i<b.house.things.length:=by
       rw[<-R.nt]
       exact uA (show(A.ta[i]?).map (·.1)=some a from ha)
      show cK.ins _ (bz (cM b.house 1) i _ _ _)=cK.ins _ (bz b.house i _ _ _)
      unfold bz
      rw[zK I hi]
      rfl
     |li i=>
      have hi:i<b.house.things.length:=by
       rw[<-R.nt]
       exact uA (show(A.ta[i]?).map (·.2.2.1)=some a from ha)
      exact(if_pos hi).symm
     |st i=>
      have hi:i<b.house.things.length:=by
       rw[<-R.nt]
       exact uA (show(A.ta[i]?).map (·.2.2.2)=some a from ha)
      exact(if_pos hi).symm
     |_=>rfl
    rw[ee]
    exact old
  refine dB (hQ _ ⟨⟨C,T,R3⟩,D8 I hd,R.log⟩ (fr.trans (Fr.upd (G:= []) (P:=.mu) S2 rfl) R.kM))
def pI(m:Addr)(b:Book)(A:aQ)(ys:List V)(b':Book)(r:V):Prop:=∃n:Nat,ys= [.ref m,.int n]/\b.house.today+n<=2000/\b'=⟨cM b.house n,b.log⟩/\r=.int ((b.house.today+n:Nat):Int)
theorem pJ:ao ["museum","n","day"] ["museum","n"] (ah (top 175)):=b5
theorem ye(D:Dn K mg "pass_days" 175)(G:Gs mg)(mn:uq P w K mg ae "end_day" 1 uD):iR P w K mg ae "pass_days" 2 pI qy:=by
 refine iR.ofD D mH pJ ?_
 rintro f aK A0 aq s H XE ys Q m b A b' r hr R ⟨n,rfl,hn,rfl,rfl⟩ _ hQ
 refine Ey 2 (n:=n) (nm 1) (by omega) (λk aO H'=>∃y:Option V,aO= [some (.ref m),some (.int n),y]/\Rep K H' m ⟨cM b.house k,b.log⟩ A/\Fr m [] A A H H')
  (λH2 S2=>⟨none,rfl,R.up S2,Fr.same S2⟩) (λk aO H' hk ⟨y,oj,R',fr⟩=> ?_) (λaO H' ⟨y,oj,R',fr⟩=> ?_) (G.b _ (by decide)) PassesOwn.never pJ.nd
 ·subst oj
  refine Ev.nT (mn.call (ys:= [.ref m]) hr (by decide) (a1 (nm 0) a0) R' ⟨rfl,by show b.house.today+k+1<=2000;omega,rfl,rfl⟩ λH2 R2 X3=>dB ⟨some (.int k),rfl,R2,fr.trans X3 R.kM⟩)
 ·subst oj
  exact cB (fld (nm 0) R'.dg) λH3 S3=>hQ H3 A (R'.up S3) (fr.trans (Fr.same S3) R.kM)
end
end Mu
namespace Ev
open PySem PySem.Spec PyProof.Rows L2
section
variable{X:Cx}{c e:Expr}{bd rest:List Stmt}{σ:L2.St}{H:Hp}{D:Ends}{sh:Sh}{pos:PySem.Pos}{i j:Int}
theorem jM(h:T X c σ H (decide (i=j)))(n:i≠j)(h':S X rest σ H sh):S X (.If c bd [] pos::rest) σ H sh:=zU h (λq=>absurd (of_decide_eq_true q) n) (λ_=>h')
theorem gq(h:T X c σ H (decide (i=i)))(h':S X bd σ H sh):S X (.If c bd [] pos::rest) σ H sh:=zU h (λ_=>h') (λq=>absurd rfl (of_decide_eq_false q))
theorem lE(h:T X c σ H (decide (i=j)))(n:i≠j)(h':∀H2,au H H2->sb X rest D σ H2):sb X (.If c bd [] pos::rest) D σ H:=ph h (λq=>absurd (of_decide_eq_true q) n) (λ_=>h')
theorem Ez(h:T X c σ H (decide (i=i)))(h':∀H2,au H H2->sb X bd { D with nx:=λaO H'=>sb X rest D aO H' } σ H2):sb X (.If c bd [] pos::rest) D σ H:=ph h (λ_=>h') (λq=>absurd rfl (of_decide_eq_false q))
theorem kz{H0:Hp}(SS:au H0 H)(h:T X c σ H (decide (i=j)))(n:i≠j)(h':∀H2,au H0 H2->sb X rest D σ H2):sb X (.If c bd [] pos::rest) D σ H:=lE h n λH2 S=>h' H2 (SS.trans S)
theorem gj{H0:Hp}(SS:au H0 H)(h:T X c σ H (decide (i=i)))(h':∀H2,au H0 H2->sb X bd { D with nx:=λaO H'=>sb X rest D aO H' } σ H2):sb X (.If c bd [] pos::rest) D σ H:=Ez h λH2 S=>h' H2 (SS.trans S)
theorem bA(h:se X e σ H λy H1=>D.rt y H1):sb X (.Return (some e) pos::rest) D σ H:=cQ (aU (wR az) (lT (sts:=rest))) h
theorem yg{a b:Expr}{xs ys:List V}(hz:xs.length+ys.length<=sizeLine)(ha:E X a σ H (.n xs))(hb:E X b σ H (.n ys)):Nl X (.BinOp a .Add b pos) σ H (xs++ys):=λH1 S1 Q hQ=>
 aY (ot HK az az) (ha H1 S1 _ λx H2 S2 ⟨p,ep,hp⟩=>hb H2 (S1.trans S2) _ λy H3 S3 ⟨q,eq,hq⟩=>⟨p,q,xs,ys,ep,eq,S3 _ _ hp,hq,hz,λr hr=>hQ r _ ((S2.trans S3).trans (au.upd hr)) ((S2.trans S3).free hr) ak⟩)
end
end Ev
namespace Mu
open PySem PySem.Spec PyProof.Rows L2 Ev
open Km383 (House Book Deed)
inductive Dd:Nat->List Nat->List Nat->Deed->Prop
 |place (u k r l:Nat):Dd 1 [u,k,r,l] [] (.place u k r l)
 |light (p l:Nat):Dd 2 [p,l] [] (.light p l)
 |thing (n k u p:Nat) (w:List Nat):Dd 3 [n,k,u,p] w (.thing w k u p)
 |move (t p:Nat):Dd 4 [t,p] [] (.move t p)
 |day (n:Nat):Dd 5 [n] [] (.day n)
 |harm (t l:Nat):Dd 6 [t,l] [] (.harm t l)
 |lend (t p d:Nat):Dd 7 [t,p,d] [] (.lend t p d)
 |home (t p:Nat):Dd 8 [t,p] [] (.home t p)
 |show_ (p a o:Nat):Dd 9 [p,a,o] [] (.show_ p a o)
 |book (e t:Nat):Dd 10 [e,t] [] (.book e t)
 |unbook (e t:Nat):Dd 11 [e,t] [] (.unbook e t)
 |hang (e:Nat):Dd 12 [e] [] (.hang e)
 |down (e p:Nat):Dd 13 [e,p] [] (.down e p)
 |cancel (e:Nat):Dd 14 [e] [] (.cancel e)
def tooMany(nums:List Nat):Deed->Bool
 | .thing _ _ _ _=>decide (8<nums.headD 0)
 |_=>false
def refOf(h:House)(nums:List Nat)(d:Deed):Int:=if tooMany nums d=true then -22 else(h.do_ d).2
theorem Ao(h:House)(n k u p:Nat)(ws:List Nat):refOf h [n,k,u,p] (.thing ws k u p)=if 8<n then -22 else(h.do_ (.thing ws k u p)).2:=by
 show(if decide (8<n)=true then _ else _)=_
 by_cases q:8<n
 ·rw[if_pos (decide_eq_true q),if_pos q]
 ·rw[if_neg (λz=>q (of_decide_eq_true z)),if_neg q]
theorem b7{C:Prop} [Decidable C]{x:House}{v:Int}{r z:House×Int}(e:z=if C then(x,v) else r)(h:0<=z.2)(hv:v<0):¬C/\z=r:=by
 by_cases q:C
 ·rw[if_pos q] at e
  rw[e] at h
  exact absurd h (by show ¬ 0<=v;omega)
 ·rw[if_neg q] at e
  exact⟨q,e⟩
section
variable{P:Program}{w:World}{K:W.Frag}{mg:Str->Option Value}{ae:Heap}
theorem iR.call{X:Cx}{x:Str}{k j:Nat}{ψ:Addr->Book->aQ->List V->Book->V->Prop}(C:iR X.prog X.w X.K X.mg X.ae x k ψ qy)(hr:dC j X.A)(hj:k<=j){e:Expr}{es:List Expr}{p pos:PySem.Pos}{σ:L2.St}{H:Hp}{ys:List V}{Q:VK}{m:Addr}{b b':Book}{A:aQ}{r:V}(ha:Ev.A X (e::es) σ H (vs ys))(R:Rep X.K H m b A)(Jd:ψ m b A ys b' r)(hQ:∀H' A',Rep X.K H' m b' A'->Fr m [] A A' H H'->Q r H')
 (hg:Gl X x:=by rfl)(tK:(x==("__debug__":Str))=false:=by decide)(he:starEach (e::es) X.env=(false,eval e X.env)::starEach es X.env:=by rfl)(hpl:(backTo pos (starEach es X.env)).any (·.1)=false:=by rfl):se X (.Call (.Name x p) (e::es) [] pos) σ H Q:=by
 obtain⟨f,fd,ps,F,hm,hk,hb⟩:=C.ex
 exact cS F (hr.mono hj) hm hk hb ha (λH1 S1=>⟨m,b,A,b',r,R.up S1,Jd,(λg hg=>nomatch hg),λH' A' R' fr=>hQ H' A' R' ((Fr.same S1).trans fr R.kM)⟩) hg tK he hpl
theorem Fr.more{m:Addr}{G:List Addr}{A A':aQ}{H H':Hp}(a:Fr m [] A A' H H'):Fr m G A A' H H':=⟨λy o h n _=>a.keep y o h n (λz=>nomatch z),λP y h=>(a.new P y h).elim .inl λq=>q.elim (λq=>.inr (.inl q)) (λq=>nomatch q)⟩
theorem EA{H:Hp}{xs zs ys:List V}{a c:V}(h:dv K H [.v a,.v c,.l xs,.l zs] ys):∃p q,ys= [a,c,.ref p,.ref q]/\aF K H p xs/\aF K H q zs:=by
 cases h with
 |cons r1 h=>cases h with
  |cons r2 h=>cases h with
   |cons r3 h=>cases h with
    |cons r4 h=>
     cases h
     obtain⟨p,ep,hp⟩:=r3
     obtain⟨q,eq,hq⟩:=r4
     have e1:_=a:=r1
     have e2:_=c:=r2
     subst e1 e2 ep eq
     exact⟨p,q,rfl,hp,hq⟩
def ni(m:Addr)(b:Book)(A:aQ)(l:List Sh)(z:Sh):Prop:=∃(c:Nat)(nums ws:List Nat)(d:Deed),l= [.v (.ref m),.v (.int c),.l (nums.map nV),.l (ws.map nV)]/\Dd c nums ws d/\ws.length<=8/\HH b.house/\z=.v (.int (gB (refOf b.house nums d)))
theorem vt:ao ["museum","call","numbers","letters"] ["museum","call","numbers","letters"] (ah (top 201)):=b5
theorem vv(D:Dn K mg "refusal_of" 201)(G:Gs mg)(ek:Cal P w K mg ae "place_refusal" 2 (Rq K jf))(et:Cal P w K mg ae "light_refusal" 2 (Rq K jg))(eA:Cal P w K mg ae "thing_refusal" 3 (Rq K jj))(eW:Cal P w K mg ae "move_refusal" 4 (Rq K ke))(fQ:Cal P w K mg ae "day_refusal" 1 (Rq K lz))(eX:Cal P w K mg ae "harm_refusal" 2 (Rq K kf))(eY:Cal P w K mg ae "lend_refusal" 4 (Rq K kh))(eZ:Cal P w K mg ae "home_refusal" 3 (Rq K kg))(e8:Cal P w K mg ae "show_refusal" 3 (Rq K kj))(e9:Cal P w K mg ae "book_refusal" 3 (Rq K km))(dR:Cal P w K mg ae "unbook_refusal" 2 (Rq K iy))(fb:Cal P w K mg ae "hang_refusal" 4 (Rq K ko))(fc:Cal P w K mg ae "down_refusal" 3 (Rq K kv))(dS:Cal P w K mg ae "cancel_refusal" 2 (Rq K iB)):Cal P w K mg ae "refusal_of" 5 (Rq K ni):=by
 refine Cal.ofD D RQ vt Rq.up ?_
 rintro f aK A0 aq s H XE l z ys hr os ⟨m,b,A,R,c,nums,ws,d,rfl,hD,hw,hh,rfl⟩
 obtain⟨p1,p2,rfl,hq,Vy⟩:=EA os
 cases hD with
 |place u k r l=>
  exact gq (ai cg (nm 1) (G.k (i:=1))) (aw (call (ek.at hr) (a1 (nm 0) (a1 (ix ((nm 2).lst hq) int rfl) (a1 (ix ((nm 2).lst hq) int rfl) (a1 (ix ((nm 2).lst hq) int rfl) (a1 (ix ((nm 2).lst hq) int rfl) a0))))) ⟨m,b,A,R,u,k,r,l,rfl,rfl⟩))
 |light p l=>
  refine jM (ai cg (nm 1) G.k) (by decide) ?_
  exact gq (ai cg (nm 1) (G.k (i:=2))) (aw (call (et.at hr) (a1 (nm 0) (a1 (ix ((nm 2).lst hq) int rfl) (a1 (ix ((nm 2).lst hq) int rfl) a0))) ⟨m,b,A,R,p,l,rfl,rfl⟩))
 |thing n k u p _=>
  iterate 2 refine jM (ai cg (nm 1) G.k) (by decide) ?_
  refine Ev.S.cast (gq (ai cg (nm 1) (G.k (i:=3))) (aw (call (eA.at hr) (a1 (nm 0) (a1 (ix ((nm 2).lst hq) int rfl) (a1 (ix ((nm 2).lst hq) int rfl) (a1 (ix ((nm 2).lst hq) int rfl) (a1 (ix ((nm 2).lst hq) int rfl) (a1 ((nm 3).lst Vy) a0)))))) ⟨m,b,A,R,n,k,u,p,ws,rfl,hw,rfl⟩))) ?_
  rw[Ao]
  by_cases q:8<n
  ·rw[if_pos q,if_pos q]
  ·rw[if_neg q,if_neg q]
 |move t p=>
  iterate 3 refine jM (ai cg (nm 1) G.k) (by decide) ?_
  exact gq (ai cg (nm 1) (G.k (i:=4))) (aw (call (eW.at hr) (a1 (nm 0) (a1 (ix ((nm 2).lst hq) int rfl) (a1 (ix ((nm 2).lst hq) int rfl) a0))) ⟨m,b,A,R,t,p,rfl,rfl⟩))
 |day n=>
  iterate 4 refine jM (ai cg (nm 1) G.k) (by decide) ?_
  exact gq (ai cg (nm 1) (G.k (i:=5))) (aw (call (fQ.at hr) (a1 (nm 0) (a1 (ix ((nm 2).lst hq) int rfl) a0)) ⟨m,b,A,R,n,rfl,rfl⟩))
 |harm t l=>
  iterate 5 refine jM (ai cg (nm 1) G.k) (by decide) ?_
  exact gq (ai cg (nm 1) (G.k (i:=6))) (aw (call (eX.at hr) (a1 (nm 0) (a1 (ix ((nm 2).lst hq) int rfl) (a1 (ix ((nm 2).lst hq) int rfl) a0))) ⟨m,b,A,R,t,l,rfl,rfl⟩))
 |lend t p d=>
  iterate 6 refine jM (ai cg (nm 1) G.k) (by decide) ?_
  exact gq (ai cg (nm 1) (G.k (i:=7))) (aw (call (eY.at hr) (a1 (nm 0) (a1 (ix ((nm 2).lst hq) int rfl) (a1 (ix ((nm 2).lst hq) int rfl) (a1 (ix ((nm 2).lst hq) int rfl) a0)))) ⟨m,b,A,R,t,p,d,rfl,rfl⟩))
 |home t p=>
  iterate 7 refine jM (ai cg (nm 1) G.k) (by decide) ?_
  exact gq (ai cg (nm 1) (G.k (i:=8))) (aw (call (eZ.at hr) (a1 (nm 0) (a1 (ix ((nm 2).lst hq) int rfl) (a1 (ix ((nm 2).lst hq) int rfl) a0))) ⟨m,b,A,R,t,p,rfl,rfl⟩))
 |show_ p a o=>
  iterate 8 refine jM (ai cg (nm 1) G.k) (by decide) ?_
  exact gq (ai cg (nm 1) (G.k (i:=9))) (aw (call (e8.at hr) (a1 (nm 0) (a1 (ix ((nm 2).lst hq) int rfl) (a1 (ix ((nm 2).lst hq) int rfl) (a1 (ix ((nm 2).lst hq) int rfl) a0)))) ⟨m,b,A,R,p,a,o,rfl,rfl⟩))
 |book e t=>
  iterate 9 refine jM (ai cg (nm 1) G.k) (by decide) ?_
  exact gq (ai cg (nm 1) (G.k (i:=10))) (aw (call (e9.at hr) (a1 (nm 0) (a1 (ix ((nm 2).lst hq) int rfl) (a1 (ix ((nm 2).lst hq) int rfl) a0))) ⟨m,b,A,R,e,t,rfl,rfl⟩))
 |unbook e t=>
  iterate 10 refine jM (ai cg (nm 1) G.k) (by decide) ?_
  exact gq (ai cg (nm 1) (G.k (i:=11))) (aw (call (dR.at hr) (a1 (nm 0) (a1 (ix ((nm 2).lst hq) int rfl) (a1 (ix ((nm 2).lst hq) int rfl) a0))) ⟨m,b,A,R,e,t,rfl,rfl⟩))
 |hang e=>
  iterate 11 refine jM (ai cg (nm 1) G.k) (by decide) ?_
  exact gq (ai cg (nm 1) (G.k (i:=12))) (aw (call (fb.at hr) (a1 (nm 0) (a1 (ix ((nm 2).lst hq) int rfl) a0)) ⟨m,b,A,R,e,rfl,rfl⟩))
 |down e p=>
  iterate 12 refine jM (ai cg (nm 1) G.k) (by decide) ?_
  exact gq (ai cg (nm 1) (G.k (i:=13))) (aw (call (fc.at hr) (a1 (nm 0) (a1 (ix ((nm 2).lst hq) int rfl) (a1 (ix ((nm 2).lst hq) int rfl) a0))) ⟨m,b,A,R,e,p,rfl,hh,rfl⟩))
 |cancel e=>
  iterate 13 refine jM (ai cg (nm 1) G.k) (by decide) ?_
  exact aw (call (dS.at hr) (a1 (nm 0) (a1 (ix ((nm 2).lst hq) int rfl) a0)) ⟨m,b,A,R,e,rfl,rfl⟩)
def EB(K:W.Frag):Sp:=λys H Q _=>∃(m na la:Addr)(b:Book)(A:aQ)(c:Nat)(nums ws:List Nat)(d:Deed),ys= [.ref m,.int c,.ref na,.ref la]/\Rep K H m b A/\Dd c nums ws d/\H na=some (.lst (nums.map nV))/\H la=some (.lst (ws.map nV))/\(∀P,A.at m P≠some la)/\0<=(b.house.do_ d).2/\
 ∀H' A',Rep K H' m ⟨(b.house.do_ d).1,b.log⟩ A'->Fr m [la] A A' H H'->H' la=some (.lst (ws.map nV))->Q (.int (b.house.do_ d).2) H'
theorem yh:ao ["museum","call","numbers","letters"] ["museum","call","numbers","letters"] (ah (top 202)):=b5
theorem yi{f fT:Addr}{fd JC:FuncData}(F:jq K "carry_out" "carry_out" (top 202) f fd)(G:Gs mg)(iD:iR P w K mg ae "add_place" 3 pd qy)(iE:iR P w K mg ae "set_light" 1 pA qy)(gD:iR P w K mg ae "move_thing" 1 mZ qy)(iF:iR P w K mg ae "pass_days" 2 pI qy)(jN:iR P w K mg ae "set_harm" 3 rA qy)(gE:iR P w K mg ae "lend_thing" 1 m6 qy)(gF:iR P w K mg ae "bring_home" 1 m8 qy)(jO:iR P w K mg ae "add_show" 3 rC qy)(gG:iR P w K mg ae "book_thing" 1 m4 qy)(fe:iR P w K mg ae "unbook_thing" 1 kr qy)(iG:iR P w K mg ae "hang_show" 2 pB qy)(iH:iR P w K mg ae "take_down" 2 pG qy)(fU:iR P w K mg ae "cancel_show" 1 lC qy)(FT:bD P w K mg ae eT 3 fT JC ["museum","material","limit","place","letters"] (Ex K))(mT:mg "add_thing"=some (.ref fT))(kT:W.keepIn K (.ref fT)=true)(bT:Binds K JC ["museum","material","limit","place","letters"] []):bD P w K mg ae eT 4 f fd ["museum","call","numbers","letters"] (EB K):=by
 refine F.ok yh (λvs H Q XE h=> ?_) (λaK A0 aq s H vs Q XE hr h=>⟨_,aD,?_⟩)
 ·obtain⟨m,na,la,b,A,c,nums,ws,d,rfl,_⟩:=h
  rfl
 ·obtain⟨m,na,la,b,A,c,nums,ws,d,rfl,R,hD,jm,Gj,Gk,eS,hQ⟩:=h
  have I':=Ib R.inv d
  obtain⟨z,ez⟩:∃z,z=b.house.do_ d:=⟨_,rfl⟩
  rw[<-ez] at eS hQ I'
  have fin:∀{G0:Hp}{b':Book}{v:V},au H G0->b'=⟨z.1,b.log⟩->v=.int z.2->∀H' A',Rep K H' m b' A'->Fr m [] A A' G0 H'->Q v H':=λ{G0 b' v} S e1 e2 H' A' R' fr=>by
   subst e1 e2
   have Zg:=(Fr.same S).trans fr R.kM
   exact hQ H' A' R' Zg.more (Zg.keep la _ Gj Gk (λy=>nomatch y))
  cases hD with
  |place u k r l=>
   refine Ez (ai cg (nm 1) (G.k (i:=1))) λH1 S1=> ?_
   have SS:=S1
   simp only[House.do_,Km383.THINGS,Km383.PLACES] at ez
   obtain⟨n1,ez⟩:=b7 ez eS (by decide)
   obtain⟨n2,ez⟩:=b7 ez eS (by decide)
   obtain⟨n3,ez⟩:=b7 ez eS (by decide)
   subst ez
   exact bA (iD.call (ys:= [.ref m,.int u,.int k,.int r,.int l]) hr (by decide) (a1 (nm 0) (a1 (ix ((nm 2).lst (aF.of (SS _ _ jm))) int rfl) (a1 (ix ((nm 2).lst (aF.of (SS _ _ jm))) int rfl) (a1 (ix ((nm 2).lst (aF.of (SS _ _ jm))) int rfl) (a1 (ix ((nm 2).lst (aF.of (SS _ _ jm))) int rfl) a0))))) (R.up SS) ⟨u,k,r,l,rfl,by omega,by omega,⟨by omega,by omega⟩,by omega,by omega,rfl,rfl⟩ (fin SS rfl rfl))
  |light p l=>
   have SS:=au.refl H
   refine kz SS (ai cg (nm 1) G.k) (by decide) λ_ SS=> ?_
   refine gj SS (ai cg (nm 1) (G.k (i:=2))) λ_ SS=> ?_
   simp only[House.do_] at ez
   obtain⟨n1,ez⟩:=b7 ez eS (by decide)
   obtain⟨n2,ez⟩:=b7 ez eS (by decide)
   subst ez
   exact bA (iE.call (ys:= [.ref m,.int p,.int l]) hr (by decide) (a1 (nm 0) (a1 (ix ((nm 2).lst (aF.of (SS _ _ jm))) int rfl) (a1 (ix ((nm 2).lst (aF.of (SS _ _ jm))) int rfl) a0))) (R.up SS) ⟨p,l,rfl,by omega,by omega,rfl,rfl⟩ (fin SS rfl rfl))
  |thing n k u p _=>
   have SS:=au.refl H
   iterate 2 refine kz SS (ai cg (nm 1) G.k) (by decide) λ_ SS=> ?_
   refine gj SS (ai cg (nm 1) (G.k (i:=3))) λ_ SS=> ?_
   simp only[House.do_,Km383.THINGS] at ez
   obtain⟨n1,ez⟩:=b7 ez eS (by decide)
   obtain⟨n2,ez⟩:=b7 ez eS (by decide)
   obtain⟨n3,ez⟩:=b7 ez eS (by decide)
   obtain⟨n4,ez⟩:=b7 ez eS (by decide)
   obtain⟨n5,ez⟩:=b7 ez eS (by decide)
   subst ez
   refine bA (cS (ys:= [.ref m,.int k,.int u,.int p,.ref la]) FT (hr.mono (by decide)) mT kT bT (a1 (nm 0) (a1 (ix ((nm 2).lst (aF.of (SS _ _ jm))) int rfl) (a1 (ix ((nm 2).lst (aF.of (SS _ _ jm))) int rfl) (a1 (ix ((nm 2).lst (aF.of (SS _ _ jm))) int rfl) (a1 (nm 3) a0))))) λH4 S4=>⟨m,la,b,A,k,u,p,ws,rfl,(R.up SS).up S4,S4 _ _ (SS _ _ Gj),Gk,I',λH' A' R' fr h=>hQ H' A' R' ?_ h⟩)
   exact⟨λy o hy n g=>fr.keep y o (S4 _ _ (SS _ _ hy)) n g,λP y hy=>(fr.new P y hy).elim .inl λq=>q.elim (λq=>.inr (.inl ((SS.trans S4).free q))) λq=>.inr (.inr q)⟩
  |move t p=>
   have SS:=au.refl H
   iterate 3 refine kz SS (ai cg (nm 1) G.k) (by decide) λ_ SS=> ?_
   refine gj SS (ai cg (nm 1) (G.k (i:=4))) λ_ SS=> ?_
   simp only[House.do_] at ez
   obtain⟨n1,ez⟩:=b7 ez eS (by decide)
   obtain⟨n2,ez⟩:=b7 ez eS (by decide)
   obtain⟨n3,ez⟩:=b7 ez eS (by decide)
   obtain⟨n4,ez⟩:=b7 ez eS (by decide)
   obtain⟨n5,ez⟩:=b7 ez eS (by decide)
   obtain⟨n6,ez⟩:=b7 ez eS (by decide)
   subst ez
   exact bA (gD.call (ys:= [.ref m,.int t,.int p]) hr (by decide) (a1 (nm 0) (a1 (ix ((nm 2).lst (aF.of (SS _ _ jm))) int rfl) (a1 (ix ((nm 2).lst (aF.of (SS _ _ jm))) int rfl) a0))) (R.up SS) ⟨t,p,rfl,by omega,by omega,rfl,rfl⟩ (fin SS rfl rfl))
  |day n=>
   have SS:=au.refl H
   iterate 4 refine kz SS (ai cg (nm 1) G.k) (by decide) λ_ SS=> ?_
   refine gj SS (ai cg (nm 1) (G.k (i:=5))) λ_ SS=> ?_
   simp only[House.do_,Km383.DAYS] at ez
   obtain⟨n1,ez⟩:=b7 ez eS (by decide)
   subst ez
   exact bA (iF.call (ys:= [.ref m,.int n]) hr (by decide) (a1 (nm 0) (a1 (ix ((nm 2).lst (aF.of (SS _ _ jm))) int rfl) a0)) (R.up SS) ⟨n,rfl,by omega,rfl,rfl⟩ (fin SS rfl rfl))
  |harm t l=>
   have SS:=au.refl H
   iterate 5 refine kz SS (ai cg (nm 1) G.k) (by decide) λ_ SS=> ?_
   refine gj SS (ai cg (nm 1) (G.k (i:=6))) λ_ SS=> ?_
   simp only[House.do_] at ez
   obtain⟨n1,ez⟩:=b7 ez eS (by decide)
   obtain⟨n2,ez⟩:=b7 ez eS (by decide)
   subst ez
   exact bA (jN.call (ys:= [.ref m,.int t,.int l]) hr (by decide) (a1 (nm 0) (a1 (ix ((nm 2).lst (aF.of (SS _ _ jm))) int rfl) (a1 (ix ((nm 2).lst (aF.of (SS _ _ jm))) int rfl) a0))) (R.up SS) ⟨t,l,rfl,by omega,by omega,rfl,rfl⟩ (fin SS rfl rfl))
  |lend t p d=>
   have SS:=au.refl H
   iterate 6 refine kz SS (ai cg (nm 1) G.k) (by decide) λ_ SS=> ?_
   refine gj SS (ai cg (nm 1) (G.k (i:=7))) λ_ SS=> ?_
   simp only[House.do_,Km383.DAYS] at ez
   obtain⟨n1,ez⟩:=b7 ez eS (by decide)
   obtain⟨n2,ez⟩:=b7 ez eS (by decide)
   obtain⟨n3,ez⟩:=b7 ez eS (by decide)
   obtain⟨n4,ez⟩:=b7 ez eS (by decide)
   obtain⟨n5,ez⟩:=b7 ez eS (by decide)
   obtain⟨n6,ez⟩:=b7 ez eS (by decide)
   subst ez
   exact bA (gE.call (ys:= [.ref m,.int t,.int p,.int d]) hr (by decide) (a1 (nm 0) (a1 (ix ((nm 2).lst (aF.of (SS _ _ jm))) int rfl) (a1 (ix ((nm 2).lst (aF.of (SS _ _ jm))) int rfl) (a1 (ix ((nm 2).lst (aF.of (SS _ _ jm))) int rfl) a0)))) (R.up SS) ⟨t,p,d,rfl,by omega,by omega,by omega,rfl,rfl⟩ (fin SS rfl rfl))
  |home t p=>
   have SS:=au.refl H
   iterate 7 refine kz SS (ai cg (nm 1) G.k) (by decide) λ_ SS=> ?_
   refine gj SS (ai cg (nm 1) (G.k (i:=8))) λ_ SS=> ?_
   simp only[House.do_] at ez
   obtain⟨n1,ez⟩:=b7 ez eS (by decide)
   obtain⟨n2,ez⟩:=b7 ez eS (by decide)
   obtain⟨n3,ez⟩:=b7 ez eS (by decide)
   obtain⟨n4,ez⟩:=b7 ez eS (by decide)
   obtain⟨n5,ez⟩:=b7 ez eS (by decide)
   subst ez
   exact bA (gF.call (ys:= [.ref m,.int t,.int p]) hr (by decide) (a1 (nm 0) (a1 (ix ((nm 2).lst (aF.of (SS _ _ jm))) int rfl) (a1 (ix ((nm 2).lst (aF.of (SS _ _ jm))) int rfl) a0))) (R.up SS) ⟨t,p,rfl,by omega,by omega,rfl,rfl⟩ (fin SS rfl rfl))
  |show_ p a o=>
   have SS:=au.refl H
   iterate 8 refine kz SS (ai cg (nm 1) G.k) (by decide) λ_ SS=> ?_
   refine gj SS (ai cg (nm 1) (G.k (i:=9))) λ_ SS=> ?_
   rw[xn] at ez
   obtain⟨n1,ez⟩:=b7 ez eS (by decide)
   obtain⟨n2,ez⟩:=b7 ez eS (by decide)
   obtain⟨n3,ez⟩:=b7 ez eS (by decide)
   obtain⟨n4,ez⟩:=b7 ez eS (by decide)
   subst ez
   have fr:freeOf b.house=some ((freeOf b.house).getD 0):=by
    cases y:freeOf b.house with
    |none=>rw[y] at n4;exact absurd rfl n4
    |some v=>rfl
   exact bA (jO.call (ys:= [.ref m,.int p,.int a,.int o]) hr (by decide) (a1 (nm 0) (a1 (ix ((nm 2).lst (aF.of (SS _ _ jm))) int rfl) (a1 (ix ((nm 2).lst (aF.of (SS _ _ jm))) int rfl) (a1 (ix ((nm 2).lst (aF.of (SS _ _ jm))) int rfl) a0)))) (R.up SS) ⟨p,a,o,_,rfl,fr,rfl,I',rfl⟩ (fin SS rfl rfl))
  |book e t=>
   have SS:=au.refl H
   iterate 9 refine kz SS (ai cg (nm 1) G.k) (by decide) λ_ SS=> ?_
   refine gj SS (ai cg (nm 1) (G.k (i:=10))) λ_ SS=> ?_
   rw[xo] at ez
   obtain⟨n1,ez⟩:=b7 ez eS (by decide)
   obtain⟨n2,ez⟩:=b7 ez eS (by decide)
   obtain⟨n3,ez⟩:=b7 ez eS (by decide)
   obtain⟨n4,ez⟩:=b7 ez eS (by decide)
   obtain⟨n5,ez⟩:=b7 ez eS (by decide)
   obtain⟨n6,ez⟩:=b7 ez eS (by decide)
   subst ez
   have tl:(House.aH b.house e).things.length<100:=by
    have o:=R.inv.sh e _ (dF (λy=>n1 (.inl y)))
    have h1:=qx _ _ o.nd o.th
    have h2:=R.inv.nt
    omega
   exact bA (gG.call (ys:= [.ref m,.int e,.int t]) hr (by decide) (a1 (nm 0) (a1 (ix ((nm 2).lst (aF.of (SS _ _ jm))) int rfl) (a1 (ix ((nm 2).lst (aF.of (SS _ _ jm))) int rfl) a0))) (R.up SS) ⟨e,t,rfl,λy=>n1 (.inl y),by simpa using n2,tl,rfl,I',rfl⟩ (fin SS rfl rfl))
  |unbook e t=>
   have SS:=au.refl H
   iterate 10 refine kz SS (ai cg (nm 1) G.k) (by decide) λ_ SS=> ?_
   refine gj SS (ai cg (nm 1) (G.k (i:=11))) λ_ SS=> ?_
   rw[qg] at ez
   obtain⟨n1,ez⟩:=b7 ez eS (by decide)
   obtain⟨n2,ez⟩:=b7 ez eS (by decide)
   obtain⟨n3,ez⟩:=b7 ez eS (by decide)
   subst ez
   have nd:=(R.inv.sh e _ (dF n1)).nd
   exact bA (fe.call (ys:= [.ref m,.int e,.int t]) hr (by decide) (a1 (nm 0) (a1 (ix ((nm 2).lst (aF.of (SS _ _ jm))) int rfl) (a1 (ix ((nm 2).lst (aF.of (SS _ _ jm))) int rfl) a0))) (R.up SS) ⟨e,t,rfl,n1,by simpa using n2,by simpa using n3,nd,rfl,I',rfl⟩ (fin SS rfl rfl))
  |hang e=>
   have SS:=au.refl H
   iterate 11 refine kz SS (ai cg (nm 1) G.k) (by decide) λ_ SS=> ?_
   refine gj SS (ai cg (nm 1) (G.k (i:=12))) λ_ SS=> ?_
   rw[xq] at ez
   obtain⟨n1,ez⟩:=b7 ez eS (by decide)
   obtain⟨n2,ez⟩:=b7 ez eS (by decide)
   obtain⟨n3,ez⟩:=b7 ez eS (by decide)
   obtain⟨n4,ez⟩:=b7 ez eS (by decide)
   obtain⟨n5,ez⟩:=b7 ez eS (by decide)
   obtain⟨n6,ez⟩:=b7 ez eS (by decide)
   subst ez
   exact bA (iG.call (ys:= [.ref m,.int e]) hr (by decide) (a1 (nm 0) (a1 (ix ((nm 2).lst (aF.of (SS _ _ jm))) int rfl) a0)) (R.up SS) ⟨e,rfl,n1,rfl,I',rfl⟩ (fin SS rfl rfl))
  |down e p=>
   have SS:=au.refl H
   iterate 12 refine kz SS (ai cg (nm 1) G.k) (by decide) λ_ SS=> ?_
   refine gj SS (ai cg (nm 1) (G.k (i:=13))) λ_ SS=> ?_
   rw[xr] at ez
   obtain⟨n1,ez⟩:=b7 ez eS (by decide)
   obtain⟨n2,ez⟩:=b7 ez eS (by decide)
   obtain⟨n3,ez⟩:=b7 ez eS (by decide)
   obtain⟨n4,ez⟩:=b7 ez eS (by decide)
   subst ez
   exact bA (iH.call (ys:= [.ref m,.int e,.int p]) hr (by decide) (a1 (nm 0) (a1 (ix ((nm 2).lst (aF.of (SS _ _ jm))) int rfl) (a1 (ix ((nm 2).lst (aF.of (SS _ _ jm))) int rfl) a0))) (R.up SS) ⟨e,p,rfl,λy=>n1 (.inl y),by omega,rfl,rfl⟩ (fin SS rfl rfl))
  |cancel e=>
   refine lE (ai cg (nm 1) (G.k (i:=1))) (by decide) λH1 S1=> ?_
   refine lE (ai cg (nm 1) (G.k (i:=2))) (by decide) λH2 S2=> ?_
   refine lE (ai cg (nm 1) (G.k (i:=3))) (by decide) λH3 S3=> ?_
   refine lE (ai cg (nm 1) (G.k (i:=4))) (by decide) λH4 S4=> ?_
   refine lE (ai cg (nm 1) (G.k (i:=5))) (by decide) λH5 S5=> ?_
   refine lE (ai cg (nm 1) (G.k (i:=6))) (by decide) λH6 S6=> ?_
   refine lE (ai cg (nm 1) (G.k (i:=7))) (by decide) λH7 S7=> ?_
   refine lE (ai cg (nm 1) (G.k (i:=8))) (by decide) λH8 S8=> ?_
   refine lE (ai cg (nm 1) (G.k (i:=9))) (by decide) λH9 S9=> ?_
   refine lE (ai cg (nm 1) (G.k (i:=10))) (by decide) λVg Jj=> ?_
   refine lE (ai cg (nm 1) (G.k (i:=11))) (by decide) λQt Jk=> ?_
   refine lE (ai cg (nm 1) (G.k (i:=12))) (by decide) λH12 Oe=> ?_
   refine lE (ai cg (nm 1) (G.k (i:=13))) (by decide) λH13 Ux=> ?_
   have SS:=((((((((((((S1.trans S2).trans S3).trans S4).trans S5).trans S6).trans S7).trans S8).trans S9).trans Jj).trans Jk).trans Oe).trans Ux)
   rw[qh] at ez
   obtain⟨n1,ez⟩:=b7 ez eS (by decide)
   obtain⟨n2,ez⟩:=b7 ez eS (by decide)
   subst ez
   exact bA (fU.call (ys:= [.ref m,.int e]) hr (by decide) (a1 (nm 0) (a1 (ix ((nm 2).lst (aF.of (SS _ _ jm))) int rfl) a0)) (R.up SS) ⟨e,rfl,n1,rfl,rfl⟩ (fin SS rfl rfl))
end
abbrev lF(A:aQ)(a:Addr):aQ:= { A with ea:=A.ea++ [a] }
theorem lG{m:Addr}{A:aQ}{a:Addr}:∀P,P∉ [Spot.en A.ea.length]->(lF A a).at m P=A.at m P
 | .mu,_| .lp,_| .lt,_| .ls,_| .le,_| .pl _,_| .th _,_| .nm _,_| .li _,_| .st _,_| .sh _,_| .bk _,_=>rfl
 | .en i,h=>by
   show(A.ea++ [a])[i]? =A.ea[i]?
   rw[cD,if_neg (λe=>h (by rw[e];exact List.mem_singleton.mpr rfl))]
theorem lH{m a y:Addr}{A:aQ}{P:Spot}(hP:P∈ [Spot.en A.ea.length])(hy:(lF A a).at m P=some y):y=a:=by
 have e:=List.mem_singleton.mp hP
 subst e
 have h:(A.ea++ [a])[A.ea.length]? =some y:=hy
 rw[cD,if_pos rfl] at h
 exact(Option.some.inj h).symm
theorem JD{H:Hp}{C:Cs}{m a:Addr}{b:Book}{A:aQ}{d:Deed}(R:d8 H C m b A)(na:∀Q,A.at m Q≠some a)(ha:H a=some (.lst ((Km383.told d).map nV))):d8 (upd H A.le (.lst (A.ea.map .ref++ [.ref a]))) C m ⟨b.house,d::b.log⟩ (lF A a):=by
 refine⟨λP y hy=> ?_,o9 [.en A.ea.length] R.inj lG (λP hP y hy=>by rw[lH hP hy];exact na) (λP hP Q hQ _ _ _=>by rw[List.mem_singleton.mp hP,List.mem_singleton.mp hQ]),R.np,R.nt,R.ns,?_,R.so⟩
 ·by_cases q:P∈ [Spot.en A.ea.length]
  ·have ey:=lH q hy
   subst ey
   rw[List.mem_singleton.mp q]
   show _=some (HO.lst ((Km383.told ((d::b.log).reverse.getD A.ea.length (.day 0))).map nV))
   rw[aj (λz=>na .le (by rw[z];rfl)),ha,List.reverse_cons,lX,if_pos (by rw[List.length_reverse];exact R.ne)]
  ·have pY:=hy
   rw[lG P q] at pY
   by_cases ql:P=.le
   ·subst ql
    have ey:A.le=y:=Option.some.inj pY
    subst ey
    show _=some (HO.lst ((A.ea++ [a]).map V.ref))
    rw[ak,List.map_append]
    rfl
   ·have old:=cK.of (aj (H:=H) (a:=A.le) (o:=.lst (A.ea.map .ref++ [.ref a])) λz=>ql (R.inj P .le y pY (by rw[z];rfl))) (R.ex P y pY)
    have ee:exp C ⟨b.house,d::b.log⟩ (lF A a) P=exp C b A P:=by
     cases P with
     |en i=>
      have n:i≠A.ea.length:=λz=>q (by rw[z];simp)
      show cK.lst ((Km383.told ((d::b.log).reverse.getD i (.day 0))).map nV)=cK.lst ((Km383.told (b.log.reverse.getD i (.day 0))).map nV)
      rw[List.reverse_cons,lX,if_neg (by rw[List.length_reverse,<-R.ne];exact n)]
     |le=>exact absurd rfl ql
     |_=>rfl
    rw[ee]
    exact old
 ·show(A.ea++ [a]).length=(d::b.log).length
  rw[List.length_append,R.ne]
  rfl
def chg(b:Book)(nums:List Nat)(d:Deed):Book×Int:=if tooMany nums d=true then(b,-22) else((b.do_ d).1,(b.do_ d).2.value)
theorem Ms{c:Nat}{nums ws:List Nat}{d:Deed}(h:Dd c nums ws d)(hn:∀n k u p,nums= [n,k,u,p]->c=3->ws.length=n):Km383.told d=c::(nums++ws):=by
 cases h with
 |thing n k u p w=>
  show [3,ws.length,k,u,p]++ws=_
  rw[hn n k u p rfl rfl]
  rfl
 |_=>rfl
section
variable{P:Program}{w:World}{K:W.Frag}{mg:Str->Option Value}{ae:Heap}
def Ap(K:W.Frag):Sp:=λys H Q _=>∃(m na la:Addr)(b:Book)(A:aQ)(c:Nat)(nums ws:List Nat)(d:Deed),ys= [.ref m,.int c,.ref na,.ref la]/\Rep K H m b A/\HH b.house/\Dd c nums ws d/\H na=some (.lst (nums.map nV))/\H la=some (.lst (ws.map nV))/\(∀P,A.at m P≠some na)/\(∀P,A.at m P≠some la)/\na≠la/\ws.length<=8/\(tooMany nums d=false->∀n k u p,nums= [n,k,u,p]->c=3->ws.length=n)/\
 ∀H' A',Rep K H' m (chg b nums d).1 A'->Fr m [la] A A' H H'->Q (.int (chg b nums d).2) H'
theorem qC:ao ["museum","call","numbers","letters","refusal","answer"] ["museum","call","numbers","letters"] (ah (top 203)):=b5
theorem Gp{f fC:Addr}{fd Og:FuncData}(F:jq K "change" "change" (top 203) f fd)(G:Gs mg)(gH:Cal P w K mg ae "refusal_of" 5 (Rq K ni))(FC:bD P w K mg ae eT 4 fC Og ["museum","call","numbers","letters"] (EB K))(mC:mg "carry_out"=some (.ref fC))(kC:W.keepIn K (.ref fC)=true)(bC:Binds K Og ["museum","call","numbers","letters"] []):bD P w K mg ae eT 6 f fd ["museum","call","numbers","letters"] (Ap K):=by
 refine F.ok qC (λvs H Q XE h=> ?_) (λaK A0 aq s H vs Q XE hr h=>⟨_,aD,?_⟩)
 ·obtain⟨m,na,la,b,A,c,nums,ws,d,rfl,_⟩:=h
  rfl
 ·obtain⟨m,na,la,b,A,c,nums,ws,d,rfl,R,hh,hD,jm,Gj,Vz,Gk,ne,hw,hn,hQ⟩:=h
  refine dH 4 (call (gH.at hr) (a1 (nm 0) (a1 (nm 1) (a1 ((nm 2).lst (aF.of jm)) (a1 ((nm 3).lst (aF.of Gj)) a0)))) ⟨m,b,A,R,c,nums,ws,d,rfl,hD,hw,hh,rfl⟩) (λH1 S1=> ?_) qC.nd
  refine ph (ai Xs (nm 4) (G.k (i:=0))) (λq H2 S2=> ?_) (λq H2 S2=> ?_)
  ·
   have q:¬gB (refOf b.house nums d)=0:=by simpa using q
   have e:chg b nums d=(b,gB (refOf b.house nums d)):=by
    unfold chg
    unfold refOf at q ⊢
    by_cases t:tooMany nums d=true
    ·rw[if_pos t,if_pos t]
     rfl
    ·rw[if_neg t] at q ⊢
     rw[if_neg t]
     have l:(b.house.do_ d).2<0:=by
      by_cases z:(b.house.do_ d).2<0
      ·exact z
      ·exact absurd (t7 (by omega)) q
     rw[t6 l]
     unfold Book.do_
     dsimp only
     rw[if_pos l]
     rfl
   refine cB (nm 4) λH3 S3=> ?_
   rw[e] at hQ
   exact hQ H3 A (((R.up S1).up S2).up S3) (Fr.same ((S1.trans S2).trans S3))
  ·have q:gB (refOf b.house nums d)=0:=by simpa using q
   have t:tooMany nums d=false:=by
    cases t:tooMany nums d with
    |false=>rfl
    |true=>
     unfold refOf at q
     rw[if_pos t] at q
     cases q
   have eS:0<=(b.house.do_ d).2:=by
    unfold refOf at q
    rw[if_neg (by rw[t];simp)] at q
    by_cases z:(b.house.do_ d).2<0
    ·rw[t6 z] at q
     omega
    ·omega
   have R2:=(R.up S1).up S2
   refine ph (ai cg (len (a1 ((fld (nm 0) R2.jb).lst (aF.of R2.le)) a0) (G.b _ (by decide))) (G.k (i:=400))) (λq4 H3 S3=> ?_) (λq4 H3 S3=> ?_)
   ·
    have l4:b.log.length=400:=by
     have:=of_decide_eq_true q4
     rw[List.length_map,R.ne] at this
     omega
    have e:chg b nums d=(b,-75):=by
     unfold chg
     rw[if_neg (by rw[t];simp)]
     unfold Book.do_
     dsimp only
     rw[if_neg (by omega),if_pos (by unfold Km383.LOG;omega)]
     rfl
    refine cB (G.k (i:= -75)) λH4 S4=> ?_
    rw[e] at hQ
    exact hQ H4 A ((R2.up S3).up S4) (Fr.same (((S1.trans S2).trans S3).trans S4))
   ·have l4:b.log.length<400:=by
     have h1:=of_decide_eq_false q4
     rw[List.length_map,R.ne] at h1
     have h2:=R.log
     omega
    have e:chg b nums d=(⟨(b.house.do_ d).1,d::b.log⟩,(b.house.do_ d).2):=by
     unfold chg
     rw[if_neg (by rw[t];simp)]
     unfold Book.do_
     dsimp only
     rw[if_neg (by omega),if_neg (by unfold Km383.LOG;omega)]
     rfl
    rw[e] at hQ
    have VA:=(S1.trans S2).trans S3
    refine dD 5 (cS (ys:= [.ref m,.int c,.ref na,.ref la]) FC (hr.mono (by decide)) mC kC bC (a1 (nm 0) (a1 (nm 1) (a1 (nm 2) (a1 (nm 3) a0)))) λH4 S4=>⟨m,na,la,b,A,c,nums,ws,d,rfl,(R2.up S3).up S4,hD,S4 _ _ (VA _ _ jm),S4 _ _ (VA _ _ Gj),Gk,eS,λH5 A' R5 fr X4=> ?_⟩) qC.nd
    have fr:Fr m [la] A A' H H5:=⟨λy o hy n g=>fr.keep y o (S4 _ _ (VA _ _ hy)) n g,λP y hy=>(fr.new P y hy).elim .inl λq=>q.elim (λq=>.inr (.inl ((VA.trans S4).free q))) λq=>.inr (.inr q)⟩
    have X5:H5 na=some (.lst (nums.map nV)):=fr.keep na _ jm Vz (by simpa using ne)
    have tl:=Ms hD (hn t)
    have ll:nums.length<=4:=by cases hD<;>first|exact(by decide:4<=4)|exact(by decide:3<=4)|exact(by decide:2<=4)|exact(by decide:1<=4)
    have kJ:=sizeLine_eq
    have eL:([V.int c]++nums.map nV)++ws.map nV=(Km383.told d).map nV:=by
     rw[tl,List.map_cons,List.map_append]
     rfl
    refine dh (fld (nm 0) R5.jb) R5.le λH6 S6=> ?_
    refine yg (by rw[List.length_append,List.length_map,List.length_map];show 1+nums.length+ws.length<=_;omega) (cat (by rw[List.length_map];show 1+nums.length<=_;omega) (lst (xs:= [.int c]) (a1 (nm 1) a0) (by show 1<=sizeLine;omega)) ((nm 2).own X5)) ((nm 3).own X4) H6 S6 _ λa H7 S7 X6 Zh=> ?_
    rw[eL] at Zh
    obtain⟨C,T,Zi⟩:=(R5.up S6).ex
    have Zj:=Zi.up S7
    have nA:=Zi.tracked X6
    refine⟨_,Zj.ex .le _ rfl,by rw[List.length_map,R5.ne];show b.log.length<_;omega,?_⟩
    have R8:=JD Zj nA Zh
    have R8':Rep K _ m ⟨(b.house.do_ d).1,d::b.log⟩ (lF A' a):=⟨⟨C,T,R8⟩,R5.inv,by show b.log.length+1<=400;omega⟩
    refine cB (nm 5) λH9 S9=>hQ H9 _ (R8'.up S9) ⟨λy o hy n g=>S9 _ _ ?_,λP y hy=> ?_⟩
    ·have k5:=fr.keep y o hy n g
     have Hc:y≠A'.le:=λz=>by
      rcases fr.new .le y (by rw[z];rfl) with⟨P',z'⟩|z'|z'
      ·exact n P' z'
      ·rw[hy] at z';cases z'
      ·exact g z'
     rw[aj Hc]
     exact S7 _ _ (S6 _ _ k5)
    ·by_cases q:P∈ [Spot.en A'.ea.length]
     ·rw[lH q hy]
      by_cases g:a∈ [la]
      ·exact .inr (.inr g)
      ·by_cases n:∃P',A.at m P'=some a
       ·exact .inl n
       ·refine .inr (.inl ?_)
        cases z:H a with
        |none=>rfl
        |some o=>
         have k5:=fr.keep a o z (λP zz=>n ⟨P,zz⟩) g
         rw[S6 _ _ k5] at X6
         cases X6
     ·rw[lG P q] at hy
      exact fr.new P y hy
end
end Mu
namespace Ev
open PySem PySem.Spec PyProof.Rows L2
def Sn(X:Cx)(b:List Stmt)(σ:L2.St)(H:Hp)(xs:List V):Prop:=∀H1,au H H1->∀D:Ends,(∀a H2,au H1 H2->H1 a=none->H2 a=some (.lst xs)->D.rt (.ref a) H2)->sb X b D σ H1
abbrev sE:=Hp->List Sh->List V->Prop
def sE.Up(P:sE):Prop:=∀H H' l z,au H H'->P H l z->P H' l z
def spN(K:W.Frag)(P:sE):Sp:=λys H Q _=>∃l xs,dv K H l ys/\P H l xs/\∀a H',au H H'->H a=none->H' a=some (.lst xs)->Q (.ref a) H'
structure bU(P:Program)(w:World)(K:W.Frag)(mg:Str->Option Value)(ae:Heap)(x:Str)(k:Nat)(R:sE):Prop where
 ex:∃(f:Addr)(fd:FuncData)(ps:List Str),bD P w K mg ae eT k f fd ps (spN K R)/\mg x=some (.ref f)/\W.keepIn K (.ref f)=true/\Binds K fd ps []
 up:R.Up
section
variable{P:Program}{w:World}{K:W.Frag}{mg:Str->Option Value}{ae:Heap}
theorem bU.of{x:Str}{st:Stmt}{f:Addr}{fd:FuncData}{N ps:List Str}{k:Nat}{R:sE}(F:jq K x x st f fd)(hm:mg x=some (.ref f))(b:Binds K fd ps [])(Sc:ao N ps (ah st))(up:R.Up)(len:∀H l z,R H l z->l.length=ps.length)
 (body:∀(aK:Value)(A:Around)(aq:List Env)(s:Shared)(H:Hp)(E:XK)(l:List Sh)(xs:List V)(ys:List V),dC k (A.deeper (envOfC x (ah st) s.heap.objs.size f aK))->dv K H l ys->R H l xs->
   Sn (bx P w K mg ae N x st f aK A aq s H E) (bL st) (start N ys) H xs):bU P w K mg ae x (k+1) R:=by
 refine⟨⟨f,fd,ps,F.ok Sc (λvs H Q E h=> ?_) (λaK A aq s H vs Q E hr h=> ?_),hm,F.kp,b⟩,up⟩
 ·obtain⟨l,z,os,hR,_⟩:=h
  rw[<-Ei os]
  exact len H l z hR
 ·obtain⟨l,z,os,hR,hQ⟩:=h
  exact⟨_,aD,body aK A aq s H E l z vs hr os hR H (au.refl _) _ λa H2 S2 n ov=>hQ a H2 S2 n ov⟩
end
section
variable{X:Cx}{a b c e:Expr}{es:List Expr}{bd rest:List Stmt}{σ aO:L2.St}{H H':Hp}{sh sh':Sh}{l:List Sh}{xs ys:List V}{pos pos':PySem.Pos}
theorem Nl.ex(h:Nl X e σ H xs):E X e σ H (.n xs):=λH1 S1 Q hQ=>h H1 S1 Q λa H2 S2 n ha=>hQ _ _ S2 ⟨a,rfl,ha⟩
theorem Nl.cast(h:Nl X e σ H xs)(q:xs=ys):Nl X e σ H ys:=q▸h
theorem Sn.cast(h:Sn X bd σ H xs)(q:xs=ys):Sn X bd σ H ys:=q▸h
theorem JF(h:A X es σ H (vs xs))(hz:xs.length<=sizeLine):Nl X (.List es pos) σ H xs:=λH1 S1 Q hQ=>
 aY (nD mQ) (h H1 S1 _ λys H2 S2 os=>by
  have e:=os.vs
  subst e
  exact⟨hz,λp hp=>hQ p _ (S2.trans (au.upd hp)) (S2.free hp) ak⟩)
theorem bZ{x:Str}{k j:Nat}{R:sE}{p:PySem.Pos}(C:bU X.prog X.w X.K X.mg X.ae x k R)(hr:dC j X.A)(hj:k<=j)(ha:A X (e::es) σ H l)(hP:R H l xs)(hg:Gl X x:=by rfl)(tK:(x==("__debug__":Str))=false:=by decide)
 (he:starEach (e::es) X.env=(false,eval e X.env)::starEach es X.env:=by rfl)(hpl:(backTo pos (starEach es X.env)).any (·.1)=false:=by rfl):Nl X (.Call (.Name x p) (e::es) [] pos) σ H xs:=λH1 S1 Q hQ=>by
 obtain⟨f,fd,ps,F,hm,hk,hb⟩:=C.ex
 refine aY (jr (E:=E0) F (hr.mono hj) hg hm hk hb .nil mN mQ tK he hpl) (ha H1 S1 _ λys H2 S2 os=> ?_)
 rw[List.append_nil]
 exact⟨l,xs,os,C.up _ _ _ _ (S1.trans S2) hP,λa H3 S3 n ha=>hQ a H3 (S2.trans S3) (S2.free n) ha⟩
theorem bj(h:Nl X e σ H xs):Sn X (.Return (some e) pos::rest) σ H xs:=λH1 S1 D hD=>cQ (aU (wR az) (lT (sts:=rest))) (h H1 S1 _ λa H2 S2 n ha=>hD a H2 S2 n ha)
theorem EC{k:Bool}(h:T X c σ H k)(h1:k=true->Sn X bd σ H xs)(h2:k=false->Sn X rest σ H xs):Sn X (.If c bd [] pos::rest) σ H xs:=λH1 S1 D hD=>
 cQ (aU (DQ il aD lS) aD) (h H1 S1 _ λH2 S2=>by
  cases k with
  |true=>exact h1 rfl H2 (S1.trans S2) _ λa H3 S3 n ha=>hD a H3 (S2.trans S3) (S2.free n) ha
  |false=>exact h2 rfl H2 (S1.trans S2) _ λa H3 S3 n ha=>hD a H3 (S2.trans S3) (S2.free n) ha)
theorem pK{i j:Int}(h:T X c σ H (decide (i=j)))(n:i≠j)(h':Sn X rest σ H xs):Sn X (.If c bd [] pos::rest) σ H xs:=EC h (λq=>absurd (of_decide_eq_true q) n) (λ_=>h')
theorem jP{i:Int}(h:T X c σ H (decide (i=i)))(h':Sn X bd σ H xs):Sn X (.If c bd [] pos::rest) σ H xs:=EC h (λ_=>h') (λq=>absurd rfl (of_decide_eq_false q))
theorem yj(i:Nat){x:Str}{y:V}(h:E X e σ H (.v y))(h':Sn X rest (σ.set i (some y)) H xs)(hN:X.N.Nodup)(hi:X.N[i]? =some x:=by rfl)(hx:Loc X.env.scope x:=by exact Or.inl rfl)
 (hs:swapsWith e (some (.Name x pos')) pos.line X.env=pure false:=by rfl)(hf:X.fn x=true\/X.env.scope.names.lookup x=some .local:=by first|exact .inl rfl|exact .inr rfl|assumption):Sn X (.Assign [.Name x pos'] e pos::rest) σ H xs:=λH1 S1 D hD=>
 cQ (aU (p5 hN hi hx az hs hf) aD) (h H1 S1 _ λv H2 S2 ov=>by
  have ev:v=y:=ov
  subst ev
  exact h' H2 (S1.trans S2) D λa H3 S3 n ha=>hD a H3 (S2.trans S3) (S2.free n) ha)
end
end Ev
namespace Mu
open PySem PySem.Spec PyProof.Rows L2 Ev
open Km383 (House Book Ans)
section
variable{P:Program}{w:World}{K:W.Frag}{mg:Str->Option Value}{ae:Heap}
theorem bU.ofD{x:Str}{i:Nat}{N ps:List Str}{k:Nat}{R:sE}(D:Dn K mg x i)(hb:∀(f:Addr)(fd:FuncData),jq K x x (top i) f fd->Binds K fd ps [])(Sc:ao N ps (ah (top i)))(up:R.Up)
 (body:∀(f:Addr)(aK:Value)(A:Around)(aq:List Env)(s:Shared)(H:Hp)(E:XK)(l:List Sh)(xs:List V)(ys:List V),dC k (A.deeper (envOfC x (ah (top i)) s.heap.objs.size f aK))->dv K H l ys->R H l xs->
   Sn (bx P w K mg ae N x (top i) f aK A aq s H E) (bL (top i)) (start N ys) H xs)(len:∀H l z,R H l z->l.length=ps.length:=by intro _ _ _ h;repeat (first| (rw[h.1];rfl)| (rw[h];rfl)| (obtain⟨_,h⟩:=h))):bU P w K mg ae x (k+1) R:=by
 obtain⟨f,fd,F,hm⟩:=D
 exact bU.of F hm (hb f fd F) Sc up len (body f)
def nk(K:W.Frag)(φ:Addr->Book->aQ->List Sh->List V->Prop):sE:=λH l z=>∃m b A,Rep K H m b A/\φ m b A l z
theorem nk.up{φ:Addr->Book->aQ->List Sh->List V->Prop}:(nk K φ).Up:=λ_ _ _ _ S ⟨m,b,A,R,h⟩=>⟨m,b,A,R.up S,h⟩
def y1(φ:List Sh->List V->Prop):sE:=λ_ l z=>φ l z
theorem y1.up{φ:List Sh->List V->Prop}:(y1 φ).Up:=λ_ _ _ _ _ h=>h
def Pq(φ:List Sh->Sh->Prop):Pre:=λ_ l z=>φ l z
theorem Pq.up{φ:List Sh->Sh->Prop}:(Pq φ).Up:=λ_ _ _ _ _ h=>h
def tV(a:Ans):List V:=(Km383Neutral.told a).map V.int
theorem Mt(v:Int):tV (Km383.only v)= [.int v]:=rfl
theorem CG(l:List Nat):tV (Km383.several l)= [.int (l.length:Nat),.int (Km383.bits l:Nat)]:=rfl
theorem JG(v:Int)(l:List Nat):tV ⟨v,l⟩=.int v::l.map nV:=by
 unfold tV Km383Neutral.told Km383Neutral.nums
 rw[List.map_cons,List.map_map]
 rfl
theorem gm{X:Cx}{c:Expr}{bd rest:List Stmt}{σ:L2.St}{H:Hp}{pos:PySem.Pos}{k:Bool}{C:Prop} [Decidable C]{v:Int}{r:Ans}(hT:T X c σ H k)(h1:Sn X bd σ H [.int v])(hk:k=true↔C)(h2:¬C->Sn X rest σ H (tV r)):
 Sn X (.If c bd [] pos::rest) σ H (tV (if C then Km383.only v else r)):=
 EC hT (λq=>Sn.cast h1 (by rw[if_pos (hk.mp q)];rfl)) (λq=>by
  have n:¬C:=λz=>by
   rw[hk.mpr z] at q
   cases q
  rw[if_neg n]
  exact h2 n)
end
theorem CH{n:Nat}(h:n<=1000):n<=sizeLine:=Nat.le_of_lt (cu h)
section
variable{P:Program}{w:World}{K:W.Frag}{mg:Str->Option Value}{ae:Heap}
theorem JH{h:House}(I:cj h){t d:Nat}(ht:t<h.things.length):(match h.where_ t d with|none=>Km383.only (-6)|some p=>Km383.only ((p:Nat):Int))=if d<(h.thing t).came then Km383.only (-6) else Km383.only (((h.where_ t d).getD 0:Nat):Int):=by
 by_cases q:d<(h.thing t).came
 ·rw[if_pos q,BJ I ht q]
 ·rw[if_neg q]
  obtain⟨p,e,_⟩:=jz I ht (Nat.not_lt.mp q)
  rw[e]
  rfl
def Ar(m:Addr)(b:Book)(A:aQ)(l:List Sh)(xs:List V):Prop:=∃t d:Nat,l= [.v (.ref m),.v (.int t),.v (.int d)]/\xs=tV (Km383.act b (.where_ t d)).2
theorem JJ:ao ["museum","thing","day"] ["museum","thing","day"] (ah (top 138)):=b5
theorem JK(D:Dn K mg "where" 138)(G:Gs mg)(aB:Cal P w K mg ae "has_thing" 1 (Rq K cw))(jQ:Cal P w K mg ae "place_on" 1 (Rq K rF)):bU P w K mg ae "where" 2 (nk K Ar):=by
 refine bU.ofD D mU JJ nk.up ?_
 rintro f aK A0 aq s H XE l xs ys hr os ⟨m,b,A,R,t,d,rfl,rfl⟩
 obtain rfl:=dv.vs (xs:= [.ref m,.int t,.int d]) os
 dsimp only[Km383.act]
 refine gm (cz (aI (call (aB.at hr) (a1 (nm 0) (a1 (nm 1) a0)) ⟨m,b,A,R,t,rfl,rfl⟩))) (bj (cx (G.k (i:= -2)))) (by simp) λn1=> ?_
 have ht:t<b.house.things.length:=by omega
 obtain⟨x,hx⟩:=R.sV ht
 refine gm (ai rS (nm 2) (fld (nm 0) R.dg)) (bj (cx (G.k (i:= -22)))) (by simp) λn2=> ?_
 refine Sn.cast ?_ (congrArg tV (JH R.inv ht).symm)
 refine gm (ai zT (nm 2) (fld (ix ((fld (nm 0) R.aX).lst (aF.of R.lt)) (nm 1) (wu hx)) (R.Ek hx))) (bj (cx (G.k (i:= -6)))) (by simp) λn3=> ?_
 exact bj (cx (call (jQ.at hr) (a1 (nm 0) (a1 (nm 1) (a1 (nm 2) a0))) ⟨m,b,A,R,t,d,rfl,ht,by omega,by omega,rfl⟩))
def ED(m:Addr)(b:Book)(A:aQ)(l:List Sh)(xs:List V):Prop:=∃t d:Nat,l= [.v (.ref m),.v (.int t),.v (.int d)]/\xs=tV (Km383.act b (.dose t d)).2
theorem Mw:ao ["museum","thing","day"] ["museum","thing","day"] (ah (top 139)):=b5
theorem Mx(D:Dn K mg "dose" 139)(G:Gs mg)(aB:Cal P w K mg ae "has_thing" 1 (Rq K cw))(aV:Cal P w K mg ae "light_to" 1 (Rq K eK)):bU P w K mg ae "dose" 2 (nk K ED):=by
 refine bU.ofD D mU Mw nk.up ?_
 rintro f aK A0 aq s H XE l xs ys hr os ⟨m,b,A,R,t,d,rfl,rfl⟩
 obtain rfl:=dv.vs (xs:= [.ref m,.int t,.int d]) os
 dsimp only[Km383.act]
 refine gm (cz (aI (call (aB.at hr) (a1 (nm 0) (a1 (nm 1) a0)) ⟨m,b,A,R,t,rfl,rfl⟩))) (bj (cx (G.k (i:= -2)))) (by simp) λn1=> ?_
 refine gm (ai rS (nm 2) (fld (nm 0) R.dg)) (bj (cx (G.k (i:= -22)))) (by simp) λn2=> ?_
 exact bj (cx (call (aV.at hr) (a1 (nm 0) (a1 (nm 1) (a1 (nm 2) a0))) ⟨m,b,A,R,t,d,rfl,by omega,by omega,rfl⟩))
theorem JL(h:House)(t:Nat):(match h.until_ t with|none=>Km383.only (-33)|some d=>Km383.only ((d:Nat):Int))=if (h.thing t).limit<h.dose t h.today then Km383.only (-33) else if h.lightOn (h.here t) h.today=0 then Km383.only 2000 else Km383.only ((min 2000 (h.today+((h.thing t).limit - h.dose t h.today) / h.lightOn (h.here t) h.today):Nat):Int):=by
 unfold House.until_
 dsimp only
 by_cases q:(h.thing t).limit<h.dose t h.today
 ·rw[if_pos q,if_pos q]
 ·rw[if_neg q,if_neg q]
  by_cases r:h.lightOn (h.here t) h.today=0
  ·rw[if_pos r,if_pos r]
   rfl
  ·rw[if_neg r,if_neg r]
   rfl
theorem CJ{h:House}(I:cj h){p d:Nat}(hp:p<h.places.length):h.lightOn p d<=10000:=by
 have o:=I.pl p _ (iX hp)
 unfold House.lightOn
 cases e:Km383.asOf (h.place p).light d with
 |none=>exact Nat.zero_le _
 |some v=>
  unfold Km383.asOf at e
  obtain⟨x,hx,hv⟩:=Option.map_eq_some_iff.mp e
  have mx:=List.mem_of_getLast? hx
  have:=(o.light.2 x (List.mem_filter.mp mx).1).2
  rw[hv] at this
  exact this
def As(m:Addr)(b:Book)(A:aQ)(l:List Sh)(xs:List V):Prop:=∃t:Nat,l= [.v (.ref m),.v (.int t)]/\xs=tV (Km383.act b (.until_ t)).2
theorem pL:ao ["museum","thing","kept","left","units"] ["museum","thing"] (ah (top 140)):=b5
theorem JM(D:Dn K mg "until" 140)(G:Gs mg)(aB:Cal P w K mg ae "has_thing" 1 (Rq K cw))(aV:Cal P w K mg ae "light_to" 1 (Rq K eK)):bU P w K mg ae "until" 2 (nk K As):=by
 refine bU.ofD D mH pL nk.up ?_
 rintro f aK A0 aq s H XE l xs ys hr os ⟨m,b,A,R,t,rfl,rfl⟩
 obtain rfl:=dv.vs (xs:= [.ref m,.int t]) os
 dsimp only[Km383.act]
 refine gm (cz (aI (call (aB.at hr) (a1 (nm 0) (a1 (nm 1) a0)) ⟨m,b,A,R,t,rfl,rfl⟩))) (bj (cx (G.k (i:= -2)))) (by simp) λn1=> ?_
 have ht:t<b.house.things.length:=by omega
 obtain⟨x,hx⟩:=R.sV ht
 have hp:=ie R.inv ht
 obtain⟨a,ha⟩:=R.xJ hp
 refine Sn.cast ?_ (congrArg tV (JL b.house t).symm)
 refine yj 2 (ix ((fld (nm 0) R.aX).lst (aF.of R.lt)) (nm 1) (wu hx)) ?_ pL.nd
 refine yj 3 (sub (fld (nm 2) (R.xI hx)) (call (aV.at hr) (a1 (nm 0) (a1 (nm 1) (a1 (fld (nm 0) R.dg) a0))) ⟨m,b,A,R,t,b.house.today,rfl,ht,Nat.le_refl _,rfl⟩)) ?_ pL.nd
 refine gm (ai zT (nm 3) int) (bj (cx (G.k (i:= -33)))) (by simp;omega) λn2=> ?_
 refine yj 4 (fld (ix ((fld (nm 0) R.dw).lst (aF.of R.lp)) (fld (nm 2) (R.gR hx)) (IV ha)) (R.BZ ha)) ?_ pL.nd
 refine gm (ai cg (nm 4) int) (bj (cx (G.k (i:=2000)))) (by simp) λn3=> ?_
 have u:=CJ R.inv (d:=b.house.today) hp
 refine bj (Nl.cast (cx (min2 (a1 (add (fld (nm 0) R.dg) (fdiv (i:=((b.house.thing t).limit:Nat) - (b.house.dose t b.house.today:Nat)) (j:=(b.house.lightOn (b.house.here t) b.house.today:Nat)) ⟨by omega,by omega⟩ (nm 3) (nm 4))) (a1 (G.k (i:=2000)) a0)) (G.b _ (by decide)))) ?_)
 rw[Mt]
 congr 2
 have e:(((b.house.thing t).limit:Nat):Int) - ((b.house.dose t b.house.today:Nat):Int)=(((b.house.thing t).limit - b.house.dose t b.house.today:Nat):Int):=by omega
 rw[e,<-Int.natCast_ediv]
 generalize ((b.house.thing t).limit - b.house.dose t b.house.today) / b.house.lightOn (b.house.here t) b.house.today=z
 split<;>omega
theorem qD(n:Nat)(p:Nat->Bool):Km383.bits ((List.range (n+1)).filter p)=Km383.bits ((List.range n).filter p)+(if p n=true then 2 ^ n else 0):=by
 rw[List.range_succ,cR]
 by_cases q:p n=true
 ·rw[if_pos q,if_pos q]
  unfold Km383.bits
  rw[List.foldl_append]
  rfl
 ·rw[if_neg q,if_neg q]
  rfl
theorem Au(n:Nat)(p:Nat->Bool):∀j:Nat,Km383.bits ((List.range (n+j)).filter λt=>decide (t<n)&&p t)=Km383.bits ((List.range n).filter p)
 | 0=>by
   congr 1
   apply List.filter_congr
   intro t ht
   have ht:t<n:=List.mem_range.mp ht
   rw[decide_eq_true ht]
   rfl
 |j+1=>by
  show Km383.bits ((List.range ((n+j)+1)).filter _)=_
  rw[qD,Au n p j,if_neg]
  ·rfl
  ·rw[decide_eq_false (by omega)]
   simp
theorem contains_filter(n:Nat)(p:Nat->Bool)(t:Nat):((List.range n).filter p).contains t=(decide (t<n)&&p t):=by
 rw[Bool.eq_iff_iff]
 simp
def uF(l:List Sh)(z:Sh):Prop:=∃(n:Nat)(p:Nat->Bool),l= [.l (((List.range n).filter p).map nV)]/\n<=24/\z=.v (.int ((Km383.bits ((List.range n).filter p):Nat):Int))
theorem eE:ao ["things","bits","bit","thing"] ["things"] (ah (top 141)):=b5
theorem CK(D:Dn K mg "bits_of" 141)(G:Gs mg):Cal P w K mg ae "bits_of" 1 (Pq uF):=by
 refine Cal.ofD D Bh eE Pq.up ?_
 rintro f aK A0 aq s H XE l z ys hr os ⟨n,p,rfl,hn,rfl⟩
 obtain⟨q,rfl,hq⟩:=mV (vs:= []) os
 refine gQ 1 int (gQ 2 int ?_ eE.nd) eE.nd
 intro H1 S1 D hD
 refine Ey 3 (n:=24) (G.k (i:=24)) (by decide) (λk aO H'=>∃y:Option V,aO= [some (.ref q),some (.int ((Km383.bits ((List.range k).filter λt=>decide (t<n)&&p t):Nat):Int)),some (.int ((2 ^ k:Nat):Int)),y]/\au H1 H'/\k<=24)
  (λH2 S2=>⟨none,rfl,S2,by decide⟩) (λk aO H' hk ⟨y,oj,S2,_⟩=> ?_) (λaO H' ⟨y,oj,S2,_⟩=> ?_) (G.b _ (by decide)) PassesOwn.never eE.nd
 ·subst oj
  have two:(2 ^ k:Nat)<=2 ^ 24:=Nat.pow_le_pow_right (by decide) (by omega)
  have Fm:aF K H' q (((List.range n).filter p).map nV):=(S1.trans S2).seq hq
  have pw:((2 ^ k:Nat):Int) * 2=((2 ^ (k+1):Nat):Int):=by rw[Nat.pow_succ];omega
  refine ph (T.cast (ai (Xu rfl (je _)) (nm 3) ((nm 0).lst Fm)) (by rw[jD,contains_filter])) (λLv H3 S3=> ?_) (λLv H3 S3=> ?_)
  ·refine dH 1 (add (nm 1) (nm 2)) (λH4 S4=>dB ?_) eE.nd
   refine dH 2 (E.cast (mul (.inr ⟨by decide,by decide⟩) (nm 2) int) (by rw[pw])) (λH5 S5=>dB ⟨some (.int (k:Nat)),?_,((S2.trans S3).trans S4).trans S5,by omega⟩) eE.nd
   rw[qD,if_pos Lv]
   rfl
  ·refine dH 2 (E.cast (mul (.inr ⟨by decide,by decide⟩) (nm 2) int) (by rw[pw])) (λH5 S5=>dB ⟨some (.int (k:Nat)),?_,(S2.trans S3).trans S5,by omega⟩) eE.nd
   rw[qD,if_neg (by rw[Lv];simp)]
   rfl
 ·subst oj
  refine cB (nm 1) λH3 S3=>hD _ H3 (S2.trans S3) ?_
  show V.int _=V.int _
  rw[show(24:Nat)=n+(24 - n) by omega,Au]
def gW(l:List Sh)(xs:List V):Prop:=∃(n:Nat)(p:Nat->Bool),l= [.l (((List.range n).filter p).map nV)]/\n<=24/\xs=tV (Km383.several ((List.range n).filter p))
theorem CL:ao ["things"] ["things"] (ah (top 142)):=b5
theorem CN(D:Dn K mg "counted" 142)(G:Gs mg)(mq:Cal P w K mg ae "bits_of" 1 (Pq uF)):bU P w K mg ae "counted" 2 (y1 gW):=by
 refine bU.ofD D Bh CL y1.up ?_
 rintro f aK A0 aq s H XE l xs ys hr os ⟨n,p,rfl,hn,rfl⟩
 obtain⟨q,rfl,hq⟩:=mV (vs:= []) os
 refine bj (Nl.cast (JF (xs:= [.int ((((List.range n).filter p).map nV).length:Nat),.int ((Km383.bits ((List.range n).filter p):Nat):Int)]) (a1 (len (a1 ((nm 0).lst hq) a0) (G.b _ (by decide))) (a1 (call (mq.at hr) (a1 ((nm 0).lst hq) a0) ⟨n,p,rfl,hn,rfl⟩) a0)) (by show 2<=sizeLine;decide)) ?_)
 rw[CG,List.length_map]
def wC(m:Addr)(b:Book)(A:aQ)(l:List Sh)(xs:List V):Prop:=∃p:Nat,l= [.v (.ref m),.v (.int p)]/\xs=tV (Km383.act b (.inside p)).2
theorem wD:ao ["museum","place","thing","kept"] ["museum","place"] (ah (top 143)):=b5
theorem Gq(D:Dn K mg "inside" 143)(G:Gs mg)(aA:Cal P w K mg ae "has_place" 1 (Rq K b9))(dr:Cal P w K mg ae "is_within" 1 (Rq K jI))(bQ:bU P w K mg ae "counted" 2 (y1 gW)):bU P w K mg ae "inside" 3 (nk K wC):=by
 refine bU.ofD D mH wD nk.up ?_
 rintro f aK A0 aq s H XE l xs ys hr os ⟨m,b,A,R,p,rfl,rfl⟩
 obtain rfl:=dv.vs (xs:= [.ref m,.int p]) os
 dsimp only[Km383.act]
 refine gm (cz (aI (call (aA.at hr) (a1 (nm 0) (a1 (nm 1) a0)) ⟨m,b,A,R,p,rfl,rfl⟩))) (bj (cx (G.k (i:= -2)))) (by simp) λn1=> ?_
 refine bj (bZ bQ hr (by decide) (a1 (E.cast (Y7 2 3 (λa=>b.house.inside (b.house.here a.2) p) (λa=>nV a.2) ((fld (nm 0) R.aX).lst (aF.of R.lt)) (by decide) (λy k hy s1 H0 C cl fp=>by
  obtain⟨x,hx,rfl⟩:=R.Qp hy
  have ht:k<b.house.things.length:=by rw[<-R.nt];exact(List.getElem?_eq_some_iff.mp hx).1
  exact jB (aI (call (dr.at hr) (a1 (nm 0) (a1 (fld (nm 3) (R.gR hx)) (a1 (nm 1) a0))) ⟨m,b,A,R,b.house.here k,p,rfl,ie R.inv ht,rfl⟩))) (λy k hy _ s1 H0 C cl fp=>nm 2) (by rw[R.B1];exact big R.inv.nt (by decide)) (G.b _ (by decide)) wD.nd) ?_).rd a0) ⟨b.house.things.length,λt=>b.house.inside (b.house.here t) p,rfl,R.inv.nt,rfl⟩)
 rw[t5 _ (λt=>b.house.inside (b.house.here t) p) nV,R.B1]
def lateNow(h:House)(t:Nat):Bool:=match (h.thing t).back with
 |none=>false
 |some v=>decide (v<h.today)
def nq(m:Addr)(b:Book)(A:aQ)(l:List Sh)(z:Sh):Prop:=∃t:Nat,l= [.v (.ref m),.v (.int t)]/\t<b.house.things.length/\z=.v (.bl (lateNow b.house t))
theorem vw:ao ["museum","thing"] ["museum","thing"] (ah (top 144)):=b5
theorem vx(D:Dn K mg "is_overdue" 144)(G:Gs mg)(aJ:Cal P w K mg ae "is_lent" 1 (Rq K dN)):Cal P w K mg ae "is_overdue" 2 (Rq K nq):=by
 refine Cal.ofD D mH vw Rq.up ?_
 rintro f aK A0 aq s H XE l z ys hr os ⟨m,b,A,R,t,rfl,ht,rfl⟩
 obtain rfl:=dv.vs (xs:= [.ref m,.int t]) os
 obtain⟨x,hx⟩:=R.sV ht
 refine Ev.S.cast (aw (ka (m:=decide (((b.house.thing t).back.getD 0:Nat)<(b.house.today:Int))) (call (aJ.at hr) (a1 (nm 0) (a1 (nm 1) a0)) ⟨m,b,A,R,t,rfl,ht,rfl⟩) λq=>iq (cI zT (E.cast (fld (ix ((fld (nm 0) R.aX).lst (aF.of R.lt)) (nm 1) (wu hx)) (R.IU hx)) (wy q)) (fld (nm 0) R.dg)))) ?_
 unfold lateNow
 congr 2
 cases(b.house.thing t).back with
 |none=>rfl
 |some v=>
  show(true&&decide ((v:Int)<(b.house.today:Int)))=decide (v<b.house.today)
  rw[Bool.true_and]
  exact decide_eq_decide.mpr (by omega)
def uG(m:Addr)(b:Book)(A:aQ)(l:List Sh)(xs:List V):Prop:=l= [.v (.ref m)]/\xs=tV (Km383.act b .overdue).2
theorem uH:ao ["museum","thing"] ["museum"] (ah (top 145)):=b5
theorem CQ(D:Dn K mg "overdue" 145)(G:Gs mg)(gI:Cal P w K mg ae "is_overdue" 2 (Rq K nq))(bQ:bU P w K mg ae "counted" 2 (y1 gW)):bU P w K mg ae "overdue" 3 (nk K uG):=by
 refine bU.ofD D Bh uH nk.up ?_
 rintro f aK A0 aq s H XE l xs ys hr os ⟨m,b,A,R,rfl,rfl⟩
 obtain rfl:=dv.vs (xs:= [.ref m]) os
 have hl:((A.ta.map λx=>V.ref x.1).length:Nat)=b.house.things.length:=R.B1
 have FN:=R.inv.nt
 refine bj (bZ bQ hr (by decide) (a1 (X1 1 (n:=b.house.things.length) (lateNow b.house) nV (E.cast (len (a1 ((fld (nm 0) R.aX).lst (aF.of R.lt)) a0) (G.b _ (by decide))) (by rw[hl])) (by omega) (λk hk s1 H0 C cl fp=>jB (aI (call (gI.at hr) (a1 (nm 0) (a1 (nm 1) a0)) ⟨m,b,A,R,k,rfl,hk,rfl⟩))) (λk hk _ s1 H0 C cl fp=>nm 1) (G.b _ (by decide)) uH.nd).rd a0) ⟨b.house.things.length,lateNow b.house,rfl,R.inv.nt,rfl⟩)
def fv(m:Addr)(b:Book)(A:aQ)(l:List Sh)(z:Sh):Prop:=∃t:Nat,l= [.v (.ref m),.v (.int t)]/\t<b.house.things.length/\z=.v (.bl (decide ((b.house.thing t).limit<b.house.dose t b.house.today)))
theorem kK:ao ["museum","thing"] ["museum","thing"] (ah (top 146)):=b5
theorem kL(D:Dn K mg "has_too_much_light" 146)(G:Gs mg)(aV:Cal P w K mg ae "light_to" 1 (Rq K eK)):Cal P w K mg ae "has_too_much_light" 2 (Rq K fv):=by
 refine Cal.ofD D mH kK Rq.up ?_
 rintro f aK A0 aq s H XE l z ys hr os ⟨m,b,A,R,t,rfl,ht,rfl⟩
 obtain rfl:=dv.vs (xs:= [.ref m,.int t]) os
 obtain⟨x,hx⟩:=R.sV ht
 refine Ev.S.cast (aw (cI rS (call (aV.at hr) (a1 (nm 0) (a1 (nm 1) (a1 (fld (nm 0) R.dg) a0))) ⟨m,b,A,R,t,_,rfl,ht,Nat.le_refl _,rfl⟩) (fld (ix ((fld (nm 0) R.aX).lst (aF.of R.lt)) (nm 1) (wu hx)) (R.xI hx)))) ?_
 congr 2
 exact decide_eq_decide.mpr (by omega)
def yk(h:House)(t:Nat):Bool:=(h.place (h.here t)).kind==1&&(decide (3<=(h.thing t).harm)||decide ((h.thing t).limit<h.dose t h.today))
def uI(m:Addr)(b:Book)(A:aQ)(l:List Sh)(z:Sh):Prop:=∃t:Nat,l= [.v (.ref m),.v (.int t)]/\t<b.house.things.length/\z=.v (.bl (yk b.house t))
theorem CV:ao ["museum","thing"] ["museum","thing"] (ah (top 147)):=b5
theorem CW(D:Dn K mg "must_go" 147)(G:Gs mg)(a9:Cal P w K mg ae "is_hall" 1 (Rq K fG))(a8:Cal P w K mg ae "is_harmed" 1 (Rq K eV))(cT:Cal P w K mg ae "has_too_much_light" 2 (Rq K fv)):Cal P w K mg ae "must_go" 3 (Rq K uI):=by
 refine Cal.ofD D mH CV Rq.up ?_
 rintro f aK A0 aq s H XE l z ys hr os ⟨m,b,A,R,t,rfl,ht,rfl⟩
 obtain rfl:=dv.vs (xs:= [.ref m,.int t]) os
 obtain⟨x,hx⟩:=R.sV ht
 refine Ev.S.cast (qW (cz (aI (call (a9.at hr) (a1 (nm 0) (a1 (fld (ix ((fld (nm 0) R.aX).lst (aF.of R.lt)) (nm 1) (wu hx)) (R.gR hx)) a0)) ⟨m,b,A,R,_,rfl,ie R.inv ht,rfl⟩))) (λ_=>aw bl) (λ_=>aw (L3 (call (a8.at hr) (a1 (nm 0) (a1 (nm 1) a0)) ⟨m,b,A,R,t,rfl,ht,rfl⟩) λ_=>iq (call (cT.at hr) (a1 (nm 0) (a1 (nm 1) a0)) ⟨m,b,A,R,t,rfl,ht,rfl⟩)))) ?_
 unfold yk
 rw[Bool.beq_eq_decide_eq]
 cases decide ((b.house.place (b.house.here t)).kind=1)<;>rfl
def EE(m:Addr)(b:Book)(A:aQ)(l:List Sh)(xs:List V):Prop:=l= [.v (.ref m)]/\xs=tV (Km383.act b .must).2
theorem EF:ao ["museum","thing"] ["museum"] (ah (top 148)):=b5
theorem My(D:Dn K mg "must" 148)(G:Gs mg)(mr:Cal P w K mg ae "must_go" 3 (Rq K uI))(bQ:bU P w K mg ae "counted" 2 (y1 gW)):bU P w K mg ae "must" 4 (nk K EE):=by
 refine bU.ofD D Bh EF nk.up ?_
 rintro f aK A0 aq s H XE l xs ys hr os ⟨m,b,A,R,rfl,rfl⟩
 obtain rfl:=dv.vs (xs:= [.ref m]) os
 have hl:((A.ta.map λx=>V.ref x.1).length:Nat)=b.house.things.length:=R.B1
 have FN:=R.inv.nt
 refine bj (bZ bQ hr (by decide) (a1 (X1 1 (n:=b.house.things.length) (yk b.house) nV (E.cast (len (a1 ((fld (nm 0) R.aX).lst (aF.of R.lt)) a0) (G.b _ (by decide))) (by rw[hl])) (by omega) (λk hk s1 H0 C cl fp=>jB (aI (call (mr.at hr) (a1 (nm 0) (a1 (nm 1) a0)) ⟨m,b,A,R,k,rfl,hk,rfl⟩))) (λk hk _ s1 H0 C cl fp=>nm 1) (G.b _ (by decide)) EF.nd).rd a0) ⟨b.house.things.length,yk b.house,rfl,R.inv.nt,rfl⟩)
def qE(l:List Sh)(xs:List V):Prop:=∃(ns:List Nat)(n:Nat),l= [.n (ns.map nV),.v (.int n)]/\ns.length<=n/\n<=1000/\xs=(Km383.fill n ns).map nV
theorem QB{H:Hp}{xs ys:List V}{a:V}(h:dv K H [.n xs,.v a] ys):∃p,ys= [.ref p,a]/\H p=some (.lst xs):=by
 cases h with
 |cons r t=>
  cases t with
  |cons r2 t=>
   cases t
   obtain⟨p,e,q⟩:=r
   have e1:_=a:=r2
   subst e1 e
   exact⟨p,rfl,q⟩
theorem Gr:ao ["numbers","length"] ["numbers","length"] (ah (top 150)):=b5
theorem Gu(D:Dn K mg "filled" 150)(G:Gs mg):bU P w K mg ae "filled" 1 (y1 qE):=by
 refine bU.ofD D mH Gr y1.up ?_
 rintro f aK A0 aq s H XE l xs ys hr os ⟨ns,n,rfl,hl,hn,rfl⟩
 obtain⟨q,rfl,hq⟩:=QB os
 have kJ:=sizeLine_eq
 refine bj (Nl.cast (yg (xs:=ns.map nV) (ys:=List.replicate (n - ns.length) (.int 0)) (by rw[List.length_map,List.length_replicate];omega) ((nm 0).own hq) (Jg (k:=n - ns.length) (cx int) (E.cast (sub (nm 1) (len (a1 ((nm 0).lst (aF.of hq)) a0) (G.b _ (by decide)))) (by rw[List.length_map];congr 2;omega)) (by omega)).ex) ?_)
 unfold Km383.fill
 rw[List.map_append,List.map_replicate]
 rfl
theorem JN(b:Book)(k:Nat):(match b.log.reverse[k]? with|none=>Km383.only (-2)|some d=>(⟨((b.log.length:Nat):Int),Km383.fill 13 (Km383.told d)⟩:Ans))=if b.log.length<=k then Km383.only (-2) else⟨((b.log.length:Nat):Int),Km383.fill 13 (Km383.told (b.log.reverse.getD k (.day 0)))⟩:=by
 by_cases q:b.log.length<=k
 ·rw[if_pos q,List.getElem?_eq_none (by rw[List.length_reverse];exact q)]
 ·rw[if_neg q,List.getD_eq_getElem?_getD,List.getElem?_eq_getElem (by rw[List.length_reverse];omega)]
  rfl
def Av(m:Addr)(b:Book)(A:aQ)(l:List Sh)(xs:List V):Prop:=∃k:Nat,l= [.v (.ref m),.v (.int k)]/\(∀d∈b.log,(Km383.told d).length<=13)/\xs=tV (Km383.act b (.entry k)).2
theorem JP:ao ["museum","k"] ["museum","k"] (ah (top 152)):=b5
theorem JQ(D:Dn K mg "entry" 152)(G:Gs mg)(f9:bU P w K mg ae "filled" 1 (y1 qE)):bU P w K mg ae "entry" 2 (nk K Av):=by
 refine bU.ofD D mH JP nk.up ?_
 rintro f aK A0 aq s H XE l xs ys hr os ⟨m,b,A,R,k,rfl,Qa,rfl⟩
 obtain rfl:=dv.vs (xs:= [.ref m,.int k]) os
 dsimp only[Km383.act]
 refine Sn.cast ?_ (congrArg tV (JN b k).symm)
 have kJ:=sizeLine_eq
 refine gm (ai RM (nm 1) (len (a1 ((fld (nm 0) R.jb).lst (aF.of R.le)) a0) (G.b _ (by decide)))) (bj (cx (G.k (i:= -2)))) (by rw[decide_eq_true_eq,List.length_map,R.ne];omega) λn1=> ?_
 have hk:k<A.ea.length:=by rw[R.ne];omega
 have ge:A.ea[k]? =some A.ea[k]:=List.getElem?_eq_getElem hk
 have hE:H A.ea[k]=some (.lst ((Km383.told (b.log.reverse.getD k (.day 0))).map nV)):=by
  obtain⟨C,T,RC⟩:=R.ex
  exact RC.ex (.en k) A.ea[k] ge
 have Zk:(Km383.told (b.log.reverse.getD k (.day 0))).length<=13:=by
  refine Qa _ ?_
  rw[List.getD_eq_getElem?_getD,List.getElem?_eq_getElem (by rw[List.length_reverse];omega)]
  exact List.mem_reverse.mp (List.getElem_mem _)
 refine bj (Nl.cast (yg (xs:= [.int ((b.log.length:Nat):Int)]) (ys:=(Km383.fill 13 (Km383.told (b.log.reverse.getD k (.day 0)))).map nV) (by rw[List.length_map,oP Zk];show 1+13<=_;omega) (cx (E.cast (len (a1 ((fld (nm 0) R.jb).lst (aF.of R.le)) a0) (G.b _ (by decide))) (by rw[List.length_map,R.ne]))).ex (bZ f9 hr (by decide) (a1 ((ix ((fld (nm 0) R.jb).lst (aF.of R.le)) (nm 1) (cZ (by rw[List.getElem?_map,ge];rfl))).own hE) (a1 (G.k (i:=13)) a0)) ⟨_,13,rfl,Zk,by decide,rfl⟩).ex) ?_)
 rw[JG]
 rfl
theorem JR{H:Hp}{m:Addr}{b:Book}{A:aQ}(R:Rep K H m b A):(live b A).length=(b.house.shows.filter Option.isSome).length:=by
 have e:=congrArg List.length R.El
 rw[List.length_map,List.length_map] at e
 rw[<-e]
 have q:A.sa.map Option.isSome=b.house.shows.map Option.isSome:=by
  obtain⟨C,T,RC⟩:=R.ex
  apply List.ext_getElem?
  intro i
  rw[List.getElem?_map,List.getElem?_map]
  by_cases h:i<A.sa.length
  ·have h2:i<b.house.shows.length:=by rw[<-RC.ns];exact h
   have s:=RC.so i
   rw[dX (List.getElem?_eq_getElem h),jx (List.getElem?_eq_getElem h2)] at s
   rw[List.getElem?_eq_getElem h,List.getElem?_eq_getElem h2]
   show some _=some _
   rw[s]
  ·rw[List.getElem?_eq_none (by omega),List.getElem?_eq_none (by rw[<-RC.ns];omega)]
   rfl
 have cf:∀{α:Type}(l:List (Option α)),(l.filter Option.isSome).length=(l.map Option.isSome).count true:=λl=>by
  rw[<-List.countP_eq_length_filter]
  unfold List.count
  rw[List.countP_map]
  apply List.countP_congr
  intro x _
  cases x<;>simp
 rw[cf,cf,q]
def Aw(m:Addr)(b:Book)(A:aQ)(l:List Sh)(xs:List V):Prop:=l= [.v (.ref m)]/\xs=tV (Km383.act b .state).2
theorem JS:ao ["museum"] ["museum"] (ah (top 153)):=b5
theorem JT(D:Dn K mg "state" 153)(G:Gs mg)(bV:Cal P w K mg ae "all_shows" 1 (Rq K gy)):bU P w K mg ae "state" 2 (nk K Aw):=by
 refine bU.ofD D Bh JS nk.up ?_
 rintro f aK A0 aq s H XE l xs ys hr os ⟨m,b,A,R,rfl,rfl⟩
 obtain rfl:=dv.vs (xs:= [.ref m]) os
 refine bj (Nl.cast (JF (xs:= [.int b.house.today,.int ((A.pa.map V.ref).length:Nat),.int ((A.ta.map λx=>V.ref x.1).length:Nat),.int (((live b A).map sW).length:Nat),.int ((A.ea.map V.ref).length:Nat)]) (a1 (fld (nm 0) R.dg) (a1 (len (a1 ((fld (nm 0) R.dw).lst (aF.of R.lp)) a0) (G.b _ (by decide))) (a1 (len (a1 ((fld (nm 0) R.aX).lst (aF.of R.lt)) a0) (G.b _ (by decide))) (a1 (len (a1 (call (bV.at hr) (a1 (nm 0) a0) ⟨m,b,A,R,rfl,rfl⟩).rd a0) (G.b _ (by decide))) (a1 (len (a1 ((fld (nm 0) R.jb).lst (aF.of R.le)) a0) (G.b _ (by decide))) a0))))) (by show 5<=sizeLine;decide)) ?_)
 rw[List.length_map,List.length_map,List.length_map,List.length_map,R.np,R.nt,R.ne,JR R]
 rfl
end
end Mu
namespace Ev
open PySem PySem.Spec PyProof.Rows L2 TL
def tS(t:List Nat):V:=.str ⟨t.toArray⟩
theorem QC{a b:List Nat}:tS a=tS b↔a=b:=⟨λh=>by
 have h:V.str ⟨a.toArray⟩=V.str ⟨b.toArray⟩:=h
 injection h with h
 injection h with h
 injection h,λh=>by rw[h]⟩
theorem JV{a b:List Nat}:decide (tS a=tS b)=decide (a=b):=decide_eq_decide.mpr QC
theorem fh(t:List Nat):(⟨t.toArray⟩:Str).length=t.length:=by show t.toArray.size=_;simp
theorem QD(a b:List Nat):G9 (tS a) (tS b)=(a==b):=by
 have:G9 (tS a) (tS b)=((⟨a.toArray⟩:Str)==⟨b.toArray⟩):=rfl
 rw[this,Bool.eq_iff_iff,beq_iff_eq,beq_iff_eq]
 constructor
 ·intro h
  injection h with h
  injection h
 ·intro h
  rw[h]
theorem CY(a:List Nat):∀l:List (List Nat),HF (tS a) (l.map tS)=l.contains a
 | []=>rfl
 |b::l=>by
  have ih:=CY a l
  unfold HF at ih ⊢
  rw[List.map_cons,List.any_cons,ih,QD,List.contains_cons]
  congr 1
  rw[Bool.eq_iff_iff,beq_iff_eq,beq_iff_eq]
  exact⟨λh=>h.symm,λh=>h.symm⟩
theorem EG(l:List (List Nat)):(l.map tS).all eG=true:=by
 rw[List.all_map,List.all_eq_true]
 intro _ _
 rfl
section
variable{X:Cx}{a b c e:Expr}{es:List Expr}{bd rest:List Stmt}{σ aO:L2.St}{H H':Hp}{sh sh':Sh}{l:List Sh}{xs ys:List V}{pos pos' apos p2:PySem.Pos}{s t:List Nat}
theorem di:Cm X .Eq H (.v (tS s)) (.v (tS t)) (decide (s=t)):=⟨_,NS,λ_ _ x y ox oy Q q=>by
 have ex:x=tS s:=ox
 have ey:y=tS t:=oy
 subst ex ey
 exact⟨rfl,by rw[JV];exact q⟩⟩
theorem X7:Cm X .NotEq H (.v (tS s)) (.v (tS t)) (!decide (s=t)):=⟨_,NT,λ_ _ x y ox oy Q q=>by
 have ex:x=tS s:=ox
 have ey:y=tS t:=oy
 subst ex ey
 exact⟨rfl,by rw[JV];exact q⟩⟩
theorem pM{l:List (List Nat)}:Cm X .In H (.v (tS s)) (.t (l.map tS)) (l.contains s):=⟨_,p7,λ_ _ y z oy ⟨p,ep,hp⟩ Q q=>by
 have ey:y=tS s:=oy
 subst ey
 exact⟨p,_,ep,.inr hp,rfl,EG l,by rw[CY];exact q⟩⟩
theorem JW{l:List (List Nat)}:Cm X .NotIn H (.v (tS s)) (.t (l.map tS)) (!l.contains s):=⟨_,oA,λ_ _ y z oy ⟨p,ep,hp⟩ Q q=>by
 have ey:y=tS s:=oy
 subst ey
 exact⟨p,_,ep,.inr hp,rfl,EG l,by rw[CY];exact q⟩⟩
theorem Mz{k:Nat}:Cm X .In H (.v (tS [k])) (.v (tS t)) (t.contains k):=⟨_,BF,λ_ _ x y ox oy Q q=>by
 have ex:x=tS [k]:=ox
 have ey:y=tS t:=oy
 subst ex ey
 refine⟨k,⟨t.toArray⟩,rfl,rfl,?_⟩
 have e:decide (k∈(⟨t.toArray⟩:Str).cps.toList)=t.contains k:=by
  show decide (k∈t.toArray.toList)=_
  rw[Bool.eq_iff_iff]
  simp
 rw[e]
 exact q⟩
theorem Gv{p:PySem.Pos}(ha:A X [e] σ H [.v (tS t)])(hz:t.length<=sizeLine)(hm:X.mg "len"=none)(hg:Gl X "len":=by rfl)(he:starEach [e] X.env=(false,eval e X.env)::starEach [] X.env:=by rfl):E X (.Call (.Name "len" p) [e] [] pos) σ H (.v (.int t.length)):=
 qV (l:= [.v (tS t)]) xc hm PySem.boot_len ha (λH2 _ ys os Q hQ=>by
  have e:=dv.vs (xs:= [tS t]) os
  subst e
  refine⟨⟨t.toArray⟩,rfl,by rw[fh];exact hz,?_⟩
  rw[fh]
  exact hQ _ _ (au.refl _) rfl) hg (he:=he) (hpl:=rfl)
theorem Sd{i k:Nat}(ha:E X a σ H (.v (tS t)))(hb:E X b σ H (.v (.int (i:Nat))))(hi:t[i]? =some k)(hz:t.length<=sizeLine)(hs:zf b:=by intro _ _;rfl):E X (.Subscript a b pos) σ H (.v (tS [k])):=
 KW (zg az az hs) ha hb λH2 _ x y ox oy Q hQ=>by
  have ex:x=tS t:=ox
  have ey:y=.int (i:Nat):=oy
  subst ex ey
  have hl:=(List.getElem?_eq_some_iff.mp hi).1
  have kJ:=sizeLine_eq
  refine⟨⟨t.toArray⟩,(i:Nat),k,rfl,rfl,by omega,by omega,by rw[fh];omega,?_,hQ _ _ (au.refl _) rfl⟩
  rw[Int.toNat_natCast]
  show t.toArray[i]? =some k
  rw[List.getElem?_toArray]
  exact hi
theorem QF(t:List Nat)(i j:Nat)(hj:j<=t.length):V.str (HW ⟨t.toArray⟩ (some (i:Int)) (some (j:Int)))=tS ((t.drop i).take (j - i)):=by
 unfold HW tS
 rw[fh,HT.sO,HT.sO,show min j t.length=j by omega]
 show V.str ⟨((t.toArray.toList.drop (min i t.length)).take (j - min i t.length)).toArray⟩=_
 by_cases h:i<=t.length
 ·rw[show min i t.length=i by omega]
 ·rw[show min i t.length=t.length by omega,show j - t.length=0 by omega,show j - i=0 by omega,List.take_zero,List.take_zero]
theorem slT{i j:Nat}{lo hi:Expr}(ha:E X a σ H (.v (tS t)))(hl:E X lo σ H (.v (.int (i:Nat))))(hh:E X hi σ H (.v (.int (j:Nat))))(hj:j<=t.length)(hz:t.length<=sizeLine):E X (.Subscript a (.Slice (some lo) (some hi) none p2) pos) σ H (.v (tS ((t.drop i).take (j - i)))):=λH1 S1 Q hQ=>
 aY (zk PQ az (sP az) (sP az)) (ha H1 S1 _ λv H2 S2 ov=>hl H2 (S1.trans S2) _ λw H3 S3 ow=>⟨(i:Nat),ow,hh H3 ((S1.trans S2).trans S3) _ λz H4 S4 oz=>⟨(j:Nat),oz,⟨t.toArray⟩,ov,by rw[fh];exact hz,by
  rw[QF t i j hj]
  exact hQ _ _ ((S2.trans S3).trans S4) rfl⟩⟩)
theorem CZ(hz:s.length+t.length<=sizeLine)(ha:E X a σ H (.v (tS s)))(hb:E X b σ H (.v (tS t))):E X (.BinOp a .Add b pos) σ H (.v (tS (s++t))):=
 KW (ot tJ az az) ha hb λH2 _ x y ox oy Q hQ=>by
  refine⟨⟨s.toArray⟩,⟨t.toArray⟩,ox,oy,by rw[fh,fh];exact hz,?_⟩
  have e:(⟨s.toArray⟩:Str)++⟨t.toArray⟩=⟨(s++t).toArray⟩:=BD (by rw[lV])
  rw[e]
  exact hQ _ _ (au.refl _) rfl
theorem JX(ha:E X a σ H (.v (tS t)))(cC:attributeBase a "isdigit" X.env (eval a X.env)=eval a X.env:=by rfl)(hline:(apos.endLine==pos.line)=true:=by rfl):E X (.Call (.Attribute a "isdigit" apos) [] [] pos) σ H (.v (.bl (Txt.isdigit ⟨t.toArray⟩))):=λH1 S1 Q hQ=>
 aY (T9 F.slot_str_isdigit F.type_str_isdigit BE az cC hline) (ha H1 S1 _ λv H2 S2 ov=>⟨⟨_,ov⟩,_,ov,rfl,trivial,hQ _ _ S2 rfl⟩)
theorem MA(ha:E X a σ H (.v (tS s)))(hb:E X b σ H (.v (tS t)))(hs:starEach [b] X.env= [(false,eval b X.env)]:=by rfl)(cC:attributeBase a "startswith" X.env (eval a X.env)=eval a X.env:=by rfl)(hline:(apos.endLine==pos.line)=true:=by rfl):E X (.Call (.Attribute a "startswith" apos) [b] [] pos) σ H (.v (.bl (Txt.startswith ⟨s.toArray⟩ ⟨t.toArray⟩))):=λH1 S1 Q hQ=>
 aY (N1 F.slot_str_startswith F.type_str_startswith vd az az hs cC hline) (ha H1 S1 _ λv H2 S2 ov=>⟨⟨_,ov⟩,hb H2 (S1.trans S2) _ λw H3 S3 ow=>⟨_,_,ov,by rw[show w=tS t from ow];rfl,hQ _ _ (S2.trans S3) rfl⟩⟩)
theorem Oh{ts:List (List Nat)}(ha:E X a σ H (.v (tS s)))(hb:E X b σ H (.l (ts.map tS)))(hz:(ts.map (·.length)).sum+ts.length * s.length<=16777216)(hs:starEach [b] X.env= [(false,eval b X.env)]:=by rfl)(cC:attributeBase a "join" X.env (eval a X.env)=eval a X.env:=by rfl)(hline:(apos.endLine==pos.line)=true:=by rfl):
 E X (.Call (.Attribute a "join" apos) [b] [] pos) σ H (.v (tS (kY s ts))):=λH1 S1 Q hQ=>
 aY (LK az az hs cC hline) (ha H1 S1 _ λv H2 S2 ov=>⟨⟨_,ov⟩,hb H2 (S1.trans S2) _ λw H3 S3 ⟨p,ew,hp⟩=>by
  have em:(ts.map λt=>(⟨t.toArray⟩:Str)).map V.str=ts.map tS:=by rw[List.map_map];rfl
  refine⟨⟨s.toArray⟩,p,ts.map λt=>⟨t.toArray⟩,ov,by rw[ew],.inl (by rw[em];exact hp),?_,?_⟩
  ·rw[List.map_map,List.length_map,fh]
   have e:(ts.map ((λx:Str=>x.length)∘λt=>(⟨t.toArray⟩:Str)))=ts.map (·.length):=List.map_congr_left λt _=>fh t
   rw[e]
   exact hz
  ·have e:Txt.join ⟨s.toArray⟩ (ts.map λt=>(⟨t.toArray⟩:Str))=⟨(kY s ts).toArray⟩:=by
    rw[join_eq]
    refine BD ?_
    rw[D2,List.map_map]
    show kY s (ts.map λt=>t)=kY s ts
    rw[List.map_id']
   rw[e]
   exact hQ _ _ (S2.trans S3) rfl⟩)
theorem Uy{k:Nat}{p:PySem.Pos}(ha:A X [e] σ H [.v (tS [k])])(hm:X.mg "ord"=none)(hg:Gl X "ord":=by rfl)(hv:bootBuiltins "ord"=some (.builtin "ord"):=by decide+kernel)(he:starEach [e] X.env=(false,eval e X.env)::starEach [] X.env:=by rfl):E X (.Call (.Name "ord" p) [e] [] pos) σ H (.v (.int (k:Nat))):=
 qV (l:= [.v (tS [k])]) Hv hm hv ha (λH2 _ ys os Q hQ=>by
  have e:=dv.vs (xs:= [tS [k]]) os
  subst e
  exact⟨⟨#[k]⟩,rfl,rfl,hQ _ _ (au.refl _) rfl⟩) hg (he:=he) (hpl:=rfl)
theorem Uz{n:Int}{p:PySem.Pos}(ha:A X [e] σ H [.v (tS t)])(hn:intText? ⟨t.toArray⟩=some n)(hl:t.length<=640)(hm:X.mg "int"=none)(hg:Gl X "int":=by rfl)(hv:bootBuiltins "int"=some (.type "int"):=by decide+kernel)(he:starEach [e] X.env=(false,eval e X.env)::starEach [] X.env:=by rfl)(hpl:(backTo pos (starEach [] X.env)).any (·.1)=false:=by rfl):E X (.Call (.Name "int" p) [e] [] pos) σ H (.v (.int n)):=λH1 S1 Q hQ=>
 aY (Fo xh hg hm hv mQ (he:=he) (hpl:=hpl)) (ha H1 S1 _ λys H2 S2 os=>by
  have e:=dv.vs (xs:= [tS t]) os
  subst e
  exact⟨⟨t.toArray⟩,n,rfl,hn,by rw[fh];exact hl,hQ _ _ S2 rfl⟩)
end
open PySem PySem.Spec PyProof.Rows L2 TL PyProof.V
def KDict(K:W.Frag)(a:Addr)(D:List (Str×Int)):Prop:=(a==sysModules)=false/\∃o es ep,K.lookup a=some o/\o.ExactDict/\o.data=.dict es ep/\KTD.Rows (λ(d:Int)(v:Value)=>∃t,v=.int d t) es.toList D
theorem KDict.tab{K:W.Frag}{a:Addr}{D:List (Str×Int)}{h:Heap}(T:KDict K a D)(hk:∀y ob,K.lookup y=some ob->h.get? y=some ob):KTD.TextTab h a (D.map λp=>(p.1,KTD.Dat.flat (.int p.2))):=by
 obtain⟨lo,o,es,ep,hl,hc,hd,hr⟩:=T
 exact⟨lo,o,es,ep,hk _ _ hl,hc,hd,hr.mono (R':=KTD.Dat.At h) (f:=λd=>KTD.Dat.flat (.int d)) λd v ⟨t,e⟩=>by rw[e];exact Flat.int d t⟩
theorem wF{D:List (Str×Int)}{k:Str}{n:Int}(h:KTD.datumAt k D=some n):KTD.datumAt k (D.map λp=>(p.1,KTD.Dat.flat (.int p.2)))=some (.flat (.int n)):=by
 induction D with
 |nil=>cases h
 |cons p D ih=>
  obtain⟨x,d⟩:=p
  show(if decide (k=x)=true then some _ else _)=_
  have h:(if decide (k=x)=true then some d else KTD.datumAt k D)=some n:=h
  by_cases q:decide (k=x)=true
  ·rw[if_pos q] at h ⊢
   cases h
   rfl
  ·rw[if_neg q] at h ⊢
   exact ih h
theorem kd_getItem{X:Cx}{ag:List (Addr×Obj)}{σ:L2.St}{H:Hp}{s:Shared}{a:Addr}{D:List (Str×Int)}{k:Str}{tk:Tok}{n:Int}{E:Value->Shared->Prop}{Q:Value->Shared->Prop}(I:Inv X ag σ H s)(T:KDict X.K a D)(hd:KTD.datumAt k D=some n)(h:∀t s',Inv X ag σ H s'->Q (.int n t) s'):
 s.TypeIs (.ref a) "dict"/\wpAny (model X.prog X.w) X.A (getItem (.ref a) (.str k tk)) Q E s:=by
 have TT:KTD.Here s.heap s.heap a (D.map λp=>(p.1,KTD.Dat.flat (.int p.2))):=⟨T.tab λy ob hy=>(I.bs y ob (I.ok.mod.Rz y ob hy)).1,λ_ _ h=>h⟩
 refine⟨TT.typeIs,?_⟩
 unfold getItem
 try with_reducible refine wpAny_holding ?_
 refine wpAny_bind (wpAny_sequenceKey TT.typeIs (by decide) ?_)
 refine wpAny_bind (wpAny_callSpecial?_slot (name:=Str.ofString "__getitem__") TT.typeIs PySem.F.slot_dict_getitem
  (wpAny_call_entry PySem.F.slot_dict_getitem TT.typeIs PySem.F.entry_dict_getitem ?_ (PySem.args_dict_getitem _ _)))
 show wpAny _ _ (dictGet a (.str k tk) >>= _) _ _ s
 refine wpAny_bind (KTD.dictGet_text TT (λd v ha hv=>wpAny_pure ⟨v,rfl,wpAny_pure ?_⟩) λhn=>by rw[wF hd] at hn;cases hn)
 rw[wF hd] at ha
 cases ha
 obtain⟨t,rfl⟩:=Flat.int_inv hv
 exact h t _ (I.tok _)
section
variable{X:Cx}{a b c e o i arg:Expr}{es:List Expr}{bd rest:List Stmt}{σ aO:L2.St}{H H':Hp}{sh sh':Sh}{l:List Sh}{xs ys:List V}{pos pos' apos p2:PySem.Pos}{s t:List Nat}{D:Ends}
theorem MB{td ty:TE}(ho:PE X o td)(hi:PE X i ty)(hs:LD i):PE X (.Subscript o i pos) (λσ H Q=>td σ H λx H1=>ty σ H1 λy H2=>∃a D k n,x=.ref a/\KDict X.K a D/\y=.str k/\KTD.datumAt k D=some n/\Q (.int n) H2):=by
 intro ag s σ H Q I h
 refine LG PySem.F.slot_dict_getitem.lookup hs (dJ (ho ag s σ H _ I h) λu s1 ⟨x,H1,I1,rx,q1⟩=>dJ (hi ag s1 σ H1 _ I1 q1) λiv s2 ⟨y,H2,I2,ry,a,D,k,n,ex,T,ey,hd,q2⟩=> ?_)
 subst ex ey
 obtain rfl:u=Value.ref a:=rx
 obtain⟨tk,rfl⟩:=ry
 exact kd_getItem I2 T hd λt s' I3=>⟨.int n,H2,I3,⟨t,rfl⟩,q2⟩
theorem QG{p:Addr}{D:List (Str×Int)}{n:Int}(ho:E X o σ H (.v (.ref p)))(T:KDict X.K p D)(hi:E X i σ H (.v (tS t)))(hd:KTD.datumAt ⟨t.toArray⟩ D=some n)(hs:LD i:=by intro _ _;rfl):E X (.Subscript o i pos) σ H (.v (.int n)):=λH1 S1 Q hQ=>
 aY (MB az az hs) (ho H1 S1 _ λv H2 S2 ov=>hi H2 (S1.trans S2) _ λw H3 S3 ow=>⟨p,D,_,n,ov,T,ow,hd,hQ _ _ (S2.trans S3) rfl⟩)
theorem QH{x:Str}{g:TG}{tt:TT}{te:TE}{vs:List Nat}{σ:L2.St}{H1:Hp}{D:Addr}{Qd:Hp->Prop}(Pv:Nat->Hp->Prop)(h0:Pv 0 (upd H1 D (.lst [])))
 (hs:∀i c H,x.cps[i]? =some c->Pv i H->g (.str ⟨#[c]⟩) (wipe σ vs) H λeQ H2=>wipe eQ vs=wipe σ vs/\tt eQ H2 λb H3=>
   if b=true then te eQ H3 λy H4=>∃acc,H4 D=some (.lst acc)/\acc.length<sizeLine/\Pv (i+1) (upd H4 D (.lst (acc++ [y]))) else Pv (i+1) H3)(hd:∀H,Pv x.cps.size H->Qd H):
 ∃W:Nat->Nat->Hp->Prop,(∃m,W 0 m (upd H1 D (.lst [])))/\∀i m H,W i m H->
  ((T5 x).stop i H/\Qd H)\/((T5 x).go i H/\∃Nx:Hp->Prop,(∀H',Nx H'->∃m',m'<m/\W (i+1) m' H')/\∀x' H',(T5 x).KP i H x' H'->g x' (wipe σ vs) H' λeQ H2=>wipe eQ vs=wipe σ vs/\tt eQ H2 λb H3=>
   if b=true then te eQ H3 λy H4=>∃acc,H4 D=some (.lst acc)/\acc.length<sizeLine/\Nx (upd H4 D (.lst (acc++ [y]))) else Nx H3):=by
 refine⟨λi m H=>m=x.cps.size - i/\i<=x.cps.size/\Pv i H,⟨x.cps.size,by simp,Nat.zero_le _,h0⟩,?_⟩
 rintro i m H ⟨rfl,hi,p⟩
 by_cases gJ:i<x.cps.size
 ·refine .inr ⟨gJ,Pv (i+1),λH' p'=>⟨x.cps.size - (i+1),by omega,rfl,gJ,p'⟩,λx' H' y=> ?_⟩
  obtain⟨e,c,hc,y⟩:=y
  subst e y
  exact hs i c _ hc p
 ·have e:i=x.cps.size:=by omega
  subst e
  exact .inl ⟨Nat.le_refl _,hd H p⟩
theorem JY{iter:Expr}(i:Nat)(f:Nat->V)(hl:E X iter σ H (.v (tS t)))(hz:t.length<sizeLine){H1:Hp}(S1:au H H1){Q:VK}(hQ:∀a H2,au H1 H2->H1 a=none->H2 a=some (.lst (t.map f))->Q (.ref a) H2):
 RL (T6 (se X iter)) (gn i) (KY t (λk=>tS [k]) σ i (λ_=>true) H) (KZ t (λk=>tS [k]) σ i (λ_=>true) f H) [i] σ H1 Q:=by
 refine hl H1 S1 _ λv H2 S2 ov=>⟨⟨t.toArray⟩,ov,λD hD=> ?_⟩
 refine QH (x:=⟨t.toArray⟩) (g:=gn i) (tt:=KY t (λk=>tS [k]) σ i (λ_=>true) H) (te:=KZ t (λk=>tS [k]) σ i (λ_=>true) f H) (vs:= [i]) (σ:=σ) (Qd:=λH'=>Q (.ref D) H') (λk H'=>au H2 H'/\H' D=some (.lst ((t.take k).map f))) ⟨au.upd hD,ak⟩ (λk c H' hk ⟨S3,hd⟩=> ?_) (λH' ⟨S3,hd⟩=> ?_)
 ·have hk:t[k]? =some c:=by
   have hk:t.toArray[k]? =some c:=hk
   rwa[List.getElem?_toArray] at hk
  have my:=List.mem_of_getElem? hk
  have gJ:=(List.getElem?_eq_some_iff.mp hk).1
  refine⟨?_,c,my,rfl,(S1.trans S2).trans S3,λH4 S4=> ?_⟩
  ·show wipe ((wipe σ [i]).set i (some (tS [c]))) [i]=wipe σ [i]
   simp[wipe]
  ·dsimp only
   rw[if_pos rfl]
   refine⟨c,my,rfl,rfl,((S1.trans S2).trans S3).trans S4,λH5 S5=>⟨_,S5 _ _ (S4 _ _ hd),?_,λb o e=> ?_,?_⟩⟩
   ·rw[List.length_map,List.length_take]
    omega
   ·rw[aj (aE e hD)]
    exact S5 _ _ (S4 _ _ (S3 _ _ e))
   ·rw[ak,cO hk,List.map_append]
    rfl
 ·have e:(⟨t.toArray⟩:Str).cps.size=t.length:=by show t.toArray.size=_;simp
  rw[e,List.take_length] at hd
  exact hQ D _ (S2.trans S3) (S2.free hD) hd
theorem Zm{elt iter:Expr}{scope:Scope}{mG:PySem.Pos}{x:Str}(i:Nat)(f:Nat->V)(hl:E X iter σ H (.v (tS t)))
 (he:∀k,k∈t->∀(s:Shared)(H0:Hp)(C:Addr)(cl:List (Str×Addr))(fp:List Addr),E (X.iN s H0 scope (compEnvC scope cl C X.env) fp) elt ((wipe σ [i]).set i (some (tS [k]))) H (.v (f k)))
 (hz:t.length<sizeLine)(hN:X.N.Nodup)(hi:X.N[i]? =some x:=by rfl)(hx:∀cl C,L2.Loc (compEnvC scope cl C X.env).scope x:=by exact λ_ _=>Or.inl rfl)(ok:mK X.N X.env.scope scope [(x,i)]:=by exact kX rfl)
 (hf:∀(s:Shared)(H0:Hp)(C:Addr)(cl:List (Str×Addr))(fp:List Addr),(X.iN s H0 scope (compEnvC scope cl C X.env) fp).fn x=true\/(X.iN s H0 scope (compEnvC scope cl C X.env) fp).env.scope.names.lookup x=some .local:=by exact λ_ _ _ _ _=>Or.inr rfl)
 (hc:X.calm=true:=by rfl)(hs:∀x,foldedSetIterable iter X.env x=pure x:=by intro _;rfl):
 Nl X (.ListComp elt [⟨.Name x mG,iter, [],0⟩] scope pos) σ H (t.map f):=λH1 S1 Q hQ=>by
 refine aY (D0 (own:= [(x,i)]) (tt:=KY t (λk=>tS [k]) σ i (λ_=>true) H) (te:=KZ t (λk=>tS [k]) σ i (λ_=>true) f H) hc hN (PN az) ok (λs H0 C cl fp=>fK (i:=i) hN hi (hx cl C) (hf s H0 C cl fp))
  (λs H0 C cl fp ag s1 τ H' Q' I ⟨y,hy,qk,SH,hq⟩=> ?_) (λs H0 C cl fp ag s1 τ H' Q' I ⟨y,hy,py,qk,SH,hq⟩=> ?_) hs) (JY i f hl hz S1 hQ)
 ·subst qk
  exact iQ H' SH _ (λH2 S2=>hq H2 S2) ag s1 I
 ·subst qk
  exact he y hy s H0 C cl fp H' SH _ (λv H2 S2 ov=>by
   have ev:v=f y:=ov
   subst ev
   exact hq H2 S2) ag s1 I
theorem QI{iter:Expr}(i:Nat){x:Str}{xs:List V}(F:Nat->L2.St)(h0:σ=F 0)(hl:E X iter σ H (.t xs))(ht:∀k y,xs[k]? =some y->B X bd ((F k).set i (some y)) H (F (k+1)))(h':S X rest (F xs.length) H sh)
 (hp:PassesOwn (model X.prog X.w) X.A X.env X.xe)(hN:X.N.Nodup)(hc:X.calm=true:=by rfl)(hi:X.N[i]? =some x:=by rfl)(hx:Loc X.env.scope x:=by exact Or.inl rfl)
 (hs:∀x,foldedSetIterable iter X.env x=pure x:=by intro _;rfl)(hf:X.fn x=true\/X.env.scope.names.lookup x=some .local:=by first|exact .inl rfl|exact .inr rfl|assumption):
 S X (.For (.Name x pos') iter bd [] pos::rest) σ H sh:=λH1 S1 D hD=>by
 subst h0
 refine cQ (aU (wU hp hc (O7 az) (fK hN hi hx hf) aD hs) aD) (hl H1 S1 _ λv H2 S2 ⟨p,ep,hq⟩=>⟨p,ep,⟨xs,hq⟩,?_⟩)
 refine K8 (K:=X.K) (a:=p) (xs:=xs) (λk τ H'=>τ=F k/\au H2 H') ⟨rfl,au.refl _⟩ (λk τ H' _ ⟨_,S3⟩=>au.tup S3 hq) (λk y τ H' hy ⟨qk,S3⟩=> ?_) (λτ H' ⟨qk,S3⟩=> ?_)
 ·subst qk
  exact ht k y hy H' ((S1.trans S2).trans S3) _ λH4 S4=>⟨rfl,S3.trans S4⟩
 ·subst qk
  exact h' H' ((S1.trans S2).trans S3) D λv H4 S4 ov=>hD v H4 ((S2.trans S3).trans S4) ov
theorem MD{xE:L2.St}(W:Nat->L2.St->Prop){n:Nat}(h0:W n σ)(ht:∀n aO,W n aO->∃k,T X c aO H k/\(k=true->∃eQ,B X bd aO H eQ/\∃n',n'<n/\W n' eQ)/\(k=false->B X rest aO H xE))
 (hp:PassesOwn (model X.prog X.w) X.A X.env X.xe):B X (.While c bd [] pos::rest) σ H xE:=λH1 S1 D hD=>
 mh (λn aO H'=>W n aO/\au H1 H') ⟨h0,au.refl _⟩ (λn aO H' ⟨w,S2⟩=>by
  obtain⟨k,hT,h1,h2⟩:=ht n aO w
  refine⟨k,hT.up (S1.trans S2),λhk H3 S3=> ?_,λhk H3 S3=> ?_⟩
  ·obtain⟨eQ,hB,n',hn,w'⟩:=h1 hk
   exact hB H3 ((S1.trans S2).trans S3) _ λH4 S4=>⟨n',hn,w',(S2.trans S3).trans S4⟩
  ·exact h2 hk H3 ((S1.trans S2).trans S3) D λH4 S4=>hD H4 ((S2.trans S3).trans S4)) hp
theorem QJ{ns:List Nat}{n j:Nat}(ho:E X o σ H (.l (ns.map λ(k:Nat)=>V.int k)))(ha:E X arg σ H (.v (.int (n:Nat))))(hj:ns.idxOf? n=some j)
 (cC:attributeBase o "index" X.env (eval o X.env)=eval o X.env:=by rfl)
 (nE:((backTo pos' (starEach [arg] X.env)).all (λx=> !x.1)&&(backToKw pos' (keywordEach [] X.env)).all (λx=>x.1.isSome)
   &&decide ([arg].length+([]:List Keyword).length+(if ([]:List Keyword).isEmpty then 0 else 1)<30))=true:=by rfl)
 (hline:(apos.endLine==pos'.line)=true:=by rfl)(hU:starEach [arg] X.env=(false,eval arg X.env)::starEach [] X.env:=by rfl):
 E X (.Call (.Attribute o "index" apos) [arg] [] pos') σ H (.v (.int (j:Nat))):=λH1 S1 Q hQ=>
 aY (zm PySem.F.plainAttrs_list PySem.F.slot_list_index PySem.F.type_list_index HL az (bJ az du hU) cC nE hline hU rfl)
  (ho H1 S1 _ λv H2 S2 ⟨p,ev,hp⟩=>by
    subst ev
    refine⟨.inl ⟨rfl,_,hp⟩,ha H2 (S1.trans S2) _ λw H3 S3 ow=> ?_⟩
    have ew:w=.int (n:Nat):=ow
    subst ew
    have hf:=List.findIdx?_eq_some_iff_getElem.mp hj
    obtain⟨gJ,h1,h2⟩:=hf
    refine⟨p,_,.int (n:Nat),j,.int (ns[j]:Nat),rfl,rfl,S3.seq hp,rfl,?_,?_,?_,?_,hQ _ _ (S2.trans S3) rfl⟩
    ·rw[List.all_map,List.all_eq_true]
     intro _ _
     rfl
    ·rw[List.getElem?_map,List.getElem?_eq_getElem gJ]
     rfl
    ·have e:ns[j]=n:=eq_of_beq h1
     rw[e]
     show((n:Int)==(n:Int))=true
     simp
    ·intro m z' hm hz
     rw[List.getElem?_map,List.getElem?_eq_getElem (by omega)] at hz
     have e:V.int (ns[m]:Nat)=z':=Option.some.inj hz
     subst e
     have h3:=h2 m hm
     show(((ns[m]:Nat):Int)==(n:Int))=false
     have:ns[m]≠n:=by simpa using h3
     simp
     omega)
theorem lI{l:Addr}{Q:VK}{ys:List V}{y:V}(ho:E X o σ H (.v (.ref l)))(hl:H l=some (.lst (ys++ [y])))(hQ:∀H1,au H H1->Q y (upd H1 l (.lst ys)))
 (cC:attributeBase o "pop" X.env (eval o X.env)=eval o X.env:=by rfl)(hline:(apos.endLine==pos'.line)=true:=by rfl):se X (.Call (.Attribute o "pop" apos) [] [] pos') σ H Q:=
 aY (Pu PySem.F.plainAttrs_list PySem.F.slot_list_pop PySem.F.type_list_pop Px az cC hline)
  (ho H (au.refl _) _ λv H1 S1 ov=>by
    have ev:v=.ref l:=ov
    subst ev
    refine⟨.inl ⟨rfl,_,aF.of (S1 _ _ hl)⟩,l,ys++ [y],y,rfl,rfl,S1 _ _ hl,?_,?_⟩
    ·rw[List.length_append]
     show(ys++ [y])[ys.length+1 - 1]? =some y
     simp
    ·rw[List.dropLast_concat]
     exact hQ H1 S1)
end
end Ev
namespace Mu
open PySem PySem.Spec PyProof.Rows L2 Ev
open Km383 (House Book Ans)
def uJ:List (Str×List Nat):= [(("NOT":Str), [110,111,116]),(("AND":Str), [97,110,100]),(("OR":Str), [111,114]),(("OPENING":Str), [40]),(("CLOSING":Str), [41]),(("ALL":Str), [97,108,108]),(("LENT":Str), [108,101,110,116]),(("SHOWN":Str), [115,104,111,119,110]),(("IN":Str), [105,110]),(("LIGHT_grammar":Str), [108,105,103,104,116]),(("LIMIT":Str), [108,105,109,105,116]),(("MATERIAL":Str), [109,97,116,101,114,105,97,108]),(("HARM_grammar":Str), [104,97,114,109]),(("CAME":Str), [99,97,109,101]),(("LESS":Str), [60]),(("SAME":Str), [61]),(("MORE":Str), [62]),(("LETTERS":Str), [97,98,99,100,101,102,103,104,105,106,107,108,109,110,111,112,113,114,115,116,117,118,119,120,121,122]),(("DIGITS":Str), [48,49,50,51,52,53,54,55,56,57]),(("BLANK":Str), [32]),(("KNOWN":Str), [97,98,99,100,101,102,103,104,105,106,107,108,109,110,111,112,113,114,115,116,117,118,119,120,121,122,48,49,50,51,52,53,54,55,56,57,40,41,60,61,62,32])]
def Ax:List (Str×Int):= [(⟨#[40]⟩,0),(⟨#[111,114]⟩,1),(⟨#[97,110,100]⟩,2),(⟨#[110,111,116]⟩,3)]
structure Gt(K:W.Frag)(mg:Str->Option Value):Prop where
 c:∀x s,uJ.lookup x=some s->∃t,mg x=some (.str ⟨s.toArray⟩ t)
 ord:mg "ord"=none
 int:mg "int"=none
 bind:∃a,mg "BINDING"=some (.ref a)/\KDict K a Ax
theorem Gt.s{K:W.Frag}{X:Cx}(G:Gt K X.mg){x:Str}{t:List Nat}{σ:L2.St}{H:Hp}{pos:PySem.Pos}(h:uJ.lookup x=some t:=by rfl)(hg:Gl X x:=by rfl)(hd:(x==("__debug__":Str))=false:=by decide):E X (.Name x pos) σ H (.v (tS t)):=by
 obtain⟨u,e⟩:=G.c x t h
 exact gl e ⟨u,rfl⟩ hg hd
theorem MF{t:List Nat}(h:t= [40]\/t=Km383.wOr\/t=Km383.wAnd\/t=Km383.wNot):KTD.datumAt (⟨t.toArray⟩:Str) Ax=some ((bp t:Nat):Int):=by
 rcases h with rfl|rfl|rfl|rfl<;>decide
theorem Gt.b{X:Cx}(G:Gt X.K X.mg){i:Expr}{t:List Nat}{σ:L2.St}{H:Hp}{pos pos':PySem.Pos}(hi:E X i σ H (.v (tS t)))(h:t= [40]\/t=Km383.wOr\/t=Km383.wAnd\/t=Km383.wNot)(hg:Gl X "BINDING":=by rfl)(hs:LD i:=by intro _ _;rfl):E X (.Subscript (.Name "BINDING" pos') i pos) σ H (.v (.int ((bp t:Nat):Int))):=by
 obtain⟨a,e,T⟩:=G.bind
 exact QG (gl (y:=.ref a) e rfl hg) T hi (MF h) hs
theorem yl{X:Cx}{σ:L2.St}{H:Hp}{pos:PySem.Pos}{j:Nat}{x:Str}{t:List Nat}(h:x=⟨t.toArray⟩:=by decide):E X (.Constant (.str x) j pos) σ H (.v (tS t)):=E.cast str (by rw[h];rfl)
theorem wG:∀k,k<128->Unicode.isDigit k=Km383.isDigit k:=by decide+kernel
theorem C0{t:List Nat}(h:∀k∈t,k<128):Txt.isdigit ⟨t.toArray⟩=(decide (1<=t.length)&&t.all Km383.isDigit):=by
 unfold Txt.isdigit
 rw[fh]
 congr 1
 show t.toArray.all Unicode.isDigit=_
 rw[List.all_toArray,Bool.eq_iff_iff,List.all_eq_true,List.all_eq_true]
 exact⟨λz k hk=>by rw[<-wG k (h k hk)];exact z k hk,λz k hk=>by rw[wG k (h k hk)];exact z k hk⟩
theorem Gw(t:List Nat):Txt.startswith ⟨t.toArray⟩ ⟨[48].toArray⟩=(t.headD 0==48):=by
 rw[Bool.eq_iff_iff]
 unfold Txt.startswith
 rw[Bool.and_eq_true,decide_eq_true_eq]
 refine(PySem.StrLaws.subAt_one ⟨t.toArray⟩ 48 0).trans ?_
 show t.toArray.toList[0]? =some 48↔_
 cases t with
 |nil=>simp
 |cons a t=>simp
section
variable{P:Program}{w:World}{K:W.Frag}{mg:Str->Option Value}{ae:Heap}
def ascii(t:List Nat):Prop:=∀k∈t,k<128
def pN(l:List Sh)(z:Sh):Prop:=∃t:List Nat,l= [.v (tS t)]/\ascii t/\t.length<=1000/\z=.v (.bl (isNum t))
theorem ym:ao ["part"] ["part"] (ah (top 57)):=b5
theorem yn(D:Dn K mg "is_number" 57)(G:Gs mg):Cal P w K mg ae "is_number" 1 (Pq pN):=by
 refine Cal.ofD D Bh ym Pq.up ?_
 rintro f aK A0 aq s H XE l z ys hr os ⟨t,rfl,ha,hl,rfl⟩
 obtain rfl:=dv.vs (xs:= [tS t]) os
 refine Ev.S.cast (aw (ka (JX (nm 0)) λ_=>ka (cI N4 (Gv (a1 (nm 0) a0) (CH hl) (G.b _ (by decide))) (G.k (i:=7))) λ_=>iq (L3 (cI di (nm 0) (yl (t:= [48]))) λ_=>iq (Ui (MA (nm 0) (yl (t:= [48]))))))) ?_
 rw[C0 ha,Gw]
 congr 2
 unfold isNum
 congr 2
 ·exact decide_eq_decide.mpr (by omega)
 ·rw[Bool.beq_eq_decide_eq,Bool.beq_eq_decide_eq]
def lJ(l:List Sh)(z:Sh):Prop:=∃t:List Nat,l= [.v (tS t)]/\z=.v (.bl (isField t))
theorem Ay:ao ["part"] ["part"] (ah (top 58)):=b5
theorem Az(D:Dn K mg "is_field" 58)(Gt:Gt K mg):Cal P w K mg ae "is_field" 1 (Pq lJ):=by
 refine Cal.ofD D Bh Ay Pq.up ?_
 rintro f aK A0 aq s H XE l z ys hr os ⟨t,rfl,rfl⟩
 obtain rfl:=dv.vs (xs:= [tS t]) os
 exact aw (cI (pM (l:=Km383.wFields)) (nm 0) (tup (xs:=Km383.wFields.map tS) (a1 Gt.s (a1 Gt.s (a1 Gt.s (a1 Gt.s (a1 Gt.s a0))))) (by show 5<=sizeLine;decide)))
def kD(l:List Sh)(z:Sh):Prop:=∃t:List Nat,l= [.v (tS t)]/\z=.v (.int ((aG t:Nat):Int))
theorem sF:ao ["part"] ["part"] (ah (top 59)):=b5
theorem sG(D:Dn K mg "claim_length" 59)(Gt:Gt K mg)(dO:Cal P w K mg ae "is_field" 1 (Pq lJ)):Cal P w K mg ae "claim_length" 2 (Pq kD):=by
 refine Cal.ofD D Bh sF Pq.up ?_
 rintro f aK A0 aq s H XE l z ys hr os ⟨t,rfl,rfl⟩
 obtain rfl:=dv.vs (xs:= [tS t]) os
 refine Ev.S.cast (qW (ai (pM (l:=ck)) (nm 0) (tup (xs:=ck.map tS) (a1 Gt.s (a1 Gt.s (a1 Gt.s a0))) (by show 3<=sizeLine;decide))) (λ_=>aw int) (λ_=>qW (ai di (nm 0) (Gt.s (t:=Km383.wIn))) (λ_=>aw int) (λ_=>qW (aI (call (dO.at hr) (a1 (nm 0) a0) ⟨t,rfl,rfl⟩)) (λ_=>aw int) (λ_=>aw int)))) ?_
 unfold aG
 cases ck.contains t with
 |true=>rfl
 |false=>
  show(bif decide (t=Km383.wIn) then _ else _)=_
  by_cases q:t=Km383.wIn
  ·rw[decide_eq_true q,if_neg (by simp),if_pos q]
   rfl
  ·rw[decide_eq_false q,if_neg (by simp),if_neg q]
   cases isField t<;>rfl
def rH(l:List Sh)(z:Sh):Prop:=∃ts:List (List Nat),l= [.l (ts.map tS)]/\(∀t∈ts,ascii t/\t.length<=1000)/\ts.length<=3/\z=.v (.bl (bh ts))
theorem AA:ao ["parts"] ["parts"] (ah (top 60)):=b5
theorem AB(D:Dn K mg "is_claim" 60)(G:Gs mg)(Gt:Gt K mg)(dO:Cal P w K mg ae "is_field" 1 (Pq lJ))(gf:Cal P w K mg ae "is_number" 1 (Pq pN)):Cal P w K mg ae "is_claim" 2 (Pq rH):=by
 refine Cal.ofD D Bh AA Pq.up ?_
 rintro f aK A0 aq s H XE l z ys hr os ⟨ts,rfl,Zn,hl,rfl⟩
 obtain⟨q,rfl,hq⟩:=mV (vs:= []) os
 have yo:∀{pos p:PySem.Pos}{q2:PySem.Pos}{n:Nat},ts.length=n->E (bx P w K mg ae ["parts"] "is_claim" (top 60) f aK A0 aq s H XE) (.Call (.Name "len" p) [.Name "parts" q2] [] pos) (start ["parts"] [.ref q]) H (.v (.int (n:Nat))):=λ{pos p q2 n} e=>E.cast (len (a1 ((nm 0).lst hq) a0) (G.b _ (by decide))) (by rw[List.length_map,e])
 cases ts with
 |nil=>
  refine jM (i:=0) (j:=1) (ai cg (yo rfl) int) (by decide) ?_
  refine jM (i:=0) (j:=2) (ai cg (yo rfl) int) (by decide) ?_
  refine jM (i:=0) (j:=3) (ai cg (yo rfl) int) (by decide) ?_
  exact aw bl
 |cons a ts=>
  cases ts with
  |nil=>
   refine gq (i:=1) (ai cg (yo rfl) int) ?_
   exact aw (cI (pM (l:=ck)) (ix ((nm 0).lst hq) int rfl) (tup (xs:=ck.map tS) (a1 Gt.s (a1 Gt.s (a1 Gt.s a0))) (by show 3<=sizeLine;decide)))
  |cons b ts=>
   cases ts with
   |nil=>
    refine jM (i:=2) (j:=1) (ai cg (yo rfl) int) (by decide) ?_
    refine gq (i:=2) (ai cg (yo rfl) int) ?_
    have hb:=Zn b (by simp)
    refine Ev.S.cast (aw (ka (cI di (ix ((nm 0).lst hq) int rfl) (Gt.s (t:= [105,110]))) λ_=>iq (call (gf.at hr) (a1 (ix ((nm 0).lst hq) int rfl) a0) ⟨b,rfl,hb.1,hb.2,rfl⟩))) ?_
    show _=Sh.v (V.bl (a==Km383.wIn&&isNum b))
    rw[Bool.beq_eq_decide_eq]
    rfl
   |cons c ts=>
    cases ts with
    |nil=>
     refine jM (i:=3) (j:=1) (ai cg (yo rfl) int) (by decide) ?_
     refine jM (i:=3) (j:=2) (ai cg (yo rfl) int) (by decide) ?_
     refine gq (i:=3) (ai cg (yo rfl) int) ?_
     have hc:=Zn c (by simp)
     exact aw (ka (call (dO.at hr) (a1 (ix ((nm 0).lst hq) int rfl) a0) ⟨a,rfl,rfl⟩) λ_=>ka (cI (pM (l:=df)) (ix ((nm 0).lst hq) int rfl) (tup (xs:=df.map tS) (a1 Gt.s (a1 Gt.s (a1 Gt.s a0))) (by show 3<=sizeLine;decide))) λ_=>iq (call (gf.at hr) (a1 (ix ((nm 0).lst hq) int rfl) a0) ⟨c,rfl,hc.1,hc.2,rfl⟩))
    |cons d ts=>exact absurd hl (by simp)
end
def pO:List Nat:= [97,98,99,100,101,102,103,104,105,106,107,108,109,110,111,112,113,114,115,116,117,118,119,120,121,122]
def sZ:List Nat:= [48,49,50,51,52,53,54,55,56,57]
def fI:List Nat:= [97,98,99,100,101,102,103,104,105,106,107,108,109,110,111,112,113,114,115,116,117,118,119,120,121,122,48,49,50,51,52,53,54,55,56,57,40,41,60,61,62,32]
theorem C1(k:Nat):pO.contains k=Km383.isLetter k:=by
 by_cases h:k<128
 ·revert k
  decide+kernel
 ·rw[Bool.eq_iff_iff]
  simp[pO,Km383.isLetter]
  omega
theorem digits_eq(k:Nat):sZ.contains k=Km383.isDigit k:=by
 by_cases h:k<128
 ·revert k
  decide+kernel
 ·rw[Bool.eq_iff_iff]
  simp[sZ,Km383.isDigit]
  omega
theorem AF(k:Nat):fI.contains k=aN k:=by
 by_cases h:k<128
 ·revert k
  decide+kernel
 ·have h1:aN k=false:=by
   simp[aN,isSign,Km383.isLetter,Km383.isDigit]
   omega
  rw[h1]
  have:k∉fI:=by
   simp[fI]
   omega
  simpa using this
theorem JZ{k:Nat}(h:aN k=true):k<128:=by
 by_cases q:k<128
 ·exact q
 ·exfalso
  revert h
  simp[aN,isSign,Km383.isLetter,Km383.isDigit]
  omega
theorem Gx{k:Nat}(h:aN k=true):∃j,fI.idxOf? k=some j/\fI[j]? =some k:=by
 have m:k∈fI:=by
  have:=AF k
  rw[h] at this
  simpa using this
 cases e:fI.idxOf? k with
 |none=>simp at e;exact absurd m e
 |some j=>
  have:=List.findIdx?_eq_some_iff_getElem.mp e
  obtain⟨gJ,h1,_⟩:=this
  exact⟨j,rfl,by rw[List.getElem?_eq_getElem gJ,eq_of_beq h1]⟩
theorem join_one:∀l:List Nat,TL.kY [] (l.map λk=> [k])=l
 | []=>rfl
 | [a]=>rfl
 |a::b::l=>by
  show [a]++([]++TL.kY [] ((b::l).map λk=> [k]))=_
  rw[join_one (b::l)]
  rfl
theorem AG:∀l:List Nat,(l.map ((λx:List Nat=>x.length)∘λk=> [k])).sum=l.length
 | []=>rfl
 |a::l=>by
  rw[List.map_cons,List.sum_cons,AG l,List.length_cons]
  show 1+l.length=l.length+1
  omega
section
variable{P:Program}{w:World}{K:W.Frag}{mg:Str->Option Value}{ae:Heap}
def uK(l:List Sh)(z:Sh):Prop:=∃row:List Nat,l= [.l (row.map nV)]/\row.length<=1000/\z=bif row.all aN then .v (tS row) else .v .non
theorem gX:ao ["row","codes","sign","byte"] ["row"] (ah (top 104)):=b5
theorem C3(D:Dn K mg "text_of" 104)(G:Gs mg)(Gt:Gt K mg):Cal P w K mg ae "text_of" 1 (Pq uK):=by
 refine Cal.ofD D Bh gX Pq.up ?_
 rintro f aK A0 aq s H XE l z ys hr os ⟨row,rfl,hl,rfl⟩
 obtain⟨q,rfl,hq⟩:=mV (vs:= []) os
 have kJ:=sizeLine_eq
 refine II (sh':=.n (fI.map λ(k:Nat)=>V.int k)) 1 (Zm (t:=fI) 2 (λk=>V.int (k:Nat)) Gt.s (λk _ s1 H0 C cl fp=>Uy (a1 (nm 2) a0) Gt.ord) (by show 42<sizeLine;omega) gX.nd).ex (λy H' S' hy=> ?_) gX.nd (hx:=Or.inr rfl)
 obtain⟨a,ey,ha⟩:=hy
 subst ey
 have Fm:aF K H' q (row.map nV):=S'.seq hq
 refine Ev.S.cast (qW (aI (any (bs:=row.map λk=> !aN k) (a1 (E.cast (lc 3 (L:=row) nV (λ_=>true) (λk=>V.bl (!aN k)) ((nm 0).lst Fm) (λy hy s1 H0 C cl fp=>iQ) (λy hy _ s1 H0 C cl fp=>E.cast (cI (BW rfl (je fI)) (nm 3) ((nm 1).lst (aF.of ha))) (by show Sh.v (V.bl (!HF (.int (y:Nat)) (fI.map nV)))=_;rw[jD,AF])) (by omega) gX.nd) (by rw[Ev.filter_all,List.map_map];rfl)).rd a0) (G.b _ (by decide)))) (λ_=>aw non) (λk=>aw (Oh (s:= []) (ts:=row.map λk=> [k]) yl (E.cast (lc 3 (L:=row) nV (λ_=>true) (λk=>tS [k]) ((nm 0).lst Fm) (λy hy s1 H0 C cl fp=>iQ) (λy hy _ s1 H0 C cl fp=>by
  have ky:aN y=true:=by
   cases z:aN y with
   |true=>rfl
   |false=>
    have:(row.map λk=> !aN k).any id=true:=List.any_eq_true.mpr ⟨true,List.mem_map.mpr ⟨y,hy,by rw[z];rfl⟩,rfl⟩
    rw[this] at k
    cases k
  obtain⟨j,h1,h2⟩:=Gx ky
  exact Sd (Gt.s (t:=fI)) (QJ (ns:=fI) ((nm 1).lst (aF.of ha)) (nm 3) h1) h2 (by show 42<=sizeLine;omega)) (by omega) gX.nd) (by rw[Ev.filter_all,List.map_map];rfl)).rd (by
   rw[List.map_map,List.length_map]
   have:(row.map ((λx:List Nat=>x.length)∘λk=> [k])).sum=row.length:=AG row
   rw[this]
   show row.length+row.length * 0<=_
   omega)))) ?_
 rw[join_one]
 have e:(row.map λk=> !aN k).any id= !row.all aN:=by
  rw[List.any_map,List.not_all_eq_any_not]
  rfl
 rw[e]
 cases row.all aN<;>rfl
theorem Oi(p:Nat->Bool):∀(l:List Nat)(j:Nat),j<=(l.takeWhile p).length->(match l[j]? with|some x=>p x|none=>false)=decide (j<(l.takeWhile p).length)
 | [],j,_=>by simp
 |a::l,j,h=>by
  by_cases q:p a=true
  ·rw[List.takeWhile_cons_of_pos q] at h ⊢
   cases j with
   |zero=>simp[q]
   |succ j=>
    have h:j<=(l.takeWhile p).length:=by simpa using h
    rw[List.getElem?_cons_succ,Oi p l j h]
    exact decide_eq_decide.mpr (by simp)
  ·have q:p a=false:=by simpa using q
   rw[List.takeWhile_cons_of_neg (by rw[q];simp)] at h ⊢
   have:j=0:=by simpa using h
   subst this
   simp[q]
def rJ(l:List Sh)(z:Sh):Prop:=∃(t:List Nat)(i:Nat),l= [.v (tS t),.v (.int (i:Nat))]/\i<t.length/\t.length<=1000/\z=.v (.int ((i+aP (t.drop i):Nat):Int))
def MG(s:Stmt):List Stmt:=match s with
 | .For _ _ b _ _=>b
 |_=> []
theorem iI:ao ["text","at","end","alike"] ["text","at"] (ah (top 105)):=b5
theorem AH(D:Dn K mg "part_end" 105)(G:Gs mg)(Gt:Gt K mg):Cal P w K mg ae "part_end" 1 (Pq rJ):=by
 refine Cal.ofD D mH iI Pq.up ?_
 rintro f aK A0 aq s H XE l z ys hr os ⟨t,i,rfl,hi,hl,rfl⟩
 obtain rfl:=dv.vs (xs:= [tS t,.int (i:Nat)]) os
 have kJ:=sizeLine_eq
 have hz:t.length<=sizeLine:=by omega
 obtain⟨c,hc⟩:∃c,t[i]? =some c:=⟨_,List.getElem?_eq_getElem hi⟩
 have hd:t.drop i=c::t.drop (i+1):=by
  rw[List.drop_eq_getElem_cons hi,List.getElem?_eq_getElem hi] at *
  cases hc
  rfl
 let far:(Nat->Bool)->Nat->Nat:=λp e=>if p c=true then i+1+((t.drop (i+1)).takeWhile p).length else e
 let F:Nat->L2.St:=λk=>match k with
  | 0=> [some (tS t),some (.int (i:Nat)),some (.int ((i+1:Nat):Int)),none]
  | 1=> [some (tS t),some (.int (i:Nat)),some (.int ((far Km383.isLetter (i+1):Nat):Int)),some (tS pO)]
  |_=> [some (tS t),some (.int (i:Nat)),some (.int ((far Km383.isDigit (far Km383.isLetter (i+1)):Nat):Int)),some (tS sZ)]
 have turn:∀{p:Nat->Bool}{al:List Nat}{e0:Nat},(∀k,al.contains k=p k)->(p c=true->e0=i+1)->e0<=t.length->
  B (bx P w K mg ae ["text","at","end","alike"] "part_end" (top 105) f aK A0 aq s H XE) (MG ((bL (top 105)).getD 1 (.Pass ⟨0,0,0,0⟩))) [some (tS t),some (.int (i:Nat)),some (.int (e0:Nat)),some (tS al)] H [some (tS t),some (.int (i:Nat)),some (.int ((far p e0:Nat):Int)),some (tS al)]:=λ{p al e0} hp h0 hle=>by
  refine MD (λn aO=>∃j:Nat,n=t.length - (e0+j)/\aO= [some (tS t),some (.int (i:Nat)),some (.int ((e0+j:Nat):Int)),some (tS al)]/\(j=0\/(p c=true/\j<=((t.drop (i+1)).takeWhile p).length))/\e0+j<=t.length) (n:=t.length - e0) ⟨0,rfl,rfl,.inl rfl,hle⟩ (λn aO ⟨j,en,oj,hj,RH⟩=> ?_) PassesOwn.never
  subst en oj
  by_cases pc:p c=true
  ·have e1:=h0 pc
   subst e1
   have hj':j<=((t.drop (i+1)).takeWhile p).length:=by
    rcases hj with rfl|hj
    ·exact Nat.zero_le _
    ·exact hj.2
   have tw:=Oi p (t.drop (i+1)) j hj'
   rw[List.getElem?_drop] at tw
   by_cases lt:i+1+j<t.length
   ·have gx:t[i+1+j]? =some t[i+1+j]:=List.getElem?_eq_getElem lt
    rw[gx] at tw
    refine⟨_,tY (w_and (T.cast (ai Mz (Sd (nm 0) (nm 1) hc hz) (nm 3)) (by rw[hp])) λ_=>w_and (ai zT (nm 2) (Gv (a1 (nm 0) a0) hz (G.b _ (by decide)))) λ_=>xD (T.cast (ai Mz (Sd (nm 0) (nm 2) gx hz) (nm 3)) (by rw[hp]))),λhk=> ?_,λhk=> ?_⟩
    ·rw[Bool.and_eq_true,Bool.and_eq_true] at hk
     have jl:j<((t.drop (i+1)).takeWhile p).length:=of_decide_eq_true (tw.symm.trans hk.2.2)
     refine⟨_,Eh 2 (add (nm 2) int) wo iI.nd,t.length - (i+1+(j+1)),by omega,j+1,rfl,?_,.inr ⟨pc,by omega⟩,by omega⟩
     show [_,_,some (V.int (((i+1+j:Nat):Int)+1)),_]=_
     rw[show(((i+1+j:Nat):Int)+1)=((i+1+(j+1):Nat):Int) by omega]
    ·have px:p t[i+1+j]=false:=by
      rw[pc,Bool.true_and,decide_eq_true (by omega),Bool.true_and] at hk
      exact hk
     have jl:¬j<((t.drop (i+1)).takeWhile p).length:=of_decide_eq_false (tw.symm.trans px)
     refine B.cast wo ?_
     show _= [_,_,some (V.int ((far p (i+1):Nat):Int)),_]
     have:far p (i+1)=i+1+j:=by
      show(if p c=true then _ else _)=_
      rw[if_pos pc]
      omega
     rw[this]
   ·rw[List.getElem?_eq_none (by omega)] at tw
    have jl:¬j<((t.drop (i+1)).takeWhile p).length:=of_decide_eq_false tw.symm
    refine⟨_,tY (w_and (T.cast (ai Mz (Sd (nm 0) (nm 1) hc hz) (nm 3)) (by rw[hp])) λ_=>w_and (k:=false) (m:=false) (T.cast (ai zT (nm 2) (Gv (a1 (nm 0) a0) hz (G.b _ (by decide)))) (decide_eq_false (by omega))) (λz=>nomatch z)),λhk=> ?_,λ_=> ?_⟩
    ·simp at hk
    ·refine B.cast wo ?_
     show _= [_,_,some (V.int ((far p (i+1):Nat):Int)),_]
     have:far p (i+1)=i+1+j:=by
      show(if p c=true then _ else _)=_
      rw[if_pos pc]
      omega
     rw[this]
  ·have pc:p c=false:=by simpa using pc
   have j0:j=0:=by
    rcases hj with hj|hj
    ·exact hj
    ·rw[pc] at hj;cases hj.1
   subst j0
   refine⟨_,tY (w_and (k:=false) (m:=false) (T.cast (ai Mz (Sd (nm 0) (nm 1) hc hz) (nm 3)) (by rw[hp,pc])) (λz=>nomatch z)),(λhk=>nomatch hk),λ_=> ?_⟩
   refine B.cast wo ?_
   show _= [_,_,some (V.int ((far p e0:Nat):Int)),_]
   have:far p e0=e0:=by
    show(if p c=true then _ else _)=_
    rw[if_neg (by rw[pc];simp)]
   rw[this]
   rfl
 have lt1:far Km383.isLetter (i+1)<=t.length:=by
  show(if Km383.isLetter c=true then _ else _)<=_
  have h1:=(List.takeWhile_sublist (l:=t.drop (i+1)) Km383.isLetter).length_le
  rw[List.length_drop] at h1
  split<;>omega
 refine gQ 2 (E.cast (add (nm 1) int) (show Sh.v (V.int ((i:Int)+1))=Sh.v (V.int ((i+1:Nat):Int)) by congr 2)) ?_ iI.nd
 refine QI 3 F rfl (tup (xs:= [tS pO,tS sZ]) (a1 Gt.s (a1 Gt.s a0)) (by show 2<=sizeLine;decide)) (λk y hy=> ?_) ?_ PassesOwn.never iI.nd
 ·match k,hy with
  | 0,hy=>
    cases hy
    exact turn C1 (λ_=>rfl) (by omega)
  | 1,hy=>
    cases hy
    refine turn digits_eq (λdc=> ?_) lt1
    show(if Km383.isLetter c=true then _ else _)=_
    rw[if_neg (by rw[IB dc];simp)]
  |k+2,hy=>cases hy
 ·refine Ev.S.cast (aw (nm 2)) ?_
  show Sh.v (V.int ((far Km383.isDigit (far Km383.isLetter (i+1)):Nat):Int))=_
  congr 3
  show(if Km383.isDigit c=true then _ else(if Km383.isLetter c=true then _ else _))=_
  rw[hd,dQ]
  by_cases lc:Km383.isLetter c=true
  ·rw[if_neg (by rw[IA lc];simp),if_pos lc,if_pos lc]
   omega
  ·rw[if_neg lc,if_neg lc]
   by_cases dc:Km383.isDigit c=true
   ·rw[if_pos dc,if_pos dc]
    omega
   ·rw[if_neg dc,if_neg dc]
def rK(l:List Sh)(xs:List V):Prop:=∃t:List Nat,l= [.v (tS t)]/\t.length<=1000/\xs=(toks t).map tS
theorem uL:∀(n:Nat)(l:List Nat),l.length<=n->(toks l).length<=l.length:=by
 intro n
 induction n with
 |zero=>
  intro l hl
  rw[List.length_eq_zero_iff.mp (Nat.le_zero.mp hl),oU]
  exact Nat.le_refl _
 |succ n ih=>
  intro l hl
  cases l with
  |nil=>exact ih [] (Nat.zero_le _)
  |cons b l=>
   have p1:=ig b l
   have d:=List.length_drop (i:=aP (b::l)) (l:=b::l)
   have h1:=ih ((b::l).drop (aP (b::l))) (by rw[d,List.length_cons];simp at hl;omega)
   rw[ja]
   have cl:(b::l).length=l.length+1:=rfl
   split
   ·omega
   ·rw[List.length_cons]
    omega
theorem eO:ao ["text","parts","at","end"] ["text"] (ah (top 106)):=b5
theorem AI(D:Dn K mg "parts_of" 106)(G:Gs mg)(Gt:Gt K mg)(jR:Cal P w K mg ae "part_end" 1 (Pq rJ)):bU P w K mg ae "parts_of" 2 (y1 rK):=by
 refine bU.ofD D Bh eO y1.up ?_
 rintro f aK A0 aq s H XE l xs ys hr os ⟨t,rfl,hl,rfl⟩
 obtain rfl:=dv.vs (xs:= [tS t]) os
 have kJ:=sizeLine_eq
 have hz:t.length<=sizeLine:=by omega
 have ts:=uL t.length t (Nat.le_refl _)
 intro H1 S1 D hD
 refine dD 1 (gT _ (au.refl _) _ λg H2 S2 ng hg=> ?_) eO.nd
 refine dH 2 int (λH3 S3=> ?_) eO.nd
 refine mh (λn aO H'=>∃(i:Nat)(e:Option V)(dn:List (List Nat)),n=t.length - i/\aO= [some (tS t),some (.ref g),some (.int (i:Nat)),e]/\i<=t.length/\dn++toks (t.drop i)=toks t/\H' g=some (.lst (dn.map tS))/\au H1 H') (n:=t.length) ⟨0,none, [],rfl,rfl,Nat.zero_le _,rfl,S3 _ _ hg,S2.trans S3⟩ (λn aO H' ⟨i,e,dn,en,oj,hi,Ls,VB,S'⟩=> ?_) PassesOwn.never
 subst en oj
 refine⟨_,ai zT (nm 2) (Gv (a1 (nm 0) a0) hz (G.b _ (by decide))),λhk H4 S4=> ?_,λhk H4 S4=> ?_⟩
 ·have lt:i<t.length:=by
   have:=of_decide_eq_true hk
   omega
  obtain⟨c,hc⟩:∃c,t[i]? =some c:=⟨_,List.getElem?_eq_getElem lt⟩
  have hd:t.drop i=c::t.drop (i+1):=by
   rw[List.getElem?_eq_getElem lt] at hc
   cases hc
   exact List.drop_eq_getElem_cons lt
  have pl:=BR (t.drop i)
  rw[List.length_drop] at pl
  have pp:1<=aP (t.drop i):=by rw[hd];exact ig _ _
  refine dH 3 (call (jR.at hr) (a1 (nm 0) (a1 (nm 2) a0)) ⟨t,i,rfl,lt,hl,rfl⟩) (λH5 S5=> ?_) eO.nd
  have dl:dn.length<=1000:=by
   have:=congrArg List.length Ls
   rw[List.length_append] at this
   omega
  have dd:(t.drop i).drop (aP (t.drop i))=t.drop (i+aP (t.drop i)):=by rw[List.drop_drop]
  have tk:toks (t.drop i)=if c=32 then toks (t.drop (i+aP (t.drop i))) else(t.drop i).take (aP (t.drop i))::toks (t.drop (i+aP (t.drop i))):=by
   rw[<-dd]
   conv=>lhs;rw[hd,ja,<-hd]
  refine ph (ai X7 (Sd (nm 0) (nm 2) hc hz) (Gt.s (t:= [32]))) (λhk H6 S6=> ?_) (λhk H6 S6=> ?_)
  ·have nc:c≠32:=λz=>by
    subst z
    simp at hk
   refine dh (nm 1) (S6 _ _ (S5 _ _ (S4 _ _ VB))) λH7 S7=> ?_
   refine(slT (t:=t) (i:=i) (j:=i+aP (t.drop i)) (nm 0) (nm 2) (nm 3) (by omega) hz) H7 S7 _ λv H8 S8 ov=> ?_
   have ev:v=tS ((t.drop i).take (i+aP (t.drop i) - i)):=ov
   subst ev
   rw[show i+aP (t.drop i) - i=aP (t.drop i) by omega]
   refine⟨_,S8 _ _ (S7 _ _ (S6 _ _ (S5 _ _ (S4 _ _ VB)))),by rw[List.length_map];omega,?_⟩
   refine dB (dH 2 (nm 3) (λH9 S9=>dB ?_) eO.nd)
   refine⟨t.length - (i+aP (t.drop i)),by omega,i+aP (t.drop i),some (.int ((i+aP (t.drop i):Nat):Int)),dn++ [(t.drop i).take (aP (t.drop i))],rfl,rfl,by omega,?_,?_,?_⟩
   ·rw[tk,if_neg nc] at Ls
    rw[List.append_assoc]
    exact Ls
   ·refine S9 _ _ ?_
    rw[ak,List.map_append]
    rfl
   ·intro y o hy
    refine S9 _ _ ?_
    rw[aj (λz=>by rw[z,ng] at hy;cases hy)]
    exact S8 _ _ (S7 _ _ (S6 _ _ (S5 _ _ (S4 _ _ (S' _ _ hy)))))
  ·have nc:c=32:=by
    have:=hk
    simpa using this
   refine dH 2 (nm 3) (λH9 S9=>dB ?_) eO.nd
   refine⟨t.length - (i+aP (t.drop i)),by omega,i+aP (t.drop i),some (.int ((i+aP (t.drop i):Nat):Int)),dn,rfl,rfl,by omega,?_,?_,?_⟩
   ·rw[tk,if_pos nc] at Ls
    exact Ls
   ·exact S9 _ _ (S6 _ _ (S5 _ _ (S4 _ _ VB)))
   ·exact(((S'.trans S4).trans S5).trans S6).trans S9
 ·have ge:t.length<=i:=by
   have:=of_decide_eq_false hk
   omega
  rw[List.drop_of_length_le ge,oU,List.append_nil] at Ls
  subst Ls
  exact cB (nm 1) λH5 S5=>hD g H5 ((S'.trans S4).trans S5) ng (S5 _ _ (S4 _ _ VB))
end
end Mu
namespace Ev
open PySem PySem.Spec PyProof.Rows L2
section
variable{X:Cx}{a b c e lo hi:Expr}{es:List Expr}{σ:L2.St}{H:Hp}{Q:VK}{pos p2:PySem.Pos}
theorem C4{xs:List V}{i j:Int}(ha:E X a σ H (.l xs))(hl:E X lo σ H (.v (.int i)))(hh:E X hi σ H (.v (.int j))):Nl X (.Subscript a (.Slice (some lo) (some hi) none p2) pos) σ H (va xs (some i) (some j)):=λH1 S1 Q hQ=>
 aY (zk Lj az (sP az) (sP az)) (ha H1 S1 _ λv H2 S2 ⟨q,ev,hq⟩=>hl H2 (S1.trans S2) _ λw H3 S3 ow=>⟨i,ow,hh H3 ((S1.trans S2).trans S3) _ λz H4 S4 oz=>⟨j,oz,q,xs,ev,(S3.trans S4).seq hq,λp hp=>hQ p _ (((S2.trans S3).trans S4).trans (au.upd hp)) (((S2.trans S3).trans S4).free hp) ak⟩⟩)
theorem C5{k:Bool}(h:T X c σ H k)(h1:k=true->∀H2,au H H2->se X a σ H2 Q)(h2:k=false->∀H2,au H H2->se X b σ H2 Q):se X (.IfExp c a b pos) σ H Q:=
 aY (y8 il az az) (h H (au.refl _) _ λH2 S2=>by
  cases k with
  |true=>exact h1 rfl H2 S2
  |false=>exact h2 rfl H2 S2)
end
end Ev
namespace Mu
open PySem PySem.Spec PyProof.Rows L2 Ev
open Km383 (House Book Ans)
def MH(t:List Nat):Prop:=t= [40]\/t=Km383.wOr\/t=Km383.wAnd\/t=Km383.wNot
def EH(lp:Addr)(i:Nat)(ls lw:Addr)(k:Bool):List (Str×V):= [("parts",.ref lp),("at",.int (i:Nat)),("steps",.ref ls),("waiting",.ref lw),("wants_one",.bl k)]
def dz(H:Hp)(as:List Addr)(out:List Step):Prop:=as.length=out.length/\∀(k:Nat)(a:Addr)(t:Step),as[k]? =some a->out[k]? =some t->H a=some (.lst (t.map tS))
theorem dz.mono{H H':Hp}{as:List Addr}{out:List Step}(h:dz H as out)(k:∀a∈as,∀o,H a=some o->H' a=some o):dz H' as out:=⟨h.1,λi a t ha ht=>k a (List.mem_of_getElem? ha) _ (h.2 i a t ha ht)⟩
theorem dz.snoc{H:Hp}{as:List Addr}{out:List Step}{a:Addr}{t:Step}(h:dz H as out)(ha:H a=some (.lst (t.map tS))):dz H (as++ [a]) (out++ [t]):=by
 refine⟨by rw[List.length_append,List.length_append,h.1];rfl,λi x y hx hy=> ?_⟩
 rw[cD] at hx hy
 by_cases q:i=as.length
 ·rw[if_pos q] at hx
  rw[if_pos (q.trans h.1)] at hy
  cases hx
  cases hy
  exact ha
 ·rw[if_neg q] at hx
  rw[if_neg (λz=>q (z.trans h.1.symm))] at hy
  exact h.2 i x y hx hy
structure Tr(K:W.Frag)(C:Addr):Prop where
 c:wW K C
 f:∀f∈(["parts","at","steps","waiting","wants_one"]:List Str),bX K C f
structure eF(C:Addr)(H:Hp)(r lp ls lw:Addr)(ps:List (List Nat))(s:RS):Prop where
 ob:∃dx i,H r=some (.ins C dx (EH lp i ls lw s.want))/\ps.drop i=s.l/\i<=ps.length
 Gy:H lp=some (.lst (ps.map tS))
 Bi:H lw=some (.lst (s.st.reverse.map tS))
 J0:∃as:List Addr,H ls=some (.lst (as.map .ref))/\dz H as s.out/\∀a∈as,a≠ls/\a≠lw
 ne:ls≠lw/\lp≠ls/\lp≠lw
theorem eF.up{C:Addr}{H H':Hp}{r lp ls lw:Addr}{ps:List (List Nat)}{s:RS}(S:au H H')(R:eF C H r lp ls lw ps s):eF C H' r lp ls lw ps s:=by
 obtain⟨dx,i,h1,h2⟩:=R.ob
 obtain⟨as,a1,a2,a3⟩:=R.J0
 exact⟨⟨dx,i,S _ _ h1,h2⟩,S _ _ R.Gy,S _ _ R.Bi,⟨as,S _ _ a1,a2.mono λa _ o h=>S _ _ h,a3⟩,R.ne⟩
def iS(r ls lw:Addr)(H H':Hp):Prop:=∀y o,H y=some o->y≠r->y≠ls->y≠lw->H' y=some o
theorem iS.same{r ls lw:Addr}{H H':Hp}(S:au H H'):iS r ls lw H H':=λy o h _ _ _=>S _ _ h
theorem iS.trans{r ls lw:Addr}{H H1 H2:Hp}(a:iS r ls lw H H1)(b:iS r ls lw H1 H2):iS r ls lw H H2:=λy o h n1 n2 n3=>b y o (a y o h n1 n2 n3) n1 n2 n3
theorem iS.upd{r ls lw x:Addr}{o':HO}{H H':Hp}(S:au H H')(h:x=r\/x=ls\/x=lw):iS r ls lw H (upd H' x o'):=λy o hy n1 n2 n3=>by
 rw[aj (λz=>by subst z;rcases h with h|h|h<;>contradiction)]
 exact S _ _ hy
section
variable{P:Program}{w:World}{K:W.Frag}{mg:Str->Option Value}{ae:Heap}{C:Addr}
theorem eF.fd{H:Hp}{r lp ls lw:Addr}{ps:List (List Nat)}{s:RS}(TR:Tr K C)(R:eF C H r lp ls lw ps s):Fd K H r "parts" (.ref lp)/\Fd K H r "steps" (.ref ls)/\Fd K H r "waiting" (.ref lw)/\Fd K H r "wants_one" (.bl s.want)/\∃i:Nat,Fd K H r "at" (.int (i:Nat))/\ps.drop i=s.l/\i<=ps.length:=by
 obtain⟨dx,i,h1,h2,h3⟩:=R.ob
 exact⟨⟨C,dx,_,h1,TR.c,TR.f _ (by decide),rfl⟩,⟨C,dx,_,h1,TR.c,TR.f _ (by decide),rfl⟩,⟨C,dx,_,h1,TR.c,TR.f _ (by decide),rfl⟩,⟨C,dx,_,h1,TR.c,TR.f _ (by decide),rfl⟩,i,⟨C,dx,_,h1,TR.c,TR.f _ (by decide),rfl⟩,h2,h3⟩
theorem eF.Se{H:Hp}{r lp ls lw:Addr}{ps:List (List Nat)}{s:RS}(R:eF C H r lp ls lw ps s):r≠ls/\r≠lw:=by
 obtain⟨dx,i,h1,_⟩:=R.ob
 obtain⟨as,a1,_⟩:=R.J0
 exact⟨j6 h1 a1 (by intro z;cases z),j6 h1 R.Bi (by intro z;cases z)⟩
theorem MJ(t:List Nat)(st:List (List Nat)):qP (((t::st).reverse).map tS) (-1)=some (tS t):=by
 unfold qP KQ
 have hl:(((t::st).reverse).map tS).length=st.length+1:=by simp
 rw[hl,if_neg (by omega),if_pos (by omega)]
 show(((t::st).reverse).map tS)[((-1:Int)+((st.length+1:Nat):Int)).toNat]? =_
 rw[show((-1:Int)+((st.length+1:Nat):Int)).toNat=st.length by omega,List.reverse_cons,List.map_append]
 simp
def EI(C:Addr):Sp:=λys H Q _=>∃(r lp ls lw:Addr)(ps:List (List Nat))(s:RS)(b:Nat),ys= [.ref r,.int (b:Nat)]/\eF C H r lp ls lw ps s/\(∀t∈s.st,MH t)/\s.out.length+s.st.length<=1000/\∀H',eF C H' r lp ls lw ps (aM b s)->iS r ls lw H H'->Q .non H'
theorem vy:ao ["reader","binding"] ["reader","binding"] (ah (top 109)):=b5
theorem vz{f:Addr}{fd:FuncData}(F:jq K "end_closer" "end_closer" (top 109) f fd)(G:Gs mg)(Gt:Gt K mg)(TR:Tr K C):bD P w K mg ae eT 1 f fd ["reader","binding"] (EI C):=by
 refine F.ok vy (λvs H Q XE h=> ?_) (λaK A0 aq s0 H vs Q XE hr h=>⟨_,aD,?_⟩)
 ·obtain⟨r,lp,ls,lw,ps,s,b,rfl,_⟩:=h
  rfl
 ·obtain⟨r,lp,ls,lw,ps,s,b,rfl,R,hB,hz,hQ⟩:=h
  have kJ:=sizeLine_eq
  refine mh (λn aO H'=>∃s':RS,n=s'.st.length/\aO= [some (.ref r),some (.int (b:Nat))]/\eF C H' r lp ls lw ps s'/\aM b s'=aM b s/\(∀t∈s'.st,MH t)/\s'.out.length+s'.st.length<=1000/\iS r ls lw H H') (n:=s.st.length) ⟨s,rfl,rfl,R,rfl,hB,hz,iS.same (au.refl _)⟩ (λn aO H' ⟨s',en,oj,R',e',Zo,Bg,fr⟩=> ?_) PassesOwn.never
  subst en oj
  obtain⟨_,_,f3,_,_⟩:=R'.fd TR
  obtain⟨l,o,st,k⟩:=s'
  cases st with
  |nil=>
   refine⟨_,tY (w_and (k:=false) (m:=false) (Ev.T.cast (ai rS (len (a1 ((fld (nm 0) f3).lst (aF.of R'.Bi)) a0) (G.b _ (by decide))) int) rfl) (λz=>nomatch z)),(λhk=>nomatch hk),λ_ H2 S2=>dB (hQ H2 ?_ (fr.trans (iS.same S2)))⟩
   rw[<-e']
   exact R'.up S2
  |cons t st=>
   have hbt:=Zo t List.mem_cons_self
   refine⟨_,tY (w_and (Ev.T.cast (ai rS (len (a1 ((fld (nm 0) f3).lst (aF.of R'.Bi)) a0) (G.b _ (by decide))) int) (k':=true) (decide_eq_true (by rw[List.length_map,List.length_reverse];show(0:Int)<((st.length+1:Nat):Int);omega))) λ_=>xD (ai rS (Gt.b (ix ((fld (nm 0) f3).lst (aF.of R'.Bi)) (neg int) (MJ t st)) hbt) (nm 1))),λhk H2 S2=> ?_,λhk H2 S2=> ?_⟩
   ·have gJ:b<bp t:=by
     rw[Bool.true_and] at hk
     have:=of_decide_eq_true hk
     omega
    have R2:=R'.up S2
    obtain⟨_,g2,g3,_,_⟩:=R2.fd TR
    obtain⟨as,Sb,Vw,X8⟩:=R2.J0
    have UA:H2 lw=some (.lst (st.reverse.map tS++ [tS t])):=by
     have:=R2.Bi
     rw[show(RS.mk l o (t::st) k).st=t::st from rfl,List.reverse_cons,List.map_append] at this
     exact this
    obtain⟨n1,n2,n3⟩:=R2.ne
    obtain⟨m1,m2⟩:=R2.Se
    refine dh (fld (nm 0) g2) Sb λH3 S3=> ?_
    refine aY (nD (bJ az du)) (lI (fld (nm 0) (g3.up S3)) (S3 _ _ UA) λH4 S4=>⟨by show 1<=sizeLine;omega,λp hp=> ?_⟩)
    have Zq:au H2 H4:=S3.trans S4
    have np:∀{y:Addr}{o':HO},upd H4 lw (.lst (st.reverse.map tS)) y=some o'->y≠p:=λh z=>by
     rw[z,hp] at h
     cases h
    have wl:upd H4 lw (.lst (st.reverse.map tS)) lw=some (.lst (st.reverse.map tS)):=ak
    have VC:upd H4 lw (.lst (st.reverse.map tS)) ls=some (.lst (as.map .ref)):=(aj n1).trans (Zq _ _ Sb)
    have kp:∀y o',H2 y=some o'->y≠lw->y≠ls->upd (upd (upd H4 lw (.lst (st.reverse.map tS))) p (.lst [tS t])) ls (.lst (as.map .ref++ [.ref p])) y=some o':=λy o' hy h1 h2=>by
     have z:upd H4 lw (.lst (st.reverse.map tS)) y=some o':=(aj h1).trans (Zq _ _ hy)
     rw[aj h2,aj (np z)]
     exact z
    refine⟨_,(aj (np VC)).trans VC,?_,dB ?_⟩
    ·rw[List.length_map,Vw.1]
     show o.length<_
     have:o.length+(st.length+1)<=1000:=Bg
     omega
    ·refine⟨st.length,Nat.lt_succ_self _,⟨l,o++ [[t]],st,k⟩,rfl,rfl,?_,?_,λt' Ug=>Zo t' (List.mem_cons_of_mem _ Ug),?_,?_⟩
     ·obtain⟨dx,i,h1,h2,h3⟩:=R2.ob
      refine⟨⟨dx,i,kp r _ h1 m2 m1,h2,h3⟩,kp lp _ R2.Gy n3 n2,?_,⟨as++ [p],?_,?_,?_⟩,R2.ne⟩
      ·rw[aj n1.symm,aj (np wl)]
       exact wl
      ·rw[ak,List.map_append]
       rfl
      ·refine dz.snoc (Vw.mono λa ha o' h=>kp a o' h (X8 a ha).2 (X8 a ha).1) ?_
       rw[aj (np VC).symm,ak]
       rfl
      ·intro a ha
       rcases List.mem_append.mp ha with ha|ha
       ·exact X8 a ha
       ·rw[List.mem_singleton.mp ha]
        exact⟨(np VC).symm,(np wl).symm⟩
     ·rw[<-e',sT gJ]
     ·show(o++ [[t]]).length+st.length<=1000
      rw[List.length_append]
      have:o.length+(st.length+1)<=1000:=Bg
      show o.length+1+st.length<=1000
      omega
     ·intro y o' hy h1 h2 h3
      exact kp y o' (S2 _ _ (fr y o' hy h1 h2 h3)) h3 h2
   ·have gJ:¬b<bp t:=by
     rw[Bool.true_and] at hk
     have:=of_decide_eq_false hk
     omega
    refine dB (hQ H2 ?_ (fr.trans (iS.same S2)))
    rw[<-e']
    have:aM b ⟨l,o,t::st,k⟩=⟨l,o,t::st,k⟩:=by
     unfold aM
     dsimp only
     rw[i9 gJ]
    rw[this]
    exact R'.up S2
end
structure Zr(ps:List (List Nat))(s:RS):Prop where
 b:∀t∈s.st,MH t
 z:s.out.length+s.st.length<=900
 a:∀t∈ps,ascii t/\t.length<=1000
def qF(C:Addr)(g:RS->RS×Bool):Sp:=λys H Q _=>∃(r lp ls lw:Addr)(ps:List (List Nat))(s:RS),ys= [.ref r]/\eF C H r lp ls lw ps s/\Zr ps s/\s.l≠ []/\ps.length<=900/\∀H',eF C H' r lp ls lw ps (g s).1->iS r ls lw H H'->Q (.bl (g s).2) H'
theorem dz.nr{H:Hp}{as:List Addr}{out:List Step}{r C dx:Addr}{fs:List (Str×V)}(h:dz H as out)(hr:H r=some (.ins C dx fs)){a:Addr}(ha:a∈as):a≠r:=λz=>by
 obtain⟨k,hk⟩:=List.getElem?_of_mem ha
 have lt:k<out.length:=by rw[<-h.1];exact(List.getElem?_eq_some_iff.mp hk).1
 have:=h.2 k a _ hk (List.getElem?_eq_getElem lt)
 rw[z,hr] at this
 cases this
section
variable{P:Program}{w:World}{K:W.Frag}{mg:Str->Option Value}{ae:Heap}{C:Addr}
theorem eF.head{H:Hp}{r lp ls lw:Addr}{ps:List (List Nat)}{s:RS}{i:Nat}(h1:ps.drop i=s.l)(hl:s.l≠ []):i<ps.length/\ps[i]? =some (s.l.headD [])/\ps.drop (i+1)=s.l.drop 1:=by
 have lt:i<ps.length:=by
  by_cases q:i<ps.length
  ·exact q
  ·rw[List.drop_of_length_le (by omega)] at h1
   exact absurd h1.symm hl
 refine⟨lt,?_,?_⟩
 ·rw[<-h1,List.drop_eq_getElem_cons lt,List.getElem?_eq_getElem lt]
  rfl
 ·rw[<-h1,List.drop_drop]
theorem QK{X:Cx}{e:Expr}{rest:List Stmt}{σ:L2.St}{H:Hp}{D:Ends}{pos pos':PySem.Pos}{r lp ls lw:Addr}{ps:List (List Nat)}{s:RS}{o:Expr}{i':Nat}(TR:Tr X.K C)(R:eF C H r lp ls lw ps s)(ho:E X o σ H (.v (.ref r)))(he:E X e σ H (.v (.int (i':Nat))))(hi:i'<=ps.length)
 (h:∀H2,eF C H2 r lp ls lw ps { s with l:=ps.drop i' }->iS r ls lw H H2->(∀y u,H y=some u->y≠r->H2 y=some u)->sb X rest D σ H2)(hs:swapsWith e (some (.Attribute o "at" pos')) pos.line X.env=pure false:=by rfl):sb X (.Assign [.Attribute o "at" pos'] e pos::rest) D σ H:=by
 refine cv ho he (λH2 S2=> ?_) hs
 have R2:=R.up S2
 obtain⟨dx,i,h1,h2,h3⟩:=R2.ob
 obtain⟨m1,m2⟩:=R2.Se
 obtain⟨as,a1,a2,a3⟩:=R2.J0
 have Ae:lp≠r:=λz=>by
  have:=R2.Gy
  rw[z,h1] at this
  cases this
 refine⟨C,dx,_,h1,TR.c,TR.f _ (by decide),(by show 5<1000;decide),h _ ⟨⟨dx,i',?_,rfl,hi⟩,(aj Ae).trans R2.Gy,(aj m2.symm).trans R2.Bi,⟨as,(aj m1.symm).trans a1,a2.mono λa ha o hh=> ?_,a3⟩,R2.ne⟩ (iS.upd S2 (.inl rfl)) λy u hy n=>(aj n).trans (S2 _ _ hy)⟩
 ·rw[ak]
  rfl
 ·rw[aj (a2.nr h1 ha)]
  exact hh
theorem J1{X:Cx}{e:Expr}{rest:List Stmt}{σ:L2.St}{H:Hp}{D:Ends}{pos pos':PySem.Pos}{r lp ls lw:Addr}{ps:List (List Nat)}{s:RS}{o:Expr}{k:Bool}(TR:Tr X.K C)(R:eF C H r lp ls lw ps s)(ho:E X o σ H (.v (.ref r)))(he:E X e σ H (.v (.bl k)))
 (h:∀H2,eF C H2 r lp ls lw ps { s with want:=k }->iS r ls lw H H2->(∀y u,H y=some u->y≠r->H2 y=some u)->sb X rest D σ H2)(hs:swapsWith e (some (.Attribute o "wants_one" pos')) pos.line X.env=pure false:=by rfl):sb X (.Assign [.Attribute o "wants_one" pos'] e pos::rest) D σ H:=by
 refine cv ho he (λH2 S2=> ?_) hs
 have R2:=R.up S2
 obtain⟨dx,i,h1,h2,h3⟩:=R2.ob
 obtain⟨m1,m2⟩:=R2.Se
 obtain⟨as,a1,a2,a3⟩:=R2.J0
 have Ae:lp≠r:=λz=>by
  have:=R2.Gy
  rw[z,h1] at this
  cases this
 refine⟨C,dx,_,h1,TR.c,TR.f _ (by decide),(by show 5<1000;decide),h _ ⟨⟨dx,i,?_,h2,h3⟩,(aj Ae).trans R2.Gy,(aj m2.symm).trans R2.Bi,⟨as,(aj m1.symm).trans a1,a2.mono λa ha o hh=> ?_,a3⟩,R2.ne⟩ (iS.upd S2 (.inl rfl)) λy u hy n=>(aj n).trans (S2 _ _ hy)⟩
 ·rw[ak]
  rfl
 ·rw[aj (a2.nr h1 ha)]
  exact hh
theorem J2{X:Cx}{o e:Expr}{rest:List Stmt}{σ:L2.St}{H:Hp}{D:Ends}{pos pos' apos:PySem.Pos}{r lp ls lw:Addr}{ps:List (List Nat)}{s:RS}{t:List Nat}(R:eF C H r lp ls lw ps s)(hz:s.st.length<=900)(ho:E X o σ H (.v (.ref lw)))(he:E X e σ H (.v (tS t)))
 (h:∀H2,eF C H2 r lp ls lw ps { s with st:=t::s.st }->iS r ls lw H H2->sb X rest D σ H2)
 (hs:swapsWith (.Call (.Attribute o "append" apos) [e] [] pos') none pos.line X.env=pure false:=by rfl)(cC:attributeBase o "append" X.env (eval o X.env)=eval o X.env:=by rfl)
 (nE:((backTo pos' (starEach [e] X.env)).all (λx=> !x.1)&&(backToKw pos' (keywordEach [] X.env)).all (λx=>x.1.isSome)
   &&decide ([e].length+([]:List Keyword).length+(if ([]:List Keyword).isEmpty then 0 else 1)<30))=true:=by rfl)
 (hline:(apos.endLine==pos'.line)=true:=by rfl)(hU:starEach [e] X.env=(false,eval e X.env)::starEach [] X.env:=by rfl):
 sb X (.Expr (.Call (.Attribute o "append" apos) [e] [] pos') pos::rest) D σ H:=by
 refine dh ho R.Bi (λH1 S1=>he H1 S1 _ λv H2 S2 ov=> ?_) hs cC nE hline hU
 have ev:v=tS t:=ov
 subst ev
 have kJ:=sizeLine_eq
 have S:=S1.trans S2
 have R2:=R.up S
 obtain⟨dx,i,h1,h2,h3⟩:=R2.ob
 obtain⟨m1,m2⟩:=R2.Se
 obtain⟨n1,n2,n3⟩:=R2.ne
 obtain⟨as,a1,a2,a3⟩:=R2.J0
 refine⟨_,R2.Bi,by rw[List.length_map,List.length_reverse];omega,h _ ⟨⟨dx,i,(aj m2).trans h1,h2,h3⟩,(aj n3).trans R2.Gy,?_,⟨as,(aj n1).trans a1,a2.mono λa ha o hh=>(aj (a3 a ha).2).trans hh,a3⟩,R2.ne⟩ (iS.upd S (.inr (.inr rfl)))⟩
 rw[ak]
 show _=some (HO.lst ((t::s.st).reverse.map tS))
 rw[List.reverse_cons,List.map_append]
 rfl
theorem sH:ao ["reader"] ["reader"] (ah (top 111)):=b5
def EJ(C:Addr):Sp:=λys H Q _=>∃(r lp ls lw:Addr)(ps:List (List Nat))(s:RS),ys= [.ref r]/\eF C H r lp ls lw ps s/\Zr ps s/\∀H',eF C H' r lp ls lw ps (bH s).1->iS r ls lw H H'->Q (.bl (bH s).2) H'
theorem sI{f fE:Addr}{fd Oj:FuncData}(F:jq K "take_closing" "take_closing" (top 111) f fd)(G:Gs mg)(Gt:Gt K mg)(TR:Tr K C)(FE:bD P w K mg ae eT 1 fE Oj ["reader","binding"] (EI C))(mE:mg "end_closer"=some (.ref fE))(kE:W.keepIn K (.ref fE)=true)(bE:Binds K Oj ["reader","binding"] []):bD P w K mg ae eT 2 f fd ["reader"] (EJ C):=by
 refine F.ok sH (λvs H Q XE h=> ?_) (λaK A0 aq s0 H vs Q XE hr h=>⟨_,aD,?_⟩)
 ·obtain⟨r,lp,ls,lw,ps,s,rfl,_⟩:=h
  rfl
 ·obtain⟨r,lp,ls,lw,ps,s,rfl,R,ok,hQ⟩:=h
  refine Ev.nT (cS (ys:= [.ref r,.int ((bp [40]:Nat):Int)]) FE (hr.mono (by decide)) mE kE bE (a1 (nm 0) (a1 (Gt.b (Gt.s (t:= [40])) (.inl rfl)) a0)) λH1 S1=>⟨r,lp,ls,lw,ps,s,0,rfl,R.up S1,ok.b,by have:=ok.z;omega,λH2 R2 fr=> ?_⟩)
  have fr:=(iS.same S1).trans fr
  obtain⟨_,_,f3,_,_⟩:=R2.fd TR
  generalize Zt:aM 0 s=s1 at R2
  obtain⟨l,o,st,k⟩:=s1
  cases st with
  |nil=>
   have e:bH s=(⟨l,o, [],k⟩,false):=by
    unfold bH
    rw[Zt,if_pos rfl]
   rw[e] at hQ
   refine Ez (i:=0) (ai cg (E.cast (len (a1 ((fld (nm 0) f3).lst (aF.of R2.Bi)) a0) (G.b _ (by decide))) rfl) int) λH3 S3=>cB bl λH4 S4=>hQ H4 ((R2.up S3).up S4) (fr.trans (iS.same (S3.trans S4)))
  |cons t st=>
   have e:bH s=(⟨l,o,st,k⟩,true):=by
    unfold bH
    rw[Zt,if_neg (by simp)]
    rfl
   rw[e] at hQ
   refine lE (i:=((st.length+1:Nat):Int)) (j:=0) (ai cg (E.cast (len (a1 ((fld (nm 0) f3).lst (aF.of R2.Bi)) a0) (G.b _ (by decide))) (by rw[List.length_map,List.length_reverse];rfl)) int) (by omega) λH3 S3=> ?_
   have R3:=R2.up S3
   obtain⟨_,_,g3,_,_⟩:=R3.fd TR
   have UA:H3 lw=some (.lst (st.reverse.map tS++ [tS t])):=by
    have:=R3.Bi
    rw[show(RS.mk l o (t::st) k).st=t::st from rfl,List.reverse_cons,List.map_append] at this
    exact this
   refine Ev.nT (lI (fld (nm 0) g3) UA λH4 S4=>cB bl λH5 S5=> ?_)
   have R4:=R3.up S4
   obtain⟨dx,i,h1,h2,h3⟩:=R4.ob
   obtain⟨m1,m2⟩:=R4.Se
   obtain⟨n1,n2,n3⟩:=R4.ne
   obtain⟨as,a1,a2,a3⟩:=R4.J0
   have RN:eF C (upd H4 lw (.lst (st.reverse.map tS))) r lp ls lw ps ⟨l,o,st,k⟩:=⟨⟨dx,i,(aj m2).trans h1,h2,h3⟩,(aj n3).trans R4.Gy,ak,⟨as,(aj n1).trans a1,a2.mono λa ha o hh=>(aj (a3 a ha).2).trans hh,a3⟩,R4.ne⟩
   exact hQ H5 (RN.up S5) ((fr.trans (iS.upd (S3.trans S4) (.inr (.inr rfl)))).trans (iS.same S5))
theorem QL{X:Cx}{o e:Expr}{rest:List Stmt}{σ:L2.St}{H:Hp}{D:Ends}{pos pos' apos:PySem.Pos}{r lp ls lw p:Addr}{ps:List (List Nat)}{s:RS}{c:Step}(R:eF C H r lp ls lw ps s)(hz:s.out.length<=900)(ho:E X o σ H (.v (.ref ls)))(he:E X e σ H (.v (.ref p)))(hp:H p=some (.lst (c.map tS)))(n1:p≠ls)(n2:p≠lw)
 (h:∀H2,eF C H2 r lp ls lw ps { s with out:=s.out++ [c] }->iS r ls lw H H2->sb X rest D σ H2)
 (hs:swapsWith (.Call (.Attribute o "append" apos) [e] [] pos') none pos.line X.env=pure false:=by rfl)(cC:attributeBase o "append" X.env (eval o X.env)=eval o X.env:=by rfl)
 (nE:((backTo pos' (starEach [e] X.env)).all (λx=> !x.1)&&(backToKw pos' (keywordEach [] X.env)).all (λx=>x.1.isSome)
   &&decide ([e].length+([]:List Keyword).length+(if ([]:List Keyword).isEmpty then 0 else 1)<30))=true:=by rfl)
 (hline:(apos.endLine==pos'.line)=true:=by rfl)(hU:starEach [e] X.env=(false,eval e X.env)::starEach [] X.env:=by rfl):
 sb X (.Expr (.Call (.Attribute o "append" apos) [e] [] pos') pos::rest) D σ H:=by
 obtain⟨as0,b1,_,_⟩:=R.J0
 refine dh ho b1 (λH1 S1=>he H1 S1 _ λv H2 S2 ov=> ?_) hs cC nE hline hU
 have ev:v=.ref p:=ov
 subst ev
 have kJ:=sizeLine_eq
 have S:=S1.trans S2
 have R2:=R.up S
 obtain⟨dx,i,h1,h2,h3⟩:=R2.ob
 obtain⟨m1,m2⟩:=R2.Se
 obtain⟨k1,k2,k3⟩:=R2.ne
 obtain⟨as,a1,a2,a3⟩:=R2.J0
 refine⟨_,a1,by rw[List.length_map,a2.1];omega,h _ ⟨⟨dx,i,(aj m1).trans h1,h2,h3⟩,(aj k2).trans R2.Gy,(aj k1.symm).trans R2.Bi,⟨as++ [p],?_,?_,?_⟩,R2.ne⟩ (iS.upd S (.inr (.inl rfl)))⟩
 ·rw[ak,List.map_append]
  rfl
 ·exact dz.snoc (a2.mono λa ha o hh=>(aj (a3 a ha).1).trans hh) ((aj n1).trans (S _ _ hp))
 ·intro a ha
  rcases List.mem_append.mp ha with ha|ha
  ·exact a3 a ha
  ·rw[List.mem_singleton.mp ha]
   exact⟨n1,n2⟩
theorem AJ(t:List Nat):aG t<=3:=by
 unfold aG
 split
 ·decide
 ·split
  ·decide
  ·split<;>decide
theorem lK:ao ["reader","part","claim"] ["reader"] (ah (top 110)):=b5
theorem AK{f:Addr}{fd:FuncData}(F:jq K "take_one" "take_one" (top 110) f fd)(G:Gs mg)(Gt:Gt K mg)(TR:Tr K C)(fj:Cal P w K mg ae "claim_length" 2 (Pq kD))(jS:Cal P w K mg ae "is_claim" 2 (Pq rH)):bD P w K mg ae eT 3 f fd ["reader"] (qF C eU):=by
 refine F.ok lK (λvs H Q XE h=> ?_) (λaK A0 aq s0 H vs Q XE hr h=>⟨_,aD,?_⟩)
 ·obtain⟨r,lp,ls,lw,ps,s,rfl,_⟩:=h
  rfl
 ·obtain⟨r,lp,ls,lw,ps,s,rfl,R,ok,hW,UB,hQ⟩:=h
  obtain⟨f1,f2,f3,f4,i,f5,hd,hi⟩:=R.fd TR
  obtain⟨lt,hg,Zu⟩:=eF.head (H:=H) (r:=r) (lp:=lp) (ls:=ls) (lw:=lw) hd hW
  generalize hw:s.l.headD []=wd at hg
  refine dH 1 (ix ((fld (nm 0) f1).lst (aF.of R.Gy)) (fld (nm 0) f5) (cZ (v:=tS wd) (by rw[List.getElem?_map,hg];rfl))) (λH1 S1=> ?_) lK.nd
  have R1:=R.up S1
  obtain⟨g1,g2,g3,g4,i1,g5,U6,hi'⟩:=R1.fd TR
  have z9:=ok.z
  refine ph (ai (pM (l:=opens)) (nm 1) (tup (xs:=opens.map tS) (a1 Gt.s (a1 Gt.s a0)) (by show 2<=sizeLine;decide))) (λho H2 S2=> ?_) (λho H2 S2=> ?_)
  ·have e:eU s=({ s with l:=s.l.drop 1,st:=wd::s.st },true):=by
    unfold eU
    rw[hw,if_pos ho]
   rw[e] at hQ
   have R2:=R1.up S2
   obtain⟨k1,k2,k3,k4,i2,k5,hd2,hi2⟩:=R2.fd TR
   refine J2 R2 (by omega) (fld (nm 0) k3) (nm 1) λH3 R3 Vc=> ?_
   obtain⟨q1,q2,q3,q4,i3,q5,X9,hi3⟩:=R3.fd TR
   have X9:ps.drop i3=s.l:=X9
   obtain⟨lt3,_,Yb⟩:=eF.head (H:=H) (r:=r) (lp:=lp) (ls:=ls) (lw:=lw) X9 hW
   refine QK (i':=i3+1) TR R3 (nm 0) (E.cast (add (fld (nm 0) q5) int) (show Sh.v (V.int ((i3:Int)+1))=_ by congr 2)) (by omega) λH4 R4 QM _=>cB bl λH5 S5=>hQ H5 ?_ ((((iS.same (S1.trans S2)).trans Vc).trans QM).trans (iS.same S5))
   have K0:eF C H4 r lp ls lw ps { s with l:=ps.drop (i3+1),st:=wd::s.st }:=R4
   rw[Yb] at K0
   exact K0.up S5
  ·have e:eU s=({ s with l:=s.l.drop (s.l.take (aG wd)).length,out:=s.out++ [s.l.take (aG wd)],want:=false },bh (s.l.take (aG wd))):=by
    unfold eU
    rw[hw,if_neg (by rw[ho];simp)]
   rw[e] at hQ
   have R2:=R1.up S2
   obtain⟨k1,k2,k3,k4,i2,k5,hd2,hi2⟩:=R2.fd TR
   have cl3:=AJ wd
   have ec:va (ps.map tS) (some (i2:Int)) (some (((i2:Nat):Int)+((aG wd:Nat):Int)))=(s.l.take (aG wd)).map tS:=by
    rw[show((i2:Nat):Int)+((aG wd:Nat):Int)=((i2+aG wd:Nat):Int) by omega,xF,<-List.map_drop,<-List.map_take,hd2]
    congr 2
    omega
   refine dD 2 (C4 ((fld (nm 0) k1).lst (aF.of R2.Gy)) (fld (nm 0) k5) (add (fld (nm 0) k5) (call (fj.at hr) (a1 (nm 1) a0) ⟨wd,rfl,rfl⟩)) H2 (au.refl _) _ λp H3 S3 np hp=> ?_) lK.nd
   rw[ec] at hp
   have R3:=R2.up S3
   obtain⟨q1,q2,q3,q4,_⟩:=R3.fd TR
   obtain⟨as,Sb,_,_⟩:=R2.J0
   have n1:p≠ls:=λz=>by rw[z,Sb] at np;cases np
   have n2:p≠lw:=λz=>by rw[z,R2.Bi] at np;cases np
   obtain⟨dx,_,XT,_⟩:=R2.ob
   have n3:p≠r:=λz=>by rw[z,XT] at np;cases np
   refine QL R3 (by omega) (fld (nm 0) q2) (nm 2) hp n1 n2 λH4 R4 QM=> ?_
   have R0:=QM p _ hp n3 n1 n2
   obtain⟨_,_,_,_,i4,q5,UC,hi4⟩:=R4.fd TR
   have UC:ps.drop i4=s.l:=UC
   have cll:(s.l.take (aG wd)).length<=s.l.length:=by rw[List.length_take];omega
   have NZ:s.l.length=ps.length - i4:=by rw[<-UC,List.length_drop]
   refine QK (i':=i4+(s.l.take (aG wd)).length) TR R4 (nm 0) (E.cast (add (fld (nm 0) q5) (len (a1 ((nm 2).lst (aF.of R0)) a0) (G.b _ (by decide)))) (by rw[List.length_map];congr 2)) (by omega) λH5 R5 vM kp5=> ?_
   have Uq:=kp5 p _ R0 n3
   refine J1 TR R5 (nm 0) bl λH6 R6 Ol kp6=> ?_
   have hp6:=kp6 p _ Uq n3
   refine cB (call (jS.at hr) (a1 ((nm 2).lst (aF.of hp6)) a0) ⟨_,rfl,λt ht=>ok.a t ?_,by rw[List.length_take];omega,rfl⟩) λH7 S7=>hQ H7 ?_ (((((iS.same ((S1.trans S2).trans S3)).trans QM).trans vM).trans Ol).trans (iS.same S7))
   ·have Zv:eF C H6 r lp ls lw ps { s with l:=ps.drop (i4+(s.l.take (aG wd)).length),out:=s.out++ [s.l.take (aG wd)],want:=false }:=R6
    rw[show ps.drop (i4+(s.l.take (aG wd)).length)=s.l.drop (s.l.take (aG wd)).length by rw[<-UC,List.drop_drop]] at Zv
    exact Zv.up S7
   ·have:=List.mem_of_mem_take ht
    rw[<-UC] at this
    exact List.mem_of_mem_drop this
theorem gY:ao ["reader","part"] ["reader"] (ah (top 112)):=b5
theorem nY{f fE fC:Addr}{fd Oj Og:FuncData}(F:jq K "take_behind_one" "take_behind_one" (top 112) f fd)(G:Gs mg)(Gt:Gt K mg)(TR:Tr K C)(FE:bD P w K mg ae eT 1 fE Oj ["reader","binding"] (EI C))(mE:mg "end_closer"=some (.ref fE))(kE:W.keepIn K (.ref fE)=true)(bE:Binds K Oj ["reader","binding"] [])
 (FC:bD P w K mg ae eT 2 fC Og ["reader"] (EJ C))(mC:mg "take_closing"=some (.ref fC))(kC:W.keepIn K (.ref fC)=true)(bC:Binds K Og ["reader"] []):bD P w K mg ae eT 3 f fd ["reader"] (qF C cV):=by
 refine F.ok gY (λvs H Q XE h=> ?_) (λaK A0 aq s0 H vs Q XE hr h=>⟨_,aD,?_⟩)
 ·obtain⟨r,lp,ls,lw,ps,s,rfl,_⟩:=h
  rfl
 ·obtain⟨r,lp,ls,lw,ps,s,rfl,R,ok,hW,UB,hQ⟩:=h
  obtain⟨f1,f2,f3,f4,i,f5,hd,hi⟩:=R.fd TR
  obtain⟨lt,hg,Zu⟩:=eF.head (H:=H) (r:=r) (lp:=lp) (ls:=ls) (lw:=lw) hd hW
  generalize hw:s.l.headD []=wd at hg
  have z9:=ok.z
  refine dH 1 (ix ((fld (nm 0) f1).lst (aF.of R.Gy)) (fld (nm 0) f5) (cZ (v:=tS wd) (by rw[List.getElem?_map,hg];rfl))) (λH1 S1=> ?_) gY.nd
  have R1:=R.up S1
  refine QK (i':=i+1) TR R1 (nm 0) (E.cast (add (fld (nm 0) (f5.up S1)) int) (show Sh.v (V.int ((i:Int)+1))=_ by congr 2)) (by omega) λH2 R2 X3 _=> ?_
  rw[Zu] at R2
  have fr:=(iS.same S1).trans X3
  have eB:cV s=if wd= [41] then bH { s with l:=s.l.drop 1 } else if cH.contains wd=false then({ s with l:=s.l.drop 1 },false) else({ aM (bp wd) { s with l:=s.l.drop 1 } with st:=wd::(aM (bp wd) { s with l:=s.l.drop 1 }).st,want:=true },true):=by
   unfold cV
   rw[hw]
  refine ph (ai di (nm 1) (Gt.s (t:= [41]))) (λhc H3 S3=> ?_) (λhc H3 S3=> ?_)
  ·rw[eB,if_pos (of_decide_eq_true hc)] at hQ
   refine bA (cS (ys:= [.ref r]) FC (hr.mono (by decide)) mC kC bC (a1 (nm 0) a0) λH4 S4=>⟨r,lp,ls,lw,ps,_,rfl,(R2.up S3).up S4,⟨ok.b,ok.z,ok.a⟩,λH5 R5 vM=>hQ H5 R5 ((fr.trans (iS.same (S3.trans S4))).trans vM)⟩)
  ·rw[eB,if_neg (of_decide_eq_false hc)] at hQ
   refine ph (ai (JW (l:=cH)) (nm 1) (tup (xs:=cH.map tS) (a1 Gt.s (a1 Gt.s a0)) (by show 2<=sizeLine;decide))) (λhj H4 S4=> ?_) (λhj H4 S4=> ?_)
   ·have hj:cH.contains wd=false:=by simpa using hj
    rw[if_pos hj] at hQ
    exact cB bl λH5 S5=>hQ H5 (((R2.up S3).up S4).up S5) (fr.trans (iS.same ((S3.trans S4).trans S5)))
   ·have hj:cH.contains wd=true:=by simpa using hj
    rw[if_neg (by rw[hj];simp)] at hQ
    have bw:MH wd:=by
     rcases fz.mp hj with e|e
     ·exact .inr (.inr (.inl e))
     ·exact .inr (.inl e)
    have R4:=(R2.up S3).up S4
    refine Ev.nT (cS (ys:= [.ref r,.int ((bp wd:Nat):Int)]) FE (hr.mono (by decide)) mE kE bE (a1 (nm 0) (a1 (Gt.b (nm 1) bw) a0)) λH5 S5=>⟨r,lp,ls,lw,ps,_,bp wd,rfl,R4.up S5,ok.b,by show s.out.length+s.st.length<=1000;omega,λH6 R6 Ol=> ?_⟩)
    have fr:=((fr.trans (iS.same ((S3.trans S4).trans S5))).trans Ol)
    obtain⟨q1,q2,q3,q4,_⟩:=R6.fd TR
    have zz:∀(b:Nat)(st:List (List Nat))(o:List Step),(closer b st o).1.length<=st.length:=λb st=>by
     induction st with
     |nil=>intro o;exact Nat.le_refl _
     |cons t st ih=>
      intro o
      by_cases q:b<bp t
      ·rw[jA q]
       exact Nat.le_trans (ih _) (Nat.le_succ _)
      ·rw[i9 q]
       exact Nat.le_refl _
    refine J2 R6 (Nat.le_trans (zz _ _ _) (by show s.st.length<=900;omega)) (fld (nm 0) q3) (nm 1) λH7 R7 VD=> ?_
    obtain⟨_,_,_,_,_⟩:=R7.fd TR
    refine J1 TR R7 (nm 0) bl λH8 R8 fr8 _=>cB bl λH9 S9=>hQ H9 (R8.up S9) (((fr.trans VD).trans fr8).trans (iS.same S9))
theorem MK:ao ["reader"] ["reader"] (ah (top 113)):=b5
theorem ML{f f1 f2:Addr}{fd ug fd2:FuncData}(F:jq K "take" "take" (top 113) f fd)(TR:Tr K C)(F1:bD P w K mg ae eT 3 f1 ug ["reader"] (qF C eU))(m1:mg "take_one"=some (.ref f1))(k1:W.keepIn K (.ref f1)=true)(b1:Binds K ug ["reader"] [])
 (F2:bD P w K mg ae eT 3 f2 fd2 ["reader"] (qF C cV))(m2:mg "take_behind_one"=some (.ref f2))(k2:W.keepIn K (.ref f2)=true)(b2:Binds K fd2 ["reader"] []):bD P w K mg ae eT 4 f fd ["reader"] (qF C cE):=by
 refine F.ok MK (λvs H Q XE h=> ?_) (λaK A0 aq s0 H vs Q XE hr h=>⟨_,aD,?_⟩)
 ·obtain⟨r,lp,ls,lw,ps,s,rfl,_⟩:=h
  rfl
 ·obtain⟨r,lp,ls,lw,ps,s,rfl,R,ok,hW,UB,hQ⟩:=h
  obtain⟨_,_,_,f4,_⟩:=R.fd TR
  refine bA (C5 (aI (fld (nm 0) f4)) (λhk H2 S2=> ?_) (λhk H2 S2=> ?_))
  ·have e:cE s=eU s:=if_pos hk
   rw[e] at hQ
   exact cS (ys:= [.ref r]) F1 (hr.mono (by decide)) m1 k1 b1 (a1 (nm 0) a0) λH3 S3=>⟨r,lp,ls,lw,ps,s,rfl,(R.up S2).up S3,ok,hW,UB,λH' R' fr=>hQ H' R' ((iS.same (S2.trans S3)).trans fr)⟩
  ·have e:cE s=cV s:=if_neg (by rw[hk];simp)
   rw[e] at hQ
   exact cS (ys:= [.ref r]) F2 (hr.mono (by decide)) m2 k2 b2 (a1 (nm 0) a0) λH3 S3=>⟨r,lp,ls,lw,ps,s,rfl,(R.up S2).up S3,ok,hW,UB,λH' R' fr=>hQ H' R' ((iS.same (S2.trans S3)).trans fr)⟩
end
end Mu
namespace Ev
open PySem PySem.Spec PyProof.Rows L2
section
variable{X:Cx}{c e:Expr}{bd rest:List Stmt}{σ:L2.St}{H:Hp}{D:Ends}{pos:PySem.Pos}
theorem UD(h:st X c σ H λk H2=>if k=true then sb X bd { D with nx:=λaO H'=>sb X rest D aO H' } σ H2 else sb X rest D σ H2):sb X (.If c bd [] pos::rest) D σ H:=
 cQ (aU (DQ il aD lS) aD) h
theorem Nl.go{xs:List V}{Q:VK}(h:Nl X e σ H xs)(hQ:∀a H2,au H H2->H a=none->H2 a=some (.lst xs)->Q (.ref a) H2):se X e σ H Q:=h H (au.refl _) Q hQ
theorem C6{Q:Bool->Hp->Prop}(h:se X e σ H λv H2=>∃k,v=.bl k/\Q (!k) H2)(he:∀whole,isTrue e X.env whole=(do let v <-whole;standAt e.pos;holding [v] (truthy v)):=by intro _;rfl):st X (.UnaryOp .Not e pos) σ H Q:=
 zS (L2.Hk il) (zS (Hj az he) h)
end
end Ev
namespace Mu
open PySem PySem.Spec PyProof.Rows L2 Ev
open Km383 (House Book Ans)
theorem jT(b:Nat):∀(st:List (List Nat))(o:List Step),(closer b st o).1.length+(closer b st o).2.length=st.length+o.length
 | [],o=>rfl
 |t::sk,o=>by
  by_cases q:b<bp t
  ·rw[jA q,jT b sk,List.length_append]
   show sk.length+(o.length+1)=sk.length+1+o.length
   omega
  ·rw[i9 q]
theorem nZ(b:Nat):∀(st:List (List Nat))(o:List Step)(t:List Nat),t∈(closer b st o).1->t∈st
 | [],o,t,h=>h
 |a::sk,o,t,h=>by
  by_cases q:b<bp a
  ·rw[jA q] at h
   exact List.mem_cons_of_mem _ (nZ b sk _ t h)
  ·rw[i9 q] at h
   exact h
def EK(s:RS):Nat:=s.out.length+s.st.length+s.l.length
theorem Gz{s:RS}(hl:s.l≠ [])(ht:(cE s).2=true)(hb:∀t∈s.st,MH t):(∀t∈(cE s).1.st,MH t)/\EK (cE s).1<=EK s:=by
 obtain⟨l,o,st,k⟩:=s
 cases l with
 |nil=>exact absurd rfl hl
 |cons w l=>
  have hb:∀t∈st,MH t:=hb
  cases k with
  |true=>
   rw[qj,tU] at ht ⊢
   by_cases ho:opens.contains w=true
   ·rw[if_pos ho]
    refine⟨λt h=> ?_,?_⟩
    ·rcases List.mem_cons.mp h with e|h
     ·rw[e]
      have:w=Km383.wNot\/w= [40]:=by simpa [opens] using ho
      rcases this with e|e
      ·exact .inr (.inr (.inr e))
      ·exact .inl e
     ·exact hb t h
    ·show o.length+(st.length+1)+l.length<=o.length+st.length+(l.length+1)
     omega
   ·rw[if_neg ho] at ht ⊢
    have cp:=wc ht
    refine⟨hb,?_⟩
    show(o++ [_]).length+st.length+((w::l).drop _).length<=o.length+st.length+(w::l).length
    rw[List.length_append,List.length_drop]
    have cl:((w::l).take (aG w)).length<=(w::l).length:=by rw[List.length_take];omega
    show o.length+1+st.length+_<=_
    omega
  |false=>
   rw[gO,dj] at ht ⊢
   by_cases q:w= [41]
   ·rw[if_pos q] at ht ⊢
    unfold bH at ht ⊢
    by_cases e:(aM 0 ⟨l,o,st,false⟩).st= []
    ·rw[if_pos e] at ht
     cases ht
    ·rw[if_neg e]
     have cl:=jT 0 st o
     refine⟨λt h=>hb t (nZ 0 st o t (List.mem_of_mem_drop h)),?_⟩
     show(closer 0 st o).2.length+((closer 0 st o).1.drop 1).length+l.length<=o.length+st.length+(l.length+1)
     rw[List.length_drop]
     omega
   ·rw[if_neg q] at ht ⊢
    by_cases j:cH.contains w=false
    ·rw[if_pos j] at ht
     cases ht
    ·rw[if_neg j]
     have cl:=jT (bp w) st o
     refine⟨λt h=> ?_,?_⟩
     ·rcases List.mem_cons.mp h with e|h
      ·rw[e]
       have jt:cH.contains w=true:=by simpa using j
       rcases fz.mp jt with e|e
       ·exact .inr (.inr (.inl e))
       ·exact .inr (.inl e)
      ·exact hb t (nZ _ st o t h)
     ·show(closer (bp w) st o).2.length+((closer (bp w) st o).1.length+1)+l.length<=o.length+st.length+(l.length+1)
      omega
theorem QN{s:RS}(hl:s.l≠ []):cq s=if (cE s).2=true then cq (cE s).1 else none:=by
 rw[cq]
 rw[dif_neg hl]
 split<;>rfl
theorem MN{s:RS}(hl:s.l= []):cq s=xx s:=by
 rw[cq]
 rw[dif_pos hl]
theorem J3:∀(n:Nat)(l:List Nat),l.length<=n->∀w∈toks l,(∀k∈w,k∈l)/\w.length<=l.length:=by
 intro n
 induction n with
 |zero=>
  intro l hl
  rw[List.length_eq_zero_iff.mp (Nat.le_zero.mp hl),oU]
  intro w hw
  cases hw
 |succ n ih=>
  intro l hl
  cases l with
  |nil=>exact ih [] (Nat.zero_le _)
  |cons b l=>
   have p1:=ig b l
   have d:=List.length_drop (i:=aP (b::l)) (l:=b::l)
   have h1:=ih ((b::l).drop (aP (b::l))) (by rw[d,List.length_cons];simp at hl;omega)
   have rest:∀w∈toks ((b::l).drop (aP (b::l))),(∀k∈w,k∈b::l)/\w.length<=(b::l).length:=λw hw=>by
    obtain⟨a1,a2⟩:=h1 w hw
    exact⟨λk hk=>List.mem_of_mem_drop (a1 k hk),by omega⟩
   rw[ja]
   split
   ·exact rest
   ·intro w hw
    rcases List.mem_cons.mp hw with e|hw
    ·rw[e]
     exact⟨λk hk=>List.mem_of_mem_take hk,by rw[List.length_take];omega⟩
    ·exact rest w hw
section
variable{P:Program}{w:World}{K:W.Frag}{mg:Str->Option Value}{ae:Heap}{C:Addr}
def AO(C:Addr)(ys:List V)(a:Addr)(H H':Hp):Prop:=∀lp,ys= [.ref lp]->∃dx ls lw,H' a=some (.ins C dx (EH lp 0 ls lw true))/\H' ls=some (.lst [])/\H' lw=some (.lst [])/\H ls=none/\H lw=none/\ls≠lw
abbrev EL:Stmt:=inClass (top 108) 0
theorem GA:ao ["self","parts"] ["self","parts"] (ah EL):=b5
theorem AQ{f:Addr}{fd:FuncData}(F:jq K "__init__" "Reader.__init__" EL f fd)(TR:Tr K C):bD P w K mg ae eT 1 f fd ["self","parts"] (ji C 1 (AO C)):=by
 refine F.ok GA (λvs H Q XE h=> ?_) (λaK A0 aq s H vs Q XE hr h=>⟨_,aD,?_⟩)
 ·obtain⟨p,dx,ys,rfl,hl,_⟩:=h
  show ys.length+1=2
  rw[hl]
 ·obtain⟨p,dx,ys,rfl,hl,hp,k⟩:=h
  obtain⟨u,rfl⟩:=aaf hl
  refine cv (nm 0) (nm 1) λH1 S1=>⟨C,dx, [],S1 _ _ hp,TR.c,TR.f _ (by decide),(by decide),?_⟩
  refine cv (nm 0) int λH2 S2=>⟨C,dx,_,S2 _ _ ak,TR.c,TR.f _ (by decide),(by show 1<1000;decide),?_⟩
  have st:∀b o',H b=some o'->b≠p->upd H2 p (.ins C dx (cY "at" (.int 0) (cY "parts" u []))) b=some o':=λb o' h hb=>by
   rw[aj hb]
   refine S2 _ _ ?_
   rw[aj hb]
   exact S1 _ _ h
  refine jH (gT _ (au.refl _) _ λsl H3 S3 JB NZ=>⟨p,nm 0,λH4 S4=>⟨C,dx,_,S4 _ _ (S3 _ _ ak),TR.c,TR.f _ (by decide),(by show 2<1000;decide),?_⟩⟩)
  have K1:sl≠p:=λz=>by
   rw[z,ak] at JB
   cases JB
  refine jH (gT _ (au.refl _) _ λll H5 S5 CB XX=>⟨p,nm 0,λH6 S6=>⟨C,dx,_,S6 _ _ (S5 _ _ ak),TR.c,TR.f _ (by decide),(by show 3<1000;decide),?_⟩⟩)
  have Ae:ll≠p:=λz=>by
   rw[z,ak] at CB
   cases CB
  have Ep:sl≠ll:=λz=>by
   rw[<-z,aj K1,S4 _ _ NZ] at CB
   cases CB
  refine cv (nm 0) bl λH7 S7=>⟨C,dx,_,S7 _ _ ak,TR.c,TR.f _ (by decide),(by show 4<1000;decide),?_⟩
  have s4:∀b o',H4 b=some o'->b≠p->H7 b=some o':=λb o' h hb=>S7 _ _ (by rw[aj hb];exact S6 _ _ (S5 _ _ (by rw[aj hb];exact h)))
  refine dB (k _ (λlp e=> ?_) λb o' h hb=> ?_)
  ·cases e
   refine⟨dx,sl,ll,ak,by rw[aj K1];exact s4 _ _ (S4 _ _ NZ) K1,?_,?_,?_,Ep⟩
   ·rw[aj Ae]
    refine S7 _ _ ?_
    rw[aj Ae]
    exact S6 _ _ XX
   ·cases z:H sl with
    |none=>rfl
    |some o'=>
     rw[st sl o' z K1] at JB
     cases JB
   ·cases z:H ll with
    |none=>rfl
    |some o'=>
     rw[aj Ae,S4 _ _ (S3 _ _ (st ll o' z Ae))] at CB
     cases CB
  ·rw[aj hb]
   exact s4 _ _ (S4 _ _ (S3 _ _ (st b o' h hb))) hb
def ER(K:W.Frag):Sp:=λys H Q _=>∃(lp:Addr)(ps:List (List Nat)),ys= [.ref lp]/\H lp=some (.lst (ps.map tS))/\(∀t∈ps,ascii t/\t.length<=1000)/\ps.length<=500/\
 (cq ⟨ps, [], [],true⟩=none->∀H',au H H'->Q .non H')/\(∀o,cq ⟨ps, [], [],true⟩=some o->o.length<=ps.length->∀ls as H',au H H'->H' ls=some (.lst (as.map .ref))->dz H' as o->Q (.ref ls) H')
theorem rL:ao ["parts","reader"] ["parts"] (ah (top 114)):=b5
theorem AR{f f1 fE fT:Addr}{fd ug Oj JC:FuncData}(F:jq K "steps_of" "steps_of" (top 114) f fd)(G:Gs mg)(Gt:Gt K mg)(TR:Tr K C)(mR:mg "Reader"=some (.ref C))(MR:Mk K C f1)(FR:bD P w K mg ae eT 1 f1 ug ["self","parts"] (ji C 1 (AO C)))(bR:Binds K ug ["self","parts"] [])
 (FE:bD P w K mg ae eT 1 fE Oj ["reader","binding"] (EI C))(mE:mg "end_closer"=some (.ref fE))(kE:W.keepIn K (.ref fE)=true)(bE:Binds K Oj ["reader","binding"] [])
 (FT:bD P w K mg ae eT 4 fT JC ["reader"] (qF C cE))(mT:mg "take"=some (.ref fT))(kT:W.keepIn K (.ref fT)=true)(bT:Binds K JC ["reader"] []):bD P w K mg ae eT 5 f fd ["parts"] (ER K):=by
 refine F.ok rL (λvs H Q XE h=> ?_) (λaK A0 aq s0 H vs Q XE hr h=>⟨_,aD,?_⟩)
 ·obtain⟨lp,ps,rfl,_⟩:=h
  rfl
 ·obtain⟨lp,ps,rfl,Zw,ha,UB,hN,hS⟩:=h
  refine dD 1 (nQ (ys:= [.ref lp]) MR FR (hr.mono (by decide)) mR bR (a1 (nm 0) a0) rfl λr H0 H2 S0 nr S2 ⟨H1,Ab,S1⟩=> ?_) rL.nd
  obtain⟨dx,ls,lw,ho,Mj,UA,Ep,nlw,Yc⟩:=Ab lp rfl
  have Yd:H0 ls=none:=au.free S1 Ep
  have Ye:H0 lw=none:=au.free S1 nlw
  have tr:∀{y:Addr}{o:HO},H y=some o->y≠r/\y≠ls/\y≠lw:=λ{y o} hy=>⟨(λz=>by have:=S0 _ _ hy;rw[z,nr] at this;cases this),(λz=>by have:=S0 _ _ hy;rw[z,Yd] at this;cases this),(λz=>by have:=S0 _ _ hy;rw[z,Ye] at this;cases this)⟩
  obtain⟨t1,t2,t3⟩:=tr Zw
  have R:eF C H2 r lp ls lw ps ⟨ps, [], [],true⟩:=⟨⟨dx,0,ho,rfl,Nat.zero_le _⟩,S2 _ _ (S0 _ _ Zw),UA,⟨[],Mj,⟨rfl,(λk a t h=>by cases h)⟩,(λa h=>by cases h)⟩,Yc,t2,t3⟩
  have same:∀{H':Hp},iS r ls lw H2 H'->au H H':=λ{H'} fr y o hy=>by
   obtain⟨n1,n2,n3⟩:=tr hy
   exact fr y o (S2 _ _ (S0 _ _ hy)) n1 n2 n3
  refine mh (λn aO H'=>∃s:RS,n=s.l.length/\aO= [some (.ref lp),some (.ref r)]/\eF C H' r lp ls lw ps s/\cq s=cq ⟨ps, [], [],true⟩/\(∀t∈s.st,MH t)/\EK s<=ps.length/\iS r ls lw H2 H') (n:=ps.length) ⟨⟨ps, [], [],true⟩,rfl,rfl,R,rfl,(λt h=>by cases h),by unfold EK;simp,iS.same (au.refl _)⟩ (λn aO H' ⟨s,en,oj,R',er,hB,hz,fr⟩=> ?_) PassesOwn.never
  subst en oj
  obtain⟨g1,g2,g3,g4,i,g5,hd,hi⟩:=R'.fd TR
  have Bg:s.out.length+s.st.length+s.l.length<=ps.length:=hz
  refine⟨_,ai zT (fld (nm 1) g5) (len (a1 ((nm 0).lst (aF.of R'.Gy)) a0) (G.b _ (by decide))),λhk H3 S3=> ?_,λhk H3 S3=> ?_⟩
  ·have hW:s.l≠ []:=λz=>by
    have:=of_decide_eq_true hk
    rw[List.length_map] at this
    rw[z,List.drop_eq_nil_iff] at hd
    omega
   refine UD (C6 (cS (ys:= [.ref r]) FT (hr.mono (by decide)) mT kT bT (a1 (nm 1) a0) λH4 S4=>⟨r,lp,ls,lw,ps,s,rfl,(R'.up S3).up S4,⟨hB,by omega,ha⟩,hW,by omega,λH5 R5 vM=>⟨_,rfl,?_⟩⟩))
   have vM:=(fr.trans (iS.same (S3.trans S4))).trans vM
   rw[QN hW] at er
   cases cW:(cE s).2 with
   |true=>
    rw[cW,if_pos rfl] at er
    obtain⟨k1,k2⟩:=Gz hW cW hB
    rw[if_neg (by simp)]
    exact dB ⟨(cE s).1.l.length,wg hW cW,(cE s).1,rfl,rfl,R5,er,k1,Nat.le_trans k2 hz,vM⟩
   |false=>
    rw[cW,if_neg (by simp)] at er
    rw[if_pos (by simp)]
    exact cB non λH6 S6=>hN er.symm H6 ((same vM).trans S6)
  ·have hl:s.l= []:=by
    have:=of_decide_eq_false hk
    rw[List.length_map] at this
    rw[<-hd]
    exact List.drop_of_length_le (by omega)
   rw[MN hl] at er
   refine Ev.nT (cS (ys:= [.ref r,.int ((bp [40]:Nat):Int)]) FE (hr.mono (by decide)) mE kE bE (a1 (nm 1) (a1 (Gt.b (Gt.s (t:= [40])) (.inl rfl)) a0)) λH4 S4=>⟨r,lp,ls,lw,ps,s,0,rfl,(R'.up S3).up S4,hB,by omega,λH5 R5 vM=> ?_⟩)
   have vM:=(fr.trans (iS.same (S3.trans S4))).trans vM
   obtain⟨q1,q2,q3,q4,_⟩:=R5.fd TR
   have cl:=jT 0 s.st s.out
   refine ph (tY (w_or (aI (fld (nm 1) q4)) λ_=>gP (ai rS (len (a1 ((fld (nm 1) q3).lst (aF.of R5.Bi)) a0) (G.b _ (by decide))) int))) (λhk H6 S6=> ?_) (λhk H6 S6=> ?_)
   ·have e:xx s=none:=by
     unfold xx
     rw[if_pos]
     rw[Bool.or_eq_true] at hk
     rcases hk with hk|hk
     ·exact .inl hk
     ·right
      have:=of_decide_eq_true hk
      rw[List.length_map,List.length_reverse] at this
      intro z
      rw[z] at this
      simp at this
    rw[e] at er
    exact cB non λH7 S7=>hN er.symm H7 (((same vM).trans S6).trans S7)
   ·rw[Bool.or_eq_false_iff] at hk
    have e:xx s=some (aM 0 s).out:=by
     unfold xx
     rw[if_neg]
     intro z
     rcases z with z|z
     ·have h1:s.want=false:=hk.1
      rw[z] at h1
      cases h1
     ·have:=of_decide_eq_false hk.2
      rw[List.length_map,List.length_reverse] at this
      refine z (List.length_eq_zero_iff.mp ?_)
      omega
    rw[e] at er
    have R6:=R5.up S6
    obtain⟨_,p2,_⟩:=R6.fd TR
    obtain⟨as,b1,b2,_⟩:=R6.J0
    refine cB (fld (nm 1) p2) λH7 S7=>hS _ er.symm ?_ ls as H7 (((same vM).trans S6).trans S7) (S7 _ _ b1) (b2.mono λa _ o h=>S7 _ _ h)
    show(closer 0 s.st s.out).2.length<=ps.length
    omega
def C7(K:W.Frag):Sp:=λys H Q _=>∃(ra:Addr)(row:List Nat),ys= [.ref ra]/\aF K H ra (row.map nV)/\row.length<=120/\
 (Km383.readAsk row=none->∀H',au H H'->Q .non H')/\(∀q,Km383.readAsk row=some q->gp q=true->(post q).length<=120->∀ls as H',au H H'->H' ls=some (.lst (as.map .ref))->dz H' as (post q)->Q (.ref ls) H')
theorem fJ:ao ["row","text"] ["row"] (ah (top 115)):=b5
theorem qG{f fS:Addr}{fd UE:FuncData}(F:jq K "read_question" "read_question" (top 115) f fd)(jn:Cal P w K mg ae "text_of" 1 (Pq uK))(jU:bU P w K mg ae "parts_of" 2 (y1 rK))(FS:bD P w K mg ae eT 5 fS UE ["parts"] (ER K))(mS:mg "steps_of"=some (.ref fS))(kS:W.keepIn K (.ref fS)=true)(bS:Binds K UE ["parts"] []):bD P w K mg ae eT 6 f fd ["row"] (C7 K):=by
 refine F.ok fJ (λvs H Q XE h=> ?_) (λaK A0 aq s0 H vs Q XE hr h=>⟨_,aD,?_⟩)
 ·obtain⟨ra,row,rfl,_⟩:=h
  rfl
 ·obtain⟨ra,row,rfl,Zx,hl,hN,hS⟩:=h
  have rr:=IE row hl
  cases hk:row.all aN with
  |false=>
   have e:Km383.readAsk row=none:=by
    rcases rr with⟨q,_,z,_⟩|⟨z,_⟩
    ·rw[hk] at z;cases z
    ·exact z
   refine dH 1 (y:=.non) (call (jn.at hr) (a1 ((nm 0).lst Zx) a0) ⟨row,rfl,by omega,by rw[hk];rfl⟩) (λH1 S1=> ?_) fJ.nd
   refine bA (C5 (T.cast (ai FV (nm 1) non) (k':=true) rfl) (λ_ H2 S2=> ?_) (λz=>nomatch z))
   exact non H2 (au.refl _) _ λv H3 S3 ov=>by
    have ev:v=.non:=ov
    subst ev
    exact hN e H3 ((S1.trans S2).trans S3)
  |true=>
   refine dH 1 (y:=tS row) (call (jn.at hr) (a1 ((nm 0).lst Zx) a0) ⟨row,rfl,by omega,by rw[hk];rfl⟩) (λH1 S1=> ?_) fJ.nd
   refine bA (C5 (T.cast (ai FV (nm 1) non) (k':=false) rfl) (λz=>nomatch z) (λ_ H2 S2=> ?_))
   have tl:=uL row.length row (Nat.le_refl _)
   have tm:=J3 row.length row (Nat.le_refl _)
   have asc:∀t∈toks row,ascii t/\t.length<=1000:=λt ht=>⟨λk Lv=>JZ (List.all_eq_true.mp hk k ((tm t ht).1 k Lv)),by have:=(tm t ht).2;omega⟩
   refine aY (jr (E:=E0) FS (hr.mono (by decide)) rfl mS kS bS .nil mN (bJ az du)) ?_
   refine Nl.go (bZ jU hr (by decide) (a1 (nm 1) a0) ⟨row,rfl,by omega,rfl⟩) λp H3 S3 np hp=> ?_
   refine⟨p,toks row,rfl,hp,asc,by omega,λer H4 S4=> ?_,λo er ol ls as H4 S4 h1 h2=> ?_⟩
   ·have e:Km383.readAsk row=none:=by
     rcases rr with⟨q,_,_,z,_⟩|⟨z,_⟩
     ·rw[er] at z;cases z
     ·exact z
    exact hN e H4 (((S1.trans S2).trans S3).trans S4)
   ·rcases rr with⟨q,z1,_,z,fu,l',r',z4⟩|⟨_,z⟩
    ·rw[er] at z
     cases z
     exact hS q z1 (nO fu 0 l' q r' z4) (by omega) ls as H4 (((S1.trans S2).trans S3).trans S4) h1 h2
    ·rcases z with z|z
     ·rw[hk] at z;cases z
     ·rw[er] at z;cases z
end
end Mu
namespace Ev
open PySem PySem.Spec PyProof.Rows L2
section
variable{X:Cx}{c:Expr}{bd rest:List Stmt}{σ:L2.St}{H:Hp}{D:Ends}{sh:Sh}{pos:PySem.Pos}{k:Bool}
theorem eP(h:T X c σ H k)(hk:k=false)(h':S X rest σ H sh):S X (.If c bd [] pos::rest) σ H sh:=zU h (λq=>by rw[hk] at q;cases q) (λ_=>h')
theorem lL(h:T X c σ H k)(hk:k=true)(h':S X bd σ H sh):S X (.If c bd [] pos::rest) σ H sh:=zU h (λ_=>h') (λq=>by rw[hk] at q;cases q)
theorem pP(h:T X c σ H k)(hk:k=false)(h':∀H2,au H H2->sb X rest D σ H2):sb X (.If c bd [] pos::rest) D σ H:=ph h (λq=>by rw[hk] at q;cases q) (λ_=>h')
theorem n8(h:T X c σ H k)(hk:k=true)(h':∀H2,au H H2->sb X bd { D with nx:=λaO H'=>sb X rest D aO H' } σ H2):sb X (.If c bd [] pos::rest) D σ H:=ph h (λ_=>h') (λq=>by rw[hk] at q;cases q)
end
end Ev
namespace Mu
open PySem PySem.Spec PyProof.Rows L2 Ev
open Km383 (House Book Ans)
theorem EV{t:List Nat}(h:isNum t=true):intText? ⟨t.toArray⟩=some ((fA t:Nat):Int):=by
 obtain⟨h1,h2,h3,_⟩:=fD h
 have ad:NumText.AllDigits (⟨t.toArray⟩:Str).cps.toList:=by
  show NumText.AllDigits t.toArray.toList
  rw[List.toList_toArray]
  intro c hc
  have:=List.all_eq_true.mp h2 c hc
  unfold Km383.isDigit at this
  simpa using this
 rw[intText_digits ad (by show t.toArray.toList≠ [];rw[List.toList_toArray];exact h1) (by rw[fh];omega)]
 congr 2
 show NumText.digitsVal t.toArray.toList=_
 rw[List.toList_toArray]
 unfold NumText.digitsVal fA
 congr 1
 funext n b
 omega
section
variable{P:Program}{w:World}{K:W.Frag}{mg:Str->Option Value}{ae:Heap}
def Yg(f:List Nat):Nat:=(Km383.wFields.idxOf? f).getD 0
def rM(m:Addr)(b:Book)(A:aQ)(l:List Sh)(z:Sh):Prop:=∃(t:Nat)(g:List Nat),l= [.v (.ref m),.v (.int t),.v (tS g)]/\t<b.house.things.length/\isField g=true/\z=.v (.int ((Km383.field b.house t (Yg g):Nat):Int))
theorem rN:ao ["museum","thing","field","kept"] ["museum","thing","field"] (ah (top 62)):=b5
theorem AU(D:Dn K mg "field_of" 62)(Gt:Gt K mg)(aV:Cal P w K mg ae "light_to" 1 (Rq K eK)):Cal P w K mg ae "field_of" 2 (Rq K rM):=by
 refine Cal.ofD D mU rN Rq.up ?_
 rintro f aK A0 aq s H XE l z ys hr os ⟨m,b,A,R,t,g,rfl,ht,hg,rfl⟩
 obtain rfl:=dv.vs (xs:= [.ref m,.int t,tS g]) os
 obtain⟨x,hx⟩:=R.sV ht
 have Zy:g∈Km383.wFields:=by simpa [isField] using hg
 simp only[Km383.wFields,List.mem_cons,List.not_mem_nil,or_false] at Zy
 refine gQ 3 (ix ((fld (nm 0) R.aX).lst (aF.of R.lt)) (nm 1) (wu hx)) ?_ rN.nd
 rcases Zy with rfl|rfl|rfl|rfl|rfl
 ·exact lL (ai di (nm 2) (Gt.s (t:= [108,105,103,104,116]))) (by decide) (aw (call (aV.at hr) (a1 (nm 0) (a1 (nm 1) (a1 (fld (nm 0) R.dg) a0))) ⟨m,b,A,R,t,_,rfl,ht,Nat.le_refl _,rfl⟩))
 ·refine eP (ai di (nm 2) (Gt.s (t:= [108,105,103,104,116]))) (by decide) ?_
  exact lL (ai di (nm 2) (Gt.s (t:= [108,105,109,105,116]))) (by decide) (aw (fld (nm 3) (R.xI hx)))
 ·refine eP (ai di (nm 2) (Gt.s (t:= [108,105,103,104,116]))) (by decide) ?_
  refine eP (ai di (nm 2) (Gt.s (t:= [108,105,109,105,116]))) (by decide) ?_
  exact lL (ai di (nm 2) (Gt.s (t:= [109,97,116,101,114,105,97,108]))) (by decide) (aw (fld (nm 3) (R.FZ hx)))
 ·refine eP (ai di (nm 2) (Gt.s (t:= [108,105,103,104,116]))) (by decide) ?_
  refine eP (ai di (nm 2) (Gt.s (t:= [108,105,109,105,116]))) (by decide) ?_
  refine eP (ai di (nm 2) (Gt.s (t:= [109,97,116,101,114,105,97,108]))) (by decide) ?_
  exact lL (ai di (nm 2) (Gt.s (t:= [104,97,114,109]))) (by decide) (aw (fld (nm 3) (R.N7 hx)))
 ·refine eP (ai di (nm 2) (Gt.s (t:= [108,105,103,104,116]))) (by decide) ?_
  refine eP (ai di (nm 2) (Gt.s (t:= [108,105,109,105,116]))) (by decide) ?_
  refine eP (ai di (nm 2) (Gt.s (t:= [109,97,116,101,114,105,97,108]))) (by decide) ?_
  refine eP (ai di (nm 2) (Gt.s (t:= [104,97,114,109]))) (by decide) ?_
  exact aw (fld (nm 3) (R.Ek hx))
def rO(l:List Sh)(z:Sh):Prop:=∃(a:Nat)(s:List Nat)(b:Nat),l= [.v (.int a),.v (tS s),.v (.int b)]/\z=.v (.bl (if s= [60] then decide (a<b) else if s= [61] then a==b else decide (b<a)))
theorem AV:ao ["number","sign","other"] ["number","sign","other"] (ah (top 63)):=b5
theorem AW(D:Dn K mg "compares" 63)(Gt:Gt K mg):Cal P w K mg ae "compares" 1 (Pq rO):=by
 refine Cal.ofD D mU AV Pq.up ?_
 rintro f aK A0 aq s0 H XE l z ys hr os ⟨a,s,b,rfl,rfl⟩
 obtain rfl:=dv.vs (xs:= [.int a,tS s,.int b]) os
 refine Ev.S.cast (qW (ai di (nm 1) (Gt.s (t:= [60]))) (λ_=>aw (cI zT (nm 0) (nm 2))) (λ_=>qW (ai di (nm 1) (Gt.s (t:= [61]))) (λ_=>aw (cI cg (nm 0) (nm 2))) (λ_=>aw (cI rS (nm 0) (nm 2))))) ?_
 by_cases h1:s= [60]
 ·rw[decide_eq_true h1,if_pos h1]
  show Sh.v (V.bl _)=_
  congr 2
  exact decide_eq_decide.mpr (by omega)
 ·rw[decide_eq_false h1,if_neg h1]
  by_cases h2:s= [61]
  ·rw[decide_eq_true h2,if_pos h2]
   show Sh.v (V.bl _)=_
   rw[Bool.beq_eq_decide_eq]
   congr 2
   exact decide_eq_decide.mpr (by omega)
  ·rw[decide_eq_false h2,if_neg h2]
   show Sh.v (V.bl _)=_
   congr 2
   exact decide_eq_decide.mpr (by omega)
def uM(l:List Sh)(z:Sh):Prop:=∃(a b:Bool)(s:List Nat),l= [.v (.bl a),.v (tS s),.v (.bl b)]/\z=.v (.bl (if s=Km383.wAnd then a&&b else a||b))
theorem C8:ao ["first","word","rest"] ["first","word","rest"] (ah (top 65)):=b5
theorem C9(D:Dn K mg "both_so" 65)(Gt:Gt K mg):Cal P w K mg ae "both_so" 1 (Pq uM):=by
 refine Cal.ofD D mU C8 Pq.up ?_
 rintro f aK A0 aq s0 H XE l z ys hr os ⟨a,b,s,rfl,rfl⟩
 obtain rfl:=dv.vs (xs:= [.bl a,tS s,.bl b]) os
 refine Ev.S.cast (qW (ai di (nm 1) (Gt.s (t:= [97,110,100]))) (λ_=>aw (ka (nm 0) λ_=>iq (nm 2))) (λ_=>aw (L3 (nm 0) λ_=>iq (nm 2)))) ?_
 by_cases h1:s=Km383.wAnd
 ·have Uj:s= [97,110,100]:=h1
  rw[decide_eq_true Uj,if_pos h1]
  rfl
 ·have Uj:¬s= [97,110,100]:=h1
  rw[decide_eq_false Uj,if_neg h1]
  rfl
def lM(m:Addr)(b:Book)(A:aQ)(l:List Sh)(z:Sh):Prop:=∃(t:Nat)(c:Step),l= [.v (.ref m),.v (.int t),.l (c.map tS)]/\t<b.house.things.length/\bh c=true/\z=.v (.bl (Ed b.house t c))
theorem uN:ao ["museum","thing","claim"] ["museum","thing","claim"] (ah (top 64)):=b5
theorem uO(D:Dn K mg "is_claim_so" 64)(Gt:Gt K mg)(aJ:Cal P w K mg ae "is_lent" 1 (Rq K dN))(a9:Cal P w K mg ae "is_hall" 1 (Rq K fG))(dr:Cal P w K mg ae "is_within" 1 (Rq K jI))(jV:Cal P w K mg ae "field_of" 2 (Rq K rM))(jW:Cal P w K mg ae "compares" 1 (Pq rO)):Cal P w K mg ae "is_claim_so" 3 (Rq K lM):=by
 refine Cal.ofD D mU uN Rq.up ?_
 rintro f aK A0 aq s H XE l z ys hr os ⟨m,b,A,R,t,c,rfl,ht,hc,rfl⟩
 obtain⟨q,rfl,hq⟩:=xK os
 obtain⟨x,hx⟩:=R.sV ht
 have hp:=ie R.inv ht
 have here:∀{pos p1 p2 p3 p4:PySem.Pos},E (bx P w K mg ae ["museum","thing","claim"] "is_claim_so" (top 64) f aK A0 aq s H XE) (.Attribute (.Subscript (.Attribute (.Name "museum" p1) "things" p2) (.Name "thing" p3) p4) "place" pos) (start ["museum","thing","claim"] [.ref m,.int t,.ref q]) H (.v (.int (b.house.here t))):=λ{pos p1 p2 p3 p4}=>fld (ix ((fld (nm 0) R.aX).lst (aF.of R.lt)) (nm 1) (wu hx)) (R.gR hx)
 match c,hc,hq with
 | [a],hc,hq=>
   have ma:a=Km383.wAll\/a=Km383.wLent\/a=Km383.wShown:=by
    have hc:ck.contains a=true:=hc
    simpa [ck] using hc
   rcases ma with rfl|rfl|rfl
   ·exact lL (ai di (ix ((nm 2).lst hq) int rfl) (Gt.s (t:= [97,108,108]))) (by decide) (aw bl)
   ·refine eP (ai di (ix ((nm 2).lst hq) int rfl) (Gt.s (t:= [97,108,108]))) (by decide) ?_
    exact lL (ai di (ix ((nm 2).lst hq) int rfl) (Gt.s (t:= [108,101,110,116]))) (by decide) (aw (call (aJ.at hr) (a1 (nm 0) (a1 (nm 1) a0)) ⟨m,b,A,R,t,rfl,ht,rfl⟩))
   ·refine eP (ai di (ix ((nm 2).lst hq) int rfl) (Gt.s (t:= [97,108,108]))) (by decide) ?_
    refine eP (ai di (ix ((nm 2).lst hq) int rfl) (Gt.s (t:= [108,101,110,116]))) (by decide) ?_
    refine lL (ai di (ix ((nm 2).lst hq) int rfl) (Gt.s (t:= [115,104,111,119,110]))) (by decide) (Ev.S.cast (aw (call (a9.at hr) (a1 (nm 0) (a1 here a0)) ⟨m,b,A,R,_,rfl,hp,rfl⟩)) ?_)
    show _=Sh.v (V.bl ((b.house.place (b.house.here t)).kind==1))
    rw[Bool.beq_eq_decide_eq]
 | [a,n],hc,hq=>
   have hc:(a==Km383.wIn&&isNum n)=true:=hc
   rw[Bool.and_eq_true] at hc
   obtain rfl:=eq_of_beq hc.1
   have ln:=(fD hc.2).2.2.1
   refine eP (ai di (ix ((nm 2).lst hq) int rfl) (Gt.s (t:= [97,108,108]))) (by decide) ?_
   refine eP (ai di (ix ((nm 2).lst hq) int rfl) (Gt.s (t:= [108,101,110,116]))) (by decide) ?_
   refine eP (ai di (ix ((nm 2).lst hq) int rfl) (Gt.s (t:= [115,104,111,119,110]))) (by decide) ?_
   exact lL (ai di (ix ((nm 2).lst hq) int rfl) (Gt.s (t:= [105,110]))) (by decide) (aw (call (dr.at hr) (a1 (nm 0) (a1 here (a1 (Uz (a1 (ix ((nm 2).lst hq) int rfl) a0) (EV hc.2) (by omega) Gt.int) a0))) ⟨m,b,A,R,_,_,rfl,hp,rfl⟩))
 | [a,sg,n],hc,hq=>
   have hc:(isField a&&(df.contains sg&&isNum n))=true:=hc
   rw[Bool.and_eq_true,Bool.and_eq_true] at hc
   obtain⟨h1,h2,h3⟩:=hc
   have ln:=(fD h3).2.2.1
   have fn:a≠ [97,108,108]/\a≠ [108,101,110,116]/\a≠ [115,104,111,119,110]/\a≠ [105,110]:=by
    have ma:a∈Km383.wFields:=by simpa [isField] using h1
    simp only[Km383.wFields,List.mem_cons,List.not_mem_nil,or_false] at ma
    rcases ma with rfl|rfl|rfl|rfl|rfl<;>decide
   refine eP (ai di (ix ((nm 2).lst hq) int rfl) (Gt.s (t:= [97,108,108]))) (decide_eq_false fn.1) ?_
   refine eP (ai di (ix ((nm 2).lst hq) int rfl) (Gt.s (t:= [108,101,110,116]))) (decide_eq_false fn.2.1) ?_
   refine eP (ai di (ix ((nm 2).lst hq) int rfl) (Gt.s (t:= [115,104,111,119,110]))) (decide_eq_false fn.2.2.1) ?_
   refine eP (ai di (ix ((nm 2).lst hq) int rfl) (Gt.s (t:= [105,110]))) (decide_eq_false fn.2.2.2) ?_
   exact aw (call (jW.at hr) (a1 (call (jV.at hr) (a1 (nm 0) (a1 (nm 1) (a1 (ix ((nm 2).lst hq) int rfl) a0))) ⟨m,b,A,R,t,a,rfl,ht,h1,rfl⟩) (a1 (ix ((nm 2).lst hq) int rfl) (a1 (Uz (a1 (ix ((nm 2).lst hq) int rfl) a0) (EV h3) (by omega) Gt.int) a0))) ⟨_,sg,_,rfl,rfl⟩)
end
def gZ(a:Addr)(H H':Hp):Prop:=∀y o,H y=some o->y≠a->H' y=some o
theorem gZ.same{a:Addr}{H H':Hp}(S:au H H'):gZ a H H':=λy o h _=>S _ _ h
theorem gZ.trans{a:Addr}{H H1 H2:Hp}(x:gZ a H H1)(y:gZ a H1 H2):gZ a H H2:=λz o h n=>y z o (x z o h n) n
theorem gZ.upd{a:Addr}{o':HO}{H H':Hp}(S:au H H'):gZ a H (upd H' a o'):=λy o hy n=>by rw[aj n];exact S _ _ hy
theorem uP{s:Step}(n1:s≠ [Km383.wNot])(n2:s≠ [Km383.wAnd])(n3:s≠ [Km383.wOr])(hc:bh s=true):∃a r,s=a::r/\a≠Km383.wNot/\cH.contains a=false:=by
 cases s with
 |nil=>cases hc
 |cons a r=>
  refine⟨a,r,rfl,?_,?_⟩
  ·intro z
   subst z
   match r,hc with
   | [],hc=>exact n1 rfl
   | [b],hc=>revert hc;show ¬(Km383.wNot==Km383.wIn&&isNum b)=true;simp[Km383.wNot,Km383.wIn]
   | [b,c],hc=>revert hc;show ¬(isField Km383.wNot&&(df.contains b&&isNum c))=true;rw[show isField Km383.wNot=false from by decide];simp
   |b::c::d::r,hc=>cases hc
  ·cases z:cH.contains a with
   |false=>rfl
   |true=>
    exfalso
    rcases fz.mp z with e|e
    ·subst e
     match r,hc with
     | [],hc=>exact n2 rfl
     | [b],hc=>revert hc;show ¬(Km383.wAnd==Km383.wIn&&isNum b)=true;simp[Km383.wAnd,Km383.wIn]
     | [b,c],hc=>revert hc;show ¬(isField Km383.wAnd&&(df.contains b&&isNum c))=true;rw[show isField Km383.wAnd=false from by decide];simp
     |b::c::d::r,hc=>cases hc
    ·subst e
     match r,hc with
     | [],hc=>exact n3 rfl
     | [b],hc=>revert hc;show ¬(Km383.wOr==Km383.wIn&&isNum b)=true;simp[Km383.wOr,Km383.wIn]
     | [b,c],hc=>revert hc;show ¬(isField Km383.wOr&&(df.contains b&&isNum c))=true;rw[show isField Km383.wOr=false from by decide];simp
     |b::c::d::r,hc=>cases hc
section
variable{P:Program}{w:World}{K:W.Frag}{mg:Str->Option Value}{ae:Heap}
def EW(K:W.Frag):Sp:=λys H Q _=>∃(m tr sp:Addr)(b:Book)(A:aQ)(t:Nat)(sk:List Bool)(s:Step)(v:Bool)(r:List Bool),ys= [.ref m,.int t,.ref tr,.ref sp]/\Rep K H m b A/\t<b.house.things.length/\H tr=some (.lst (sk.reverse.map V.bl))/\H sp=some (.lst (s.map tS))/\sp≠tr/\(∀P,A.at m P≠some tr)/\cF b.house t sk s=some (v::r)/\
 ∀H',gZ tr H H'->H' tr=some (.lst (r.reverse.map V.bl))->Q (.bl v) H'
theorem nu:ao ["museum","thing","truths","step","rest"] ["museum","thing","truths","step"] (ah (top 66)):=b5
theorem vA{f:Addr}{fd:FuncData}(F:jq K "take_truth" "take_truth" (top 66) f fd)(Gt:Gt K mg)(mw:Cal P w K mg ae "both_so" 1 (Pq uM))(fV:Cal P w K mg ae "is_claim_so" 3 (Rq K lM)):bD P w K mg ae eT 4 f fd ["museum","thing","truths","step"] (EW K):=by
 refine F.ok nu (λvs H Q XE h=> ?_) (λaK A0 aq s0 H vs Q XE hr h=>⟨_,aD,?_⟩)
 ·obtain⟨m,tr,sp,b,A,t,sk,s,v,r,rfl,_⟩:=h
  rfl
 ·obtain⟨m,tr,sp,b,A,t,sk,s,v,r,rfl,R,ht,yp,qO,ne,own,hs,hQ⟩:=h
  unfold cF at hs
  have Dc:∀{x:Bool}{l:List Bool},((x::l).reverse.map V.bl)=l.reverse.map V.bl++ [V.bl x]:=λ{x l}=>by rw[List.reverse_cons,List.map_append];rfl
  by_cases s1:s= [Km383.wNot]
  ·rw[if_pos s1] at hs
   subst s1
   cases sk with
   |nil=>cases hs
   |cons a sk=>
    cases hs
    rw[Dc] at yp
    refine n8 (ai di (ix ((nm 3).lst (aF.of qO)) int rfl) (Gt.s (t:= [110,111,116]))) (by decide) λH1 S1=> ?_
    refine bA (aY (L2.Hl az) (lI (nm 2) (S1 _ _ yp) λH2 S2=>⟨_,rfl,hQ _ ((gZ.same S1).trans (gZ.upd S2)) ak⟩))
  ·rw[if_neg s1] at hs
   by_cases sj:s= [Km383.wAnd]\/s= [Km383.wOr]
   ·
    obtain⟨wd,ew,hw⟩:∃wd,s= [wd]/\(wd=Km383.wAnd\/wd=Km383.wOr):=by
     rcases sj with e|e
     ·exact⟨_,e,.inl rfl⟩
     ·exact⟨_,e,.inr rfl⟩
    subst ew
    have hU:∃(y x:Bool),sk=y::x::r/\v=(if wd=Km383.wAnd then x&&y else x||y):=by
     rcases hw with e|e
     ·subst e
      rw[if_pos rfl] at hs
      match sk,hs with
      |y::x::l,hs=>
       cases hs
       exact⟨y,x,rfl,rfl⟩
     ·subst e
      rw[if_neg (by decide),if_pos rfl] at hs
      match sk,hs with
      |y::x::l,hs=>
       cases hs
       exact⟨y,x,rfl,rfl⟩
    obtain⟨y,x,rfl,rfl⟩:=hU
    rw[Dc] at yp
    have jw:cH.contains wd=true:=fz.mpr hw
    refine pP (ai di (ix ((nm 3).lst (aF.of qO)) int rfl) (Gt.s (t:= [110,111,116]))) (by rcases hw with e|e<;>subst e<;>decide) λH1 S1=> ?_
    refine n8 (ai (pM (l:=cH)) (ix ((nm 3).lst (aF.of (S1 _ _ qO))) int rfl) (tup (xs:=cH.map tS) (a1 Gt.s (a1 Gt.s a0)) (by show 2<=sizeLine;decide))) jw λH2 S2=> ?_
    refine dD 4 (lI (nm 2) (S2 _ _ (S1 _ _ yp)) λH3 S3=> ?_) nu.nd
    have QO:upd H3 tr (.lst ((x::r).reverse.map V.bl)) sp=some (.lst ([wd].map tS)):=(aj ne).trans (S3 _ _ (S2 _ _ (S1 _ _ qO)))
    have QP:upd H3 tr (.lst ((x::r).reverse.map V.bl)) tr=some (.lst (r.reverse.map V.bl++ [V.bl x])):=by rw[ak,Dc]
    obtain⟨fB,Yh,psB,FB,mB,kB,bB⟩:=mw.ex
    refine bA (aY (jr (E:=E0) FB (hr.mono (by decide)) rfl mB kB bB .nil mN (bJ az (bJ az (bJ az du)))) ?_)
    refine lI (nm 2) QP λH4 S4=> ?_
    have QQ:upd H4 tr (.lst (r.reverse.map V.bl)) sp=some (.lst ([wd].map tS)):=(aj ne).trans (S4 _ _ QO)
    refine(ix ((nm 3).lst (aF.of QQ)) int (show qP ([wd].map tS) 0=some (tS wd) from rfl)) _ (au.refl _) _ λv5 H5 S5 o5=> ?_
    have e5:v5=tS wd:=o5
    subst e5
    refine(nm 4 (y:=.bl y)) _ (au.refl _) _ λv6 H6 S6 o6=> ?_
    have e6:v6=.bl y:=o6
    subst e6
    refine⟨[.v (.bl x),.v (tS wd),.v (.bl y)],_,.cons rfl (.cons rfl (.cons rfl .nil)),⟨x,y,wd,rfl,rfl⟩,λv7 H7 S7 o7=> ?_⟩
    have e7:v7=.bl (if wd=Km383.wAnd then x&&y else x||y):=o7
    subst e7
    have Zz:au (upd H4 tr (.lst (r.reverse.map V.bl))) H7:=(S5.trans S6).trans S7
    refine hQ H7 ?_ (Zz _ _ ak)
    exact(((gZ.same (S1.trans S2)).trans (gZ.upd S3)).trans (gZ.upd S4)).trans (gZ.same Zz)
   ·rw[if_neg (λz=>sj (.inl z)),if_neg (λz=>sj (.inr z))] at hs
    by_cases hc:bh s=true
    ·rw[if_pos hc] at hs
     cases hs
     obtain⟨a,rs,es,na,nj⟩:=uP s1 (λz=>sj (.inl z)) (λz=>sj (.inr z)) hc
     have UG:qP (s.map tS) (0:Int)=some (tS a):=by rw[es];exact cZ (j:=0) rfl
     refine pP (ai di (ix ((nm 3).lst (aF.of qO)) int UG) (Gt.s (t:= [110,111,116]))) (decide_eq_false na) λH1 S1=> ?_
     refine pP (ai (pM (l:=cH)) (ix ((nm 3).lst (aF.of (S1 _ _ qO))) int UG) (tup (xs:=cH.map tS) (a1 Gt.s (a1 Gt.s a0)) (by show 2<=sizeLine;decide))) nj λH2 S2=> ?_
     have R2:=(R.up S1).up S2
     refine cB (call (fV.at hr) (a1 (nm 0) (a1 (nm 1) (a1 ((nm 3).lst (aF.of (S2 _ _ (S1 _ _ qO)))) a0))) ⟨m,b,A,R2,t,s,rfl,ht,hc,rfl⟩) λH3 S3=>hQ H3 (gZ.same ((S1.trans S2).trans S3)) (S3 _ _ (S2 _ _ (S1 _ _ yp)))
    ·rw[if_neg hc] at hs
     cases hs
def AX(K:W.Frag):Pre:=λH l z=>∃(m ls:Addr)(b:Book)(A:aQ)(t:Nat)(as:List Addr)(q:Km383.Ask),Rep K H m b A/\H ls=some (.lst (as.map .ref))/\dz H as (post q)/\l= [.v (.ref m),.v (.int t),.v (.ref ls)]/\t<b.house.things.length/\gp q=true/\(post q).length<=120/\z=.v (.bl (Km383.holds b.house t q))
theorem AX.up:(AX K).Up:=λ_ _ _ _ S ⟨m,ls,b,A,t,as,q,R,h1,h2,h3⟩=>⟨m,ls,b,A,t,as,q,R.up S,S _ _ h1,h2.mono λa _ o h=>S _ _ h,h3⟩
theorem uQ:ao ["museum","thing","steps","truths","step"] ["museum","thing","steps"] (ah (top 67)):=b5
theorem GB{h:House}{t:Nat}{sk:List Bool}{s:Step}{d:List Bool}(e:cF h t sk s=some d):d.length<=sk.length+1/\d≠ []:=by
 unfold cF at e
 split at e
 ·match sk,e with
  |a::l,e=>cases e;exact⟨by simp,by simp⟩
 ·split at e
  ·match sk,e with
   |a::b::l,e=>cases e;exact⟨by simp<;>omega,by simp⟩
  ·split at e
   ·match sk,e with
    |a::b::l,e=>cases e;exact⟨by simp<;>omega,by simp⟩
   ·split at e
    ·cases e
     exact⟨by simp,by simp⟩
    ·cases e
theorem J4{fT:Addr}{JC:FuncData}(D:Dn K mg "is_so" 67)(FT:bD P w K mg ae eT 4 fT JC ["museum","thing","truths","step"] (EW K))(mT:mg "take_truth"=some (.ref fT))(kT:W.keepIn K (.ref fT)=true)(bT:Binds K JC ["museum","thing","truths","step"] []):Cal P w K mg ae "is_so" 5 (AX K):=by
 refine Cal.ofD D mU uQ AX.up ?_
 rintro f aK A0 aq s H XE l z ys hr os ⟨m,ls,b,A,t,as,q,R,Mj,hU,rfl,ht,cW,hlen,rfl⟩
 obtain rfl:=dv.vs (xs:= [.ref m,.int t,.ref ls]) os
 have kJ:=sizeLine_eq
 have run:=gL b.house t q [] cW
 intro H1 S1 D hD
 refine dD 3 (gT _ (au.refl _) _ λtr H2 S2 VF yp=> ?_) uQ.nd
 have R2:=(R.up S1).up S2
 have own:∀P,A.at m P≠some tr:=λP z=>by
  obtain⟨o,ho⟩:=(R.up S1).kM P tr z
  rw[VF] at ho
  cases ho
 have kM:∀{y:Addr}{o:HO},H1 y=some o->y≠tr:=λ{y o} h z=>by rw[z,VF] at h;cases h
 refine Et 4 (l:=ls) (xs:=as.map .ref) (nm 2) (λk aO H'=>∃(y:Option V)(sk:List Bool),aO= [some (.ref m),some (.int t),some (.ref ls),some (.ref tr),y]/\((post q).take k).foldlM (cF b.house t) []=some sk/\H' tr=some (.lst (sk.reverse.map V.bl))/\sk.length<=k/\gZ tr H2 H')
  (λH3 S3=>⟨none, [],rfl,rfl,S3 _ _ yp,Nat.zero_le _,gZ.same S3⟩) (λk aO H' _ ⟨y,sk,_,_,_,_,fr⟩=>aF.of (fr ls _ (S2 _ _ (S1 _ _ Mj)) (kM (S1 _ _ Mj)))) (λk y aO H' hy ⟨z,sk,oj,hf,J5,hl,fr⟩=> ?_) (λaO H' ⟨y,sk,oj,hf,J5,hl,fr⟩=> ?_) PassesOwn.never uQ.nd
 ·subst oj
  rw[List.getElem?_map] at hy
  cases ha:as[k]? with
  |none=>rw[ha] at hy;cases hy
  |some a=>
   rw[ha] at hy
   obtain rfl:V.ref a=y:=Option.some.inj hy
   have lt:k<(post q).length:=by rw[<-hU.1];exact(List.getElem?_eq_some_iff.mp ha).1
   have gs:(post q)[k]? =some (post q)[k]:=List.getElem?_eq_getElem lt
   obtain⟨d,hd,Yi⟩:=wk run gs hf
   have UH:=hU.2 k a _ ha gs
   have nat:a≠tr:=kM (S1 _ _ UH)
   obtain⟨dl,dn⟩:=GB hd
   match d,dn,hd with
   |v::r,_,hd=>
    refine dh (nm 3) J5 λH3 S3=> ?_
    have R3:Rep K H3 m b A:=R2.Ob λP y o hy ho=>S3 _ _ (fr y o ho λz=>own P (by rw[hy,z]))
    refine cS (ys:= [.ref m,.int t,.ref tr,.ref a]) FT (hr.mono (by decide)) mT kT bT (a1 (nm 0) (a1 (nm 1) (a1 (nm 3) (a1 (nm 4) a0)))) λH4 S4=>⟨m,tr,a,b,A,t,sk,_,v,r,rfl,R3.up S4,ht,S4 _ _ (S3 _ _ J5),S4 _ _ (S3 _ _ (fr a _ (S2 _ _ (S1 _ _ UH)) nat)),nat,own,hd,λH5 vM h5=> ?_⟩
    refine⟨_,h5,?_,dB ⟨some (.ref a),v::r,rfl,Yi,?_,?_,?_⟩⟩
    ·rw[List.length_map,List.length_reverse]
     have:(v::r).length=r.length+1:=rfl
     omega
    ·rw[ak,List.reverse_cons,List.map_append]
     rfl
    ·omega
    ·exact((fr.trans (gZ.same (S3.trans S4))).trans vM).trans (gZ.upd (au.refl _))
 ·subst oj
  have e:(as.map V.ref).length=(post q).length:=by rw[List.length_map,hU.1]
  rw[e,List.take_length,run] at hf
  cases hf
  refine cB (ix ((nm 3).lst (aF.of J5)) int (show qP ([Km383.holds b.house t q].reverse.map V.bl) 0=some (.bl (Km383.holds b.house t q)) from rfl)) λH3 S3=>hD _ H3 ?_ rfl
  intro y o hy
  exact S3 _ _ (fr y o (S2 _ _ hy) (kM hy))
end
theorem EX:∀l:List (List Nat),TL.kY [32] l=tW l
 | []=>rfl
 | [a]=>rfl
 |a::b::l=>by
  show a++([32]++TL.kY [32] (b::l))=a++32::tW (b::l)
  rw[EX (b::l)]
  rfl
theorem wH{s:Step}(h:bh s=true):(tW s).length<=30/\s.length<=3/\(s.map (·.length)).sum<=30:=by
 match s,h with
 | [a],h=>
   have ma:a=Km383.wAll\/a=Km383.wLent\/a=Km383.wShown:=by
    have h:ck.contains a=true:=h
    simpa [ck] using h
   rcases ma with rfl|rfl|rfl<;>decide
 | [a,n],h=>
   have h:(a==Km383.wIn&&isNum n)=true:=h
   rw[Bool.and_eq_true] at h
   have e:=eq_of_beq h.1
   have ln:=(fD h.2).2.2.1
   subst e
   refine⟨?_,(by show 2<=3;decide),?_⟩
   ·show(Km383.wIn++32::n).length<=30
    rw[List.length_append,List.length_cons]
    show 2+(n.length+1)<=30
    omega
   ·show 2+(n.length+0)<=30
    omega
 | [a,sg,n],h=>
   have h:(isField a&&(df.contains sg&&isNum n))=true:=h
   rw[Bool.and_eq_true,Bool.and_eq_true] at h
   obtain⟨h1,h2,h3⟩:=h
   have ln:=(fD h3).2.2.1
   have la:a.length<=8:=by
    have ma:a∈Km383.wFields:=by simpa [isField] using h1
    simp only[Km383.wFields,List.mem_cons,List.not_mem_nil,or_false] at ma
    rcases ma with rfl|rfl|rfl|rfl|rfl<;>decide
   have lg:sg.length=1:=by
    have mg:sg= [60]\/sg= [61]\/sg= [62]:=by simpa [df] using h2
    rcases mg with rfl|rfl|rfl<;>rfl
   refine⟨?_,(by show 3<=3;decide),?_⟩
   ·show(a++32::(sg++32::n)).length<=30
    rw[List.length_append,List.length_cons,List.length_append,List.length_cons]
    omega
   ·show a.length+(sg.length+(n.length+0))<=30
    omega
def jo(sk:List (List Nat×Nat)):Nat:=(sk.map (·.1.length)).sum
theorem iJ(p:List Nat×Nat)(n:Nat):(brk p n).length<=p.1.length+2:=by
 unfold brk
 split
 ·omega
 ·rw[List.length_cons,List.length_append]
  show p.1.length+1+1<=_
  omega
theorem wI{sk d:List (List Nat×Nat)}{s:Step}(e:bY sk s=some d):jo d<=jo sk+40/\d≠ []:=by
 unfold bY at e
 split at e
 ·match sk,e with
  |a::l,e=>
   cases e
   refine⟨?_,by simp⟩
   have:=iJ a 3
   show(Km383.wNot++32::brk a 3).length+jo l<=a.1.length+jo l+40
   rw[List.length_append,List.length_cons]
   show 3+(_+1)+jo l<=_
   omega
 ·split at e
  ·match sk,e with
   |b::a::l,e=>
    cases e
    refine⟨?_,by simp⟩
    have h1:=iJ a 3
    have h2:=iJ b 2
    show(brk a 3++32::(Km383.wAnd++32::brk b 2)).length+jo l<=b.1.length+(a.1.length+jo l)+40
    rw[List.length_append,List.length_cons,List.length_append,List.length_cons]
    show _+(3+(_+1)+1)+jo l<=_
    omega
  ·split at e
   ·match sk,e with
    |b::a::l,e=>
     cases e
     refine⟨?_,by simp⟩
     have h1:=iJ a 2
     have h2:=iJ b 1
     show(brk a 2++32::(Km383.wOr++32::brk b 1)).length+jo l<=b.1.length+(a.1.length+jo l)+40
     rw[List.length_append,List.length_cons,List.length_append,List.length_cons]
     show _+(2+(_+1)+1)+jo l<=_
     omega
   ·split at e
    ·next hc=>
     cases e
     refine⟨?_,by simp⟩
     have:=(wH hc).1
     show(tW s).length+jo sk<=jo sk+40
     omega
    ·cases e
theorem yq{sk:List (List Nat×Nat)}{p:List Nat×Nat}(h:p∈sk):p.1.length<=jo sk:=by
 induction sk with
 |nil=>cases h
 |cons a l ih=>
  show p.1.length<=a.1.length+jo l
  rcases List.mem_cons.mp h with e|h
  ·rw[e];omega
  ·have:=ih h;omega
structure Tp(K:W.Frag)(C:Addr):Prop where
 c:wW K C
 f:∀f∈(["text","binding"]:List Str),bX K C f
def mJ(C:Addr)(H:Hp)(a:Addr)(p:List Nat×Nat):Prop:=∃dx,H a=some (.ins C dx [("text",tS p.1),("binding",.int (p.2:Nat))])
theorem mJ.up{C:Addr}{H H':Hp}{a:Addr}{p:List Nat×Nat}(S:au H H')(h:mJ C H a p):mJ C H' a p:=let⟨dx,e⟩:=h;⟨dx,S _ _ e⟩
theorem mJ.fr{C:Addr}{H H':Hp}{a tr:Addr}{p:List Nat×Nat}{xs:List V}(h:mJ C H a p)(ht:H tr=some (.lst xs))(fr:gZ tr H H'):mJ C H' a p:=let⟨dx,e⟩:=h;⟨dx,fr _ _ e (j6 e ht (by intro z;cases z))⟩
def iK(C:Addr)(H:Hp)(bs:List Addr)(sk:List (List Nat×Nat)):Prop:=bs.length=sk.length/\∀(k:Nat)(a:Addr)(p:List Nat×Nat),bs[k]? =some a->sk[k]? =some p->mJ C H a p
theorem iK.fr{C:Addr}{H H':Hp}{tr:Addr}{bs:List Addr}{sk:List (List Nat×Nat)}{xs:List V}(h:iK C H bs sk)(ht:H tr=some (.lst xs))(f:gZ tr H H'):iK C H' bs sk:=⟨h.1,λk a p ha hp=>(h.2 k a p ha hp).fr ht f⟩
theorem iK.cons{C:Addr}{H:Hp}{bs:List Addr}{sk:List (List Nat×Nat)}{a:Addr}{p:List Nat×Nat}(h:iK C H bs sk)(ha:mJ C H a p):iK C H (a::bs) (p::sk):=⟨by rw[List.length_cons,List.length_cons,h.1],λk x y hx hy=>by
 cases k with
 |zero=>cases hx;cases hy;exact ha
 |succ k=>exact h.2 k x y hx hy⟩
theorem iK.yr{C:Addr}{H:Hp}{bs:List Addr}{sk:List (List Nat×Nat)}{p:List Nat×Nat}(h:iK C H bs (p::sk)):∃a l,bs=a::l/\mJ C H a p/\iK C H l sk:=by
 cases bs with
 |nil=>cases h.1
 |cons a l=>exact⟨a,l,rfl,h.2 0 a p rfl rfl,by simpa using h.1,λk x y hx hy=>h.2 (k+1) x y hx hy⟩
section
variable{P:Program}{w:World}{K:W.Frag}{mg:Str->Option Value}{ae:Heap}{C:Addr}
def yt(C:Addr)(ys:List V)(a:Addr)(_ H':Hp):Prop:=∀x y,ys= [x,y]->∃dx,H' a=some (.ins C dx [("text",x),("binding",y)])
abbrev J6:Stmt:=inClass (top 132) 0
theorem J7:ao ["self","text","binding"] ["self","text","binding"] (ah J6):=b5
theorem De{f:Addr}{fd:FuncData}(F:jq K "__init__" "Piece.__init__" J6 f fd)(TP:Tp K C):bD P w K mg ae eT 1 f fd ["self","text","binding"] (ji C 2 (yt C)):=by
 refine F.ok J7 (λvs H Q XE h=> ?_) (λaK A0 aq s H vs Q XE hr h=>⟨_,aD,?_⟩)
 ·obtain⟨p,dx,ys,rfl,hl,_⟩:=h
  show ys.length+1=3
  rw[hl]
 ·obtain⟨p,dx,ys,rfl,hl,hp,k⟩:=h
  obtain⟨u,v,rfl⟩:=aag hl
  refine cv (nm 0) (nm 1) λH1 S1=>⟨C,dx, [],S1 _ _ hp,TP.c,TP.f _ (by decide),(by decide),?_⟩
  refine cv (nm 0) (nm 2) λH2 S2=>⟨C,dx,_,S2 _ _ ak,TP.c,TP.f _ (by decide),(by show 1<1000;decide),?_⟩
  refine dB (k _ (λx y e=> ?_) λb o' h hb=> ?_)
  ·cases e
   exact⟨dx,ak⟩
  ·rw[aj hb]
   refine S2 _ _ ?_
   rw[aj hb]
   exact S1 _ _ h
theorem mJ.fd{H:Hp}{a:Addr}{p:List Nat×Nat}(TP:Tp K C)(h:mJ C H a p):Fd K H a "text" (tS p.1)/\Fd K H a "binding" (.int (p.2:Nat)):=by
 obtain⟨dx,e⟩:=h
 exact⟨⟨C,dx,_,e,TP.c,TP.f _ (by decide),rfl⟩,⟨C,dx,_,e,TP.c,TP.f _ (by decide),rfl⟩⟩
def wJ(C:Addr):Pre:=λH l z=>∃(a:Addr)(p:List Nat×Nat)(n:Nat),mJ C H a p/\l= [.v (.ref a),.v (.int n)]/\p.1.length<=10000/\z=.v (tS (brk p n))
theorem wJ.up:(wJ C).Up:=λ_ _ _ _ S ⟨a,p,n,h,r⟩=>⟨a,p,n,h.up S,r⟩
theorem yu:ao ["piece","least"] ["piece","least"] (ah (top 133)):=b5
theorem yw(D:Dn K mg "bracketed" 133)(TP:Tp K C):Cal P w K mg ae "bracketed" 1 (wJ C):=by
 refine Cal.ofD D mH yu wJ.up ?_
 rintro f aK A0 aq s H XE l z ys hr os ⟨a,p,n,hp,rfl,hl,rfl⟩
 obtain rfl:=dv.vs (xs:= [.ref a,.int n]) os
 obtain⟨f1,f2⟩:=hp.fd TP
 have kJ:=sizeLine_eq
 refine Ev.S.cast (aw (N5 (ai RM (fld (nm 0) f2) (nm 1)) (λ_=>fld (nm 0) f1) (λ_=>CZ (by rw[List.length_append];show 1+p.1.length+1<=_;omega) (CZ (by show 1+p.1.length<=_;omega) (yl (t:= [40])) (fld (nm 0) f1)) (yl (t:= [41]))))) ?_
 unfold brk
 by_cases q:n<=p.2
 ·rw[if_pos q,decide_eq_true (by omega)]
  rfl
 ·rw[if_neg q,decide_eq_false (by omega)]
  rfl
def EY(p1:List Nat×Nat)(wd:List Nat)(p2:List Nat×Nat):List Nat:=brk p1 (bp wd+1)++32::(wd++32::brk p2 (bp wd))
def J8(C:Addr):Sp:=λys H Q _=>∃(a1 a2:Addr)(p1 p2:List Nat×Nat)(wd:List Nat),ys= [.ref a1,tS wd,.ref a2]/\mJ C H a1 p1/\mJ C H a2 p2/\(wd=Km383.wAnd\/wd=Km383.wOr)/\p1.1.length<=10000/\p2.1.length<=10000/\∀a H',au H H'->mJ C H' a (EY p1 wd p2,bp wd)->Q (.ref a) H'
theorem ny:ao ["first","word","rest","binding"] ["first","word","rest"] (ah (top 134)):=b5
theorem vB{f f1:Addr}{fd ug:FuncData}(F:jq K "both_piece" "both_piece" (top 134) f fd)(Gt:Gt K mg)(mP:mg "Piece"=some (.ref C))(MP:Mk K C f1)(FP:bD P w K mg ae eT 1 f1 ug ["self","text","binding"] (ji C 2 (yt C)))(bP:Binds K ug ["self","text","binding"] [])(cU:Cal P w K mg ae "bracketed" 1 (wJ C)):bD P w K mg ae eT 3 f fd ["first","word","rest"] (J8 C):=by
 refine F.ok ny (λvs H Q XE h=> ?_) (λaK A0 aq s H vs Q XE hr h=>⟨_,aD,?_⟩)
 ·obtain⟨a,b,p1,p2,wd,rfl,_⟩:=h
  rfl
 ·obtain⟨a,b,p1,p2,wd,rfl,h1,h2,hw,l1,l2,hQ⟩:=h
  have bw:MH wd:=by
   rcases hw with e|e
   ·exact .inr (.inr (.inl e))
   ·exact .inr (.inl e)
  have lw:wd.length<=3:=by rcases hw with e|e<;>subst e<;>decide
  have kJ:=sizeLine_eq
  have b1:=iJ p1 (bp wd+1)
  have b2:=iJ p2 (bp wd)
  refine dH 3 (Gt.b (nm 1) bw) (λH1 S1=> ?_) ny.nd
  refine bA (nQ (ys:= [tS (EY p1 wd p2),.int ((bp wd:Nat):Int)]) MP FP (hr.mono (by decide)) mP bP (a1 (E.cast (CZ (s:=((brk p1 (bp wd+1)++ [32])++wd)++ [32]) (t:=brk p2 (bp wd)) (by rw[List.length_append,List.length_append,List.length_append];show _+1+_+1+_<=_;omega) (CZ (by rw[List.length_append,List.length_append];show _+1+_+1<=_;omega) (CZ (by rw[List.length_append];show _+1+_<=_;omega) (CZ (by show _+1<=_;omega) (call (cU.at hr) (a1 (nm 0) (a1 (E.cast (add (nm 3) int) (show Sh.v (V.int (((bp wd:Nat):Int)+1))=Sh.v (V.int ((bp wd+1:Nat):Int)) by congr 2)) a0)) ⟨a,p1,bp wd+1,h1.up S1,rfl,l1,rfl⟩) (yl (t:= [32]))) (nm 1)) (yl (t:= [32]))) (call (cU.at hr) (a1 (nm 2) (a1 (nm 3) a0)) ⟨b,p2,bp wd,h2.up S1,rfl,l2,rfl⟩)) (by
   congr 2
   unfold EY
   rw[List.append_assoc,List.append_assoc,List.append_assoc]
   rfl)) (a1 (nm 3) a0)) rfl λx H0 H2 S0 nx S2 ⟨H3,Ab,_⟩=> ?_)
  obtain⟨dx,ho⟩:=Ab _ _ rfl
  exact hQ x H2 ((S1.trans S0).trans S2) ⟨dx,ho⟩
def EZ(C:Addr):Sp:=λys H Q _=>∃(tr sp:Addr)(bs:List Addr)(sk r:List (List Nat×Nat))(s:Step)(v:List Nat×Nat),ys= [.ref tr,.ref sp]/\H tr=some (.lst (bs.reverse.map .ref))/\iK C H bs sk/\H sp=some (.lst (s.map tS))/\sp≠tr/\jo sk<=9000/\bY sk s=some (v::r)/\
 ∀a UI H',gZ tr H H'->mJ C H' a v->H' tr=some (.lst (UI.reverse.map .ref))->iK C H' UI r->Q (.ref a) H'
theorem nz:ao ["pieces","step","rest"] ["pieces","step"] (ah (top 135)):=b5
theorem vC{f f1 fB:Addr}{fd ug Yh:FuncData}(F:jq K "take_piece" "take_piece" (top 135) f fd)(Gt:Gt K mg)(TP:Tp K C)(mP:mg "Piece"=some (.ref C))(MP:Mk K C f1)(FP:bD P w K mg ae eT 1 f1 ug ["self","text","binding"] (ji C 2 (yt C)))(bP:Binds K ug ["self","text","binding"] [])(cU:Cal P w K mg ae "bracketed" 1 (wJ C))
 (FB:bD P w K mg ae eT 3 fB Yh ["first","word","rest"] (J8 C))(mB:mg "both_piece"=some (.ref fB))(kB:W.keepIn K (.ref fB)=true)(bB:Binds K Yh ["first","word","rest"] []):bD P w K mg ae eT 4 f fd ["pieces","step"] (EZ C):=by
 refine F.ok nz (λvs H Q XE h=> ?_) (λaK A0 aq s0 H vs Q XE hr h=>⟨_,aD,?_⟩)
 ·obtain⟨tr,sp,bs,sk,r,s,v,rfl,_⟩:=h
  rfl
 ·obtain⟨tr,sp,bs,sk,r,s,v,rfl,yp,MQ,qO,ne,J9,hs,hQ⟩:=h
  unfold bY at hs
  have kJ:=sizeLine_eq
  have Dc:∀{x:Addr}{l:List Addr},((x::l).reverse.map V.ref)=l.reverse.map V.ref++ [V.ref x]:=λ{x l}=>by rw[List.reverse_cons,List.map_append];rfl
  by_cases s1:s= [Km383.wNot]
  ·rw[if_pos s1] at hs
   subst s1
   cases sk with
   |nil=>cases hs
   |cons p sk=>
    cases hs
    obtain⟨a,l,rfl,ha,hl⟩:=MQ.yr
    rw[Dc] at yp
    have lp:p.1.length<=9000:=Nat.le_trans (yq List.mem_cons_self) J9
    have bl3:=iJ p 3
    refine n8 (ai di (ix ((nm 1).lst (aF.of qO)) int rfl) (Gt.s (t:= [110,111,116]))) (by decide) λH1 S1=> ?_
    refine bA (aY (DV (E:=E0) MP FP (hr.mono (by decide)) rfl mP bP .nil mN (bJ az (bJ az du))) ?_)
    refine aY (ot tJ az az) ?_
    refine(CZ (s:=Km383.wNot) (t:= [32]) (by show 4<=_;omega) (Gt.s (t:=Km383.wNot)) (yl (t:= [32]))) H1 (au.refl _) _ λv2 H2 S2 o2=> ?_
    have e2:v2=tS (Km383.wNot++ [32]):=o2
    subst e2
    obtain⟨fR,Sf,psR,FR,mR,kR,bR⟩:=cU.ex
    refine aY (jr (E:=E0) FR (hr.mono (by decide)) rfl mR kR bR .nil mN (bJ az (bJ az du))) ?_
    refine lI (nm 0) (S2 _ _ (S1 _ _ yp)) λH3 S3=> ?_
    refine(Gt.b (Gt.s (t:=Km383.wNot)) (.inr (.inr (.inr rfl)))) _ (au.refl _) _ λv4 H4 S4 o4=> ?_
    have e4:v4=.int ((bp Km383.wNot:Nat):Int):=o4
    subst e4
    have QM:gZ tr H H4:=(((gZ.same (S1.trans S2)).trans (gZ.upd S3))).trans (gZ.same S4)
    refine⟨[.v (.ref a),.v (.int ((3:Nat):Int))],_,.cons rfl (.cons rfl .nil),⟨a,p,3,ha.fr yp QM,rfl,by omega,rfl⟩,λv5 H5 S5 o5=> ?_⟩
    have e5:v5=tS (brk p 3):=o5
    subst e5
    refine⟨⟨(Km383.wNot++ [32]).toArray⟩,⟨(brk p 3).toArray⟩,rfl,rfl,by rw[fh,fh];show 4+_<=_;omega,?_⟩
    have ec:V.str ((⟨(Km383.wNot++ [32]).toArray⟩:Str)++⟨(brk p 3).toArray⟩)=tS (Km383.wNot++32::brk p 3):=by
     unfold tS
     congr 1
     exact TL.BD (by rw[TL.lV];rfl)
    rw[ec]
    refine(Gt.b (Gt.s (t:=Km383.wNot)) (.inr (.inr (.inr rfl)))) _ (au.refl _) _ λv6 H6 S6 o6=> ?_
    have e6:v6=.int ((bp Km383.wNot:Nat):Int):=o6
    subst e6
    intro x dx nx nd _
    refine⟨x,dx,_,rfl,rfl,ak,λH7 Ab kp=>⟨rfl,?_⟩⟩
    obtain⟨dx2,ho⟩:=Ab _ _ rfl
    have ZC:au H6 H7:=au.made nx nd kp
    have S37:au (upd H3 tr (.lst (l.reverse.map V.ref))) H7:=((S4.trans S5).trans S6).trans ZC
    have VD:gZ tr H H7:=(QM.trans (gZ.same (S5.trans S6))).trans (gZ.same ZC)
    exact hQ x l H7 VD ⟨dx2,ho⟩ (S37 _ _ ak) (hl.fr yp VD)
  ·rw[if_neg s1] at hs
   by_cases sj:s= [Km383.wAnd]\/s= [Km383.wOr]
   ·obtain⟨wd,ew,hw⟩:∃wd,s= [wd]/\(wd=Km383.wAnd\/wd=Km383.wOr):=by
     rcases sj with e|e
     ·exact⟨_,e,.inl rfl⟩
     ·exact⟨_,e,.inr rfl⟩
    subst ew
    have hU:∃(y x:List Nat×Nat),sk=y::x::r/\v=(EY x wd y,bp wd):=by
     rcases hw with e|e
     ·subst e
      rw[if_pos rfl] at hs
      match sk,hs with
      |y::x::l,hs=>
       cases hs
       exact⟨y,x,rfl,rfl⟩
     ·subst e
      rw[if_neg (by decide),if_pos rfl] at hs
      match sk,hs with
      |y::x::l,hs=>
       cases hs
       exact⟨y,x,rfl,rfl⟩
    obtain⟨y,x,rfl,rfl⟩:=hU
    obtain⟨ay,l1,rfl,hy,h1⟩:=MQ.yr
    obtain⟨ax,l,rfl,hx,hl⟩:=h1.yr
    have ly:y.1.length<=9000:=Nat.le_trans (yq List.mem_cons_self) J9
    have lx:x.1.length<=9000:=Nat.le_trans (yq (List.mem_cons_of_mem _ List.mem_cons_self)) J9
    have QR:=yp
    rw[Dc] at yp
    have jw:cH.contains wd=true:=fz.mpr hw
    refine pP (ai di (ix ((nm 1).lst (aF.of qO)) int rfl) (Gt.s (t:= [110,111,116]))) (by rcases hw with e|e<;>subst e<;>decide) λH1 S1=> ?_
    refine n8 (ai (pM (l:=cH)) (ix ((nm 1).lst (aF.of (S1 _ _ qO))) int rfl) (tup (xs:=cH.map tS) (a1 Gt.s (a1 Gt.s a0)) (by show 2<=sizeLine;decide))) jw λH2 S2=> ?_
    refine dD 2 (lI (nm 0) (S2 _ _ (S1 _ _ yp)) λH3 S3=> ?_) nz.nd
    have QO:upd H3 tr (.lst ((ax::l).reverse.map V.ref)) sp=some (.lst ([wd].map tS)):=(aj ne).trans (S3 _ _ (S2 _ _ (S1 _ _ qO)))
    have QP:upd H3 tr (.lst ((ax::l).reverse.map V.ref)) tr=some (.lst (l.reverse.map V.ref++ [V.ref ax])):=by rw[ak,Dc]
    refine bA (aY (jr (E:=E0) FB (hr.mono (by decide)) rfl mB kB bB .nil mN (bJ az (bJ az (bJ az du)))) ?_)
    refine lI (nm 0) QP λH4 S4=> ?_
    have QQ:upd H4 tr (.lst (l.reverse.map V.ref)) sp=some (.lst ([wd].map tS)):=(aj ne).trans (S4 _ _ QO)
    refine(ix ((nm 1).lst (aF.of QQ)) int (show qP ([wd].map tS) 0=some (tS wd) from rfl)) _ (au.refl _) _ λv5 H5 S5 o5=> ?_
    have e5:v5=tS wd:=o5
    subst e5
    refine(nm 2 (y:=.ref ay)) _ (au.refl _) _ λv6 H6 S6 o6=> ?_
    have e6:v6=.ref ay:=o6
    subst e6
    have ZD:au (upd H4 tr (.lst (l.reverse.map V.ref))) H6:=S5.trans S6
    have Ol:gZ tr H H6:=(((gZ.same (S1.trans S2)).trans (gZ.upd S3)).trans (gZ.upd S4)).trans (gZ.same ZD)
    refine⟨ax,ay,x,y,wd,rfl,hx.fr QR Ol,hy.fr QR Ol,hw,by omega,by omega,λa H7 S7 ha=> ?_⟩
    exact hQ a l H7 (Ol.trans (gZ.same S7)) ha (S7 _ _ (ZD _ _ ak)) (hl.fr QR (Ol.trans (gZ.same S7)))
   ·rw[if_neg (λz=>sj (.inl z)),if_neg (λz=>sj (.inr z))] at hs
    by_cases hc:bh s=true
    ·rw[if_pos hc] at hs
     cases hs
     obtain⟨a,rs,es,na,nj⟩:=uP s1 (λz=>sj (.inl z)) (λz=>sj (.inr z)) hc
     obtain⟨c1,c2,c3⟩:=wH hc
     have UG:qP (s.map tS) (0:Int)=some (tS a):=by rw[es];exact cZ (j:=0) rfl
     refine pP (ai di (ix ((nm 1).lst (aF.of qO)) int UG) (Gt.s (t:= [110,111,116]))) (decide_eq_false na) λH1 S1=> ?_
     refine pP (ai (pM (l:=cH)) (ix ((nm 1).lst (aF.of (S1 _ _ qO))) int UG) (tup (xs:=cH.map tS) (a1 Gt.s (a1 Gt.s a0)) (by show 2<=sizeLine;decide))) nj λH2 S2=> ?_
     have Oe:=S1.trans S2
     refine bA (nQ (ys:= [tS (tW s),.int ((3:Nat):Int)]) MP FP (hr.mono (by decide)) mP bP (a1 (E.cast (Oh (s:= [32]) (ts:=s) (yl (t:= [32])) ((nm 1).lst (aF.of (Oe _ _ qO))) (Nat.le_trans (Nat.add_le_add c3 (show s.length * 1<=3 by omega)) (by decide))) (by rw[EX])) (a1 (E.cast (Gt.b (Gt.s (t:=Km383.wNot)) (.inr (.inr (.inr rfl)))) rfl) a0)) rfl λx H0 H4 S0 nx S4 ⟨H5,Ab,_⟩=> ?_)
     obtain⟨dx,ho⟩:=Ab _ _ rfl
     have S:=(Oe.trans S0).trans S4
     exact hQ x bs H4 (gZ.same S) ⟨dx,ho⟩ (S _ _ yp) (MQ.fr yp (gZ.same S))
    ·rw[if_neg hc] at hs
     cases hs
def AY(K:W.Frag):Pre:=λH l z=>∃(ls:Addr)(as:List Addr)(q:Km383.Ask),H ls=some (.lst (as.map .ref))/\dz H as (post q)/\l= [.v (.ref ls)]/\gp q=true/\(post q).length<=120/\z=.v (tS (Km383.writeAsk 0 q))
theorem AY.up:(AY K).Up:=λ_ _ _ _ S ⟨ls,as,q,h1,h2,h3⟩=>⟨ls,as,q,S _ _ h1,h2.mono λa _ o h=>S _ _ h,h3⟩
theorem n9:ao ["steps","pieces","step"] ["steps"] (ah (top 136)):=b5
theorem Dg{fT:Addr}{JC:FuncData}(D:Dn K mg "written" 136)(TP:Tp K C)(FT:bD P w K mg ae eT 4 fT JC ["pieces","step"] (EZ C))(mT:mg "take_piece"=some (.ref fT))(kT:W.keepIn K (.ref fT)=true)(bT:Binds K JC ["pieces","step"] []):Cal P w K mg ae "written" 5 (AY K):=by
 refine Cal.ofD D Bh n9 AY.up ?_
 rintro f aK A0 aq s H XE l z ys hr os ⟨ls,as,q,Mj,hU,rfl,cW,hlen,rfl⟩
 obtain rfl:=dv.vs (xs:= [.ref ls]) os
 have kJ:=sizeLine_eq
 have run:=fF q [] cW
 intro H1 S1 D hD
 refine dD 1 (gT _ (au.refl _) _ λtr H2 S2 VF yp=> ?_) n9.nd
 have kM:∀{y:Addr}{o:HO},H1 y=some o->y≠tr:=λ{y o} h z=>by rw[z,VF] at h;cases h
 refine Et 2 (l:=ls) (xs:=as.map .ref) (nm 0) (λk aO H'=>∃(y:Option V)(sk:List (List Nat×Nat))(bs:List Addr),aO= [some (.ref ls),some (.ref tr),y]/\((post q).take k).foldlM bY []=some sk/\H' tr=some (.lst (bs.reverse.map .ref))/\iK C H' bs sk/\jo sk<=40 * k/\bs.length<=k/\gZ tr H2 H')
  (λH3 S3=>⟨none, [], [],rfl,rfl,S3 _ _ yp,⟨rfl,λk a p h=>by cases h⟩,Nat.zero_le _,Nat.zero_le _,gZ.same S3⟩) (λk aO H' _ ⟨y,sk,bs,_,_,_,_,_,_,fr⟩=>aF.of (fr ls _ (S2 _ _ (S1 _ _ Mj)) (kM (S1 _ _ Mj)))) (λk y aO H' hy ⟨z,sk,bs,oj,hf,J5,MQ,J9,XU,fr⟩=> ?_) (λaO H' ⟨y,sk,bs,oj,hf,J5,MQ,J9,XU,fr⟩=> ?_) PassesOwn.never n9.nd
 ·subst oj
  rw[List.getElem?_map] at hy
  cases ha:as[k]? with
  |none=>rw[ha] at hy;cases hy
  |some a=>
   rw[ha] at hy
   obtain rfl:V.ref a=y:=Option.some.inj hy
   have lt:k<(post q).length:=by rw[<-hU.1];exact(List.getElem?_eq_some_iff.mp ha).1
   have gs:(post q)[k]? =some (post q)[k]:=List.getElem?_eq_getElem lt
   obtain⟨d,hd,Yi⟩:=wk run gs hf
   have UH:=hU.2 k a _ ha gs
   have nat:a≠tr:=kM (S1 _ _ UH)
   obtain⟨dl,dn⟩:=wI hd
   match d,dn,hd with
   |v::r,_,hd=>
    refine dh (nm 1) J5 λH3 S3=> ?_
    have frp:iK C H3 bs sk:=MQ.fr J5 (gZ.same S3)
    refine cS (ys:= [.ref tr,.ref a]) FT (hr.mono (by decide)) mT kT bT (a1 (nm 1) (a1 (nm 2) a0)) λH4 S4=>⟨tr,a,bs,sk,r,_,v,rfl,S4 _ _ (S3 _ _ J5),MQ.fr J5 (gZ.same (S3.trans S4)),S4 _ _ (S3 _ _ (fr a _ (S2 _ _ (S1 _ _ UH)) nat)),nat,by omega,hd,λx UI H5 vM hx h5 VG=> ?_⟩
    have bl':UI.length<=k:=by
     have e1:=VG.1
     have e2:=MQ.1
     have:r.length<=sk.length:=by
      unfold bY at hd
      split at hd
      ·match sk,hd with
       |a::l,hd=>cases hd;simp
      ·split at hd
       ·match sk,hd with
        |a::b::l,hd=>cases hd;simp<;>omega
       ·split at hd
        ·match sk,hd with
         |a::b::l,hd=>cases hd;simp<;>omega
        ·split at hd
         ·cases hd;exact Nat.le_refl _
         ·cases hd
     omega
    refine⟨_,h5,?_,dB ⟨some (.ref a),v::r,x::UI,rfl,Yi,?_,?_,by omega,by rw[List.length_cons];omega,?_⟩⟩
    ·rw[List.length_map,List.length_reverse]
     omega
    ·rw[ak,List.reverse_cons,List.map_append]
     rfl
    ·exact iK.cons (VG.fr h5 (gZ.upd (au.refl _))) (hx.fr h5 (gZ.upd (au.refl _)))
    ·exact((fr.trans (gZ.same (S3.trans S4))).trans vM).trans (gZ.upd (au.refl _))
 ·subst oj
  have e:(as.map V.ref).length=(post q).length:=by rw[List.length_map,hU.1]
  rw[e,List.take_length,run] at hf
  cases hf
  obtain⟨a,l,rfl,ha,hl⟩:=MQ.yr
  have l0:l= []:=List.length_eq_zero_iff.mp (by rw[hl.1];rfl)
  subst l0
  obtain⟨f1,_⟩:=ha.fd TP
  refine cB (fld (ix ((nm 1).lst (aF.of J5)) int (show qP ([a].reverse.map V.ref) 0=some (.ref a) from rfl)) f1) λH3 S3=>hD _ H3 ?_ rfl
  intro y o hy
  exact S3 _ _ (fr y o (S2 _ _ hy) (kM hy))
end
theorem AZ:∀(l:List Step)(sk d:List (List Nat×Nat)),l.foldlM bY sk=some d->jo d<=jo sk+40 * l.length
 | [],sk,d,h=>by
   cases h
   exact Nat.le_refl _
 |s::l,sk,d,h=>by
  have h:(bY sk s >>= λy=>l.foldlM bY y)=some d:=h
  cases q:bY sk s with
  |none=>rw[q] at h;cases h
  |some y=>
   rw[q] at h
   have h1:=AZ l y d h
   have h2:=(wI q).1
   rw[List.length_cons]
   omega
theorem Ka{q:Km383.Ask}(h:gp q=true):(Km383.writeAsk 0 q).length<=40 * (post q).length:=by
 have:=AZ _ _ _ (fF q [] h)
 have e:jo [(Km383.writeAsk 0 q,vf q)]=(Km383.writeAsk 0 q).length:=by
  show(Km383.writeAsk 0 q).length+0=_
  omega
 rw[e] at this
 have:_<=0+40 * (post q).length:=this
 omega
section
variable{P:Program}{w:World}{K:W.Frag}{mg:Str->Option Value}{ae:Heap}{C:Addr}
def E1(n:Nat)(row t:List Nat):Prop:=row.length<=120/\(n<=120->row=t.take n)
def lN(m:Addr)(b:Book)(A:aQ)(l:List Sh)(xs:List V):Prop:=∃(n:Nat)(row t:List Nat),l= [.v (.ref m),.v (.int n),.l (row.map nV)]/\E1 n row t/\xs=tV (Km383.act b (.find t n)).2
theorem MS(b:Book)(t:List Nat)(n:Nat):(Km383.act b (.find t n)).2=if 120<n then Km383.only (-22) else(match Km383.readAsk (t.take n) with|none=>Km383.only (-71)|some q=>Km383.several (b.house.find q)):=rfl
theorem g6:ao ["museum","n","row","steps","thing"] ["museum","n","row"] (ah (top 149)):=b5
theorem uR{fR:Addr}{Sf:FuncData}(D:Dn K mg "find_things" 149)(G:Gs mg)(FR:bD P w K mg ae eT 6 fR Sf ["row"] (C7 K))(mR:mg "read_question"=some (.ref fR))(kR:W.keepIn K (.ref fR)=true)(bR:Binds K Sf ["row"] [])(tj:Cal P w K mg ae "is_so" 5 (AX K))(bQ:bU P w K mg ae "counted" 2 (y1 gW)):bU P w K mg ae "find_things" 7 (nk K lN):=by
 refine bU.ofD D mU g6 nk.up ?_
 rintro f aK A0 aq s H XE l xs ys hr os ⟨m,b,A,R,n,row,t,rfl,⟨hl,QS⟩,rfl⟩
 obtain⟨q,rfl,hq⟩:=xK os
 rw[MS]
 refine gm (ai rS (nm 1) (G.k (i:=120))) (bj (cx (G.k (i:= -22)))) (by simp;omega) λn1=> ?_
 rw[<-QS (by omega)]
 intro H1 S1 D hD
 have R1:=R.up S1
 have q1:aF K H1 q (row.map nV):=S1.seq hq
 refine dD 3 (cS (ys:= [.ref q]) FR (hr.mono (by decide)) mR kR bR (a1 (nm 2) a0) λH2 S2=>⟨q,row,rfl,S2.seq q1,hl,λe H3 S3=> ?_,λqq e ok QT ls as H3 S3 h1 h2=> ?_⟩) g6.nd (hx:=Or.inr rfl)
 ·rw[e] at hD
  refine n8 (ai FV (nm 3) non) rfl λH4 S4=>bA (Nl.go (cx (G.k (i:= -71))) λa H5 S5 na ha=> ?_)
  exact hD a H5 (((S2.trans S3).trans S4).trans S5) (((S2.trans S3).trans S4).free na) ha
 ·rw[e] at hD
  have R3:=(R1.up S2).up S3
  have FN:=R.inv.nt
  refine pP (ai FV (nm 3) non) rfl λH4 S4=> ?_
  have R4:=R3.up S4
  have Om:((A.ta.map λx=>V.ref x.1).length:Nat)=b.house.things.length:=R4.B1
  refine bA (Nl.go (bZ bQ hr (by decide) (a1 (X1 4 (n:=b.house.things.length) (λk=>Km383.holds b.house k qq) nV (E.cast (len (a1 ((fld (nm 0) R4.aX).lst (aF.of R4.lt)) a0) (G.b _ (by decide))) (by rw[Om])) (by omega) (λk hk s1 H0 C cl fp=>jB (aI (call (tj.at hr) (a1 (nm 0) (a1 (nm 4) (a1 (nm 3) a0))) ⟨m,ls,b,A,k,as,qq,R4,S4 _ _ h1,h2.mono λa _ o h=>S4 _ _ h,rfl,hk,ok,QT,rfl⟩))) (λk hk _ s1 H0 C cl fp=>nm 4) (G.b _ (by decide)) g6.nd).rd a0) ⟨b.house.things.length,λk=>Km383.holds b.house k qq,rfl,R.inv.nt,rfl⟩) λa H5 S5 na ha=> ?_)
  exact hD a H5 (((S2.trans S3).trans S4).trans S5) (((S2.trans S3).trans S4).free na) ha
def iL(l:List Sh)(xs:List V):Prop:=∃(n:Nat)(row t:List Nat)(b:Book),l= [.v (.int n),.l (row.map nV)]/\E1 n row t/\xs=tV (Km383.act b (.write t n)).2
theorem Kb(b:Book)(t:List Nat)(n:Nat):(Km383.act b (.write t n)).2=if 120<n then Km383.only (-22) else(match Km383.readAsk (t.take n) with|none=>Km383.only (-71)|some q=>if 120<(Km383.writeAsk 0 q).length then Km383.only (-75) else⟨(((Km383.writeAsk 0 q).length:Nat):Int),Km383.fill 120 (Km383.writeAsk 0 q)⟩):=rfl
theorem dI:ao ["n","row","steps","text","sign"] ["n","row"] (ah (top 151)):=b5
theorem pQ{fR:Addr}{Sf:FuncData}(D:Dn K mg "write_question" 151)(G:Gs mg)(Gt:Gt K mg)(FR:bD P w K mg ae eT 6 fR Sf ["row"] (C7 K))(mR:mg "read_question"=some (.ref fR))(kR:W.keepIn K (.ref fR)=true)(bR:Binds K Sf ["row"] [])(mz:Cal P w K mg ae "written" 5 (AY K))(f9:bU P w K mg ae "filled" 1 (y1 qE)):bU P w K mg ae "write_question" 7 (y1 iL):=by
 refine bU.ofD D mH dI y1.up ?_
 rintro f aK A0 aq s H XE l xs ys hr os ⟨n,row,t,b,rfl,⟨hl,QS⟩,rfl⟩
 obtain⟨q,rfl,hq⟩:=Ja os
 have kJ:=sizeLine_eq
 rw[Kb]
 refine gm (ai rS (nm 0) (G.k (i:=120))) (bj (cx (G.k (i:= -22)))) (by simp;omega) λn1=> ?_
 rw[<-QS (by omega)]
 intro H1 S1 D hD
 have q1:aF K H1 q (row.map nV):=S1.seq hq
 refine dD 2 (cS (ys:= [.ref q]) FR (hr.mono (by decide)) mR kR bR (a1 (nm 1) a0) λH2 S2=>⟨q,row,rfl,S2.seq q1,hl,λe H3 S3=> ?_,λqq e ok QT ls as H3 S3 h1 h2=> ?_⟩) dI.nd
 ·rw[e] at hD
  refine n8 (ai FV (nm 2) non) rfl λH4 S4=>bA (Nl.go (cx (G.k (i:= -71))) λa H5 S5 na ha=> ?_)
  exact hD a H5 (((S2.trans S3).trans S4).trans S5) (((S2.trans S3).trans S4).free na) ha
 ·rw[e] at hD
  have wl:=Ka ok
  refine pP (ai FV (nm 2) non) rfl λH4 S4=> ?_
  refine dH 3 (call (mz.at hr) (a1 (nm 2) a0) ⟨ls,as,qq,S4 _ _ h1,h2.mono λa _ o h=>S4 _ _ h,rfl,ok,QT,rfl⟩) (λH5 S5=> ?_) dI.nd
  have VH:=((S2.trans S3).trans S4).trans S5
  have hz:(Km383.writeAsk 0 qq).length<=sizeLine:=by omega
  dsimp only at hD
  refine ph (ai rS (Gv (a1 (nm 3) a0) hz (G.b _ (by decide))) (G.k (i:=120))) (λhk H6 S6=> ?_) (λhk H6 S6=> ?_)
  ·have lt:120<(Km383.writeAsk 0 qq).length:=by
    have:=of_decide_eq_true hk
    omega
   rw[if_pos lt] at hD
   refine bA (Nl.go (cx (G.k (i:= -75))) λa H7 S7 na ha=> ?_)
   exact hD a H7 ((VH.trans S6).trans S7) ((VH.trans S6).free na) ha
  ·have lt:¬ 120<(Km383.writeAsk 0 qq).length:=by
    have:=of_decide_eq_false hk
    omega
   rw[if_neg lt] at hD
   refine bA (Nl.go (Nl.cast (yg (xs:= [.int (((Km383.writeAsk 0 qq).length:Nat):Int)]) (ys:=(Km383.fill 120 (Km383.writeAsk 0 qq)).map nV) (by rw[List.length_map,oP (by omega)];show 1+120<=_;omega) (cx (Gv (a1 (nm 3) a0) hz (G.b _ (by decide)))).ex (bZ f9 hr (by decide) (a1 (Zm (t:=Km383.writeAsk 0 qq) 4 nV (nm 3) (λk _ s1 H0 C cl fp=>Uy (a1 (nm 4) a0) Gt.ord) (by omega) dI.nd).ex (a1 (G.k (i:=120)) a0)) ⟨_,120,rfl,by omega,by decide,rfl⟩).ex) (show _=tV ⟨_,_⟩ from(JG _ _).symm)) λa H7 S7 na ha=> ?_)
   exact hD a H7 ((VH.trans S6).trans S7) ((VH.trans S6).free na) ha
inductive Aq:Nat->List Nat->List Nat->Km383.Call->Prop
 |where_ (t d:Nat):Aq 15 [t,d] [] (.where_ t d)
 |dose (t d:Nat):Aq 16 [t,d] [] (.dose t d)
 |until_ (t:Nat):Aq 17 [t] [] (.until_ t)
 |inside (p:Nat):Aq 18 [p] [] (.inside p)
 |overdue:Aq 19 [] [] .overdue
 |must:Aq 20 [] [] .must
 |find (n:Nat) (row t:List Nat) (h:E1 n row t):Aq 21 [n] row (.find t n)
 |write (n:Nat) (row t:List Nat) (h:E1 n row t):Aq 22 [n] row (.write t n)
 |entry (k:Nat):Aq 23 [k] [] (.entry k)
 |state:Aq 24 [] [] .state
def Kc(m:Addr)(b:Book)(A:aQ)(l:List Sh)(xs:List V):Prop:=∃(c:Nat)(nums row:List Nat)(d:Km383.Call),l= [.v (.ref m),.v (.int c),.l (nums.map nV),.l (row.map nV)]/\Aq c nums row d/\(∀d∈b.log,(Km383.told d).length<=13)/\xs=tV (Km383.act b d).2
theorem QV:ao ["museum","call","numbers","row"] ["museum","call","numbers","row"] (ah (top 154)):=b5
theorem QW(D:Dn K mg "ask" 154)(G:Gs mg)(tq:bU P w K mg ae "where" 2 (nk K Ar))(yx:bU P w K mg ae "dose" 2 (nk K ED))(tu:bU P w K mg ae "until" 2 (nk K As))(pR:bU P w K mg ae "inside" 3 (nk K wC))(mD:bU P w K mg ae "overdue" 3 (nk K uG))(yy:bU P w K mg ae "must" 4 (nk K EE))
 (fW:bU P w K mg ae "find_things" 7 (nk K lN))(dU:bU P w K mg ae "write_question" 7 (y1 iL))(tD:bU P w K mg ae "entry" 2 (nk K Av))(tE:bU P w K mg ae "state" 2 (nk K Aw)):bU P w K mg ae "ask" 8 (nk K Kc):=by
 refine bU.ofD D RQ QV nk.up ?_
 rintro f aK A0 aq s H XE l xs ys hr os ⟨m,b,A,R,c,nums,row,d,rfl,hA,Qa,rfl⟩
 obtain⟨p1,p2,rfl,hq,Vy⟩:=EA os
 cases hA with
 |where_ t d=>
  exact jP (ai cg (nm 1) (G.k (i:=15))) (bj (bZ tq hr (by decide) (a1 (nm 0) (a1 (ix ((nm 2).lst hq) int rfl) (a1 (ix ((nm 2).lst hq) int rfl) a0))) ⟨m,b,A,R,t,d,rfl,rfl⟩))
 |dose t d=>
  refine pK (ai cg (nm 1) G.k) (by decide) ?_
  exact jP (ai cg (nm 1) (G.k (i:=16))) (bj (bZ yx hr (by decide) (a1 (nm 0) (a1 (ix ((nm 2).lst hq) int rfl) (a1 (ix ((nm 2).lst hq) int rfl) a0))) ⟨m,b,A,R,t,d,rfl,rfl⟩))
 |until_ t=>
  iterate 2 refine pK (ai cg (nm 1) G.k) (by decide) ?_
  exact jP (ai cg (nm 1) (G.k (i:=17))) (bj (bZ tu hr (by decide) (a1 (nm 0) (a1 (ix ((nm 2).lst hq) int rfl) a0)) ⟨m,b,A,R,t,rfl,rfl⟩))
 |inside p=>
  iterate 3 refine pK (ai cg (nm 1) G.k) (by decide) ?_
  exact jP (ai cg (nm 1) (G.k (i:=18))) (bj (bZ pR hr (by decide) (a1 (nm 0) (a1 (ix ((nm 2).lst hq) int rfl) a0)) ⟨m,b,A,R,p,rfl,rfl⟩))
 |overdue=>
  iterate 4 refine pK (ai cg (nm 1) G.k) (by decide) ?_
  exact jP (ai cg (nm 1) (G.k (i:=19))) (bj (bZ mD hr (by decide) (a1 (nm 0) a0) ⟨m,b,A,R,rfl,rfl⟩))
 |must=>
  iterate 5 refine pK (ai cg (nm 1) G.k) (by decide) ?_
  exact jP (ai cg (nm 1) (G.k (i:=20))) (bj (bZ yy hr (by decide) (a1 (nm 0) a0) ⟨m,b,A,R,rfl,rfl⟩))
 |find n _ t h=>
  iterate 6 refine pK (ai cg (nm 1) G.k) (by decide) ?_
  exact jP (ai cg (nm 1) (G.k (i:=21))) (bj (bZ fW hr (by decide) (a1 (nm 0) (a1 (ix ((nm 2).lst hq) int rfl) (a1 ((nm 3).lst Vy) a0))) ⟨m,b,A,R,n,row,t,rfl,h,rfl⟩))
 |write n _ t h=>
  iterate 7 refine pK (ai cg (nm 1) G.k) (by decide) ?_
  exact jP (ai cg (nm 1) (G.k (i:=22))) (bj (bZ dU hr (by decide) (a1 (ix ((nm 2).lst hq) int rfl) (a1 ((nm 3).lst Vy) a0)) ⟨n,row,t,b,rfl,h,rfl⟩))
 |entry k=>
  iterate 8 refine pK (ai cg (nm 1) G.k) (by decide) ?_
  exact jP (ai cg (nm 1) (G.k (i:=23))) (bj (bZ tD hr (by decide) (a1 (nm 0) (a1 (ix ((nm 2).lst hq) int rfl) a0)) ⟨m,b,A,R,k,rfl,Qa,rfl⟩))
 |state=>
  iterate 9 refine pK (ai cg (nm 1) G.k) (by decide) ?_
  exact bj (bZ tE hr (by decide) (a1 (nm 0) a0) ⟨m,b,A,R,rfl,rfl⟩)
end
open Km383 (House Book)
def E2(K:W.Frag):Sp:=λys H Q _=>∃(m a:Addr)(b:Book)(A:aQ)(cs:List (List (List Int)))(k:Nat)(c:List (List Int)),ys= [.ref m,.ref a,.int (mI cs k)]/\aF K H a ((PyFlat.put cs).map V.int)/\Rep K H m b A/\Good b/\cs[k]? =some c/\Km383Neutral.asked1 c=true/\(bK c=.start->b=Km383.fresh)/\
 (∀P y,A.at m P=some y->y≠a)/\∀H' A' r,Rep K H' m (Km383.act b (bK c)).1 A'->Fr m [] A A' H H'->H' r=some (.lst ((Km383Neutral.told (Km383.act b (bK c)).2).map V.int))->(∀P,A'.at m P≠some r)->(∀y o,H y=some o->(∀P,A.at m P≠some y)->r≠y)->(Km383Neutral.told (Km383.act b (bK c)).2).length<=130->Q (.ref r) H'
section
variable{P:Program}{w:World}{K:W.Frag}{mg:Str->Option Value}{ae:Heap}
theorem A3{f fM fS:Addr}{fd ZE UE:FuncData}{C:Cs}{n:Nat}(F:jq K "answers" "answers" (top Jn) f fd)(G:Gs mg)(T:Tx K C.m C.p C.t C.s)(mM:mg "Museum"=some (.ref C.m))(MM:Mk K C.m fM)(FM:bD P w K mg ae eT 3 fM ZE ["self"] (N9 C))(bM:Binds K ZE ["self"] [])
 (FS:bD P w K mg ae eT n fS UE ["museum","calls","at"] (E2 K))(mS:mg "said_to"=some (.ref fS))(kS:W.keepIn K (.ref fS)=true)(bS:Binds K UE ["museum","calls","at"] [])
 (qH:Cal P w K mg ae "next_at" 2 (pk λns off p nums row rest z=>z=.v (.int ((off+1+nums.length+(if bu p then 1+row.length else 0):Nat):Int))))(hn:4<=n):bD P w K mg ae eT (n+1) f fd ["calls"] (Jm K):=by
 refine F.ok eD (λvs H Q E h=> ?_) (λaK A0 aq s H vs Q E hr h=>⟨_,aD,?_⟩)
 ·obtain⟨a,ns,rfl,_⟩:=h
  rfl
 ·obtain⟨a,ns,rfl,hl,QX,k⟩:=h
  obtain⟨cs,rfl,ha,cW,hc,Yj⟩:=line QX
  have ZF:∀{pos p:PySem.Pos}{σ:L2.St}{H1:Hp}{Q:VK},(∀m H2 A,Rep K H2 m Km383.fresh A->au H1 H2->(∀P y,A.at m P=some y->H1 y=none)->Q (.ref m) H2)->se (bx P w K mg ae ["calls","museum","given","at","said"] "answers" (top Jn) f aK A0 aq s H E) (.Call (.Name "Museum" p) [] [] pos) σ H1 Q:=λ{pos p σ H1 Q} hQ=>
   aY (Hy (E:=E0) MM FM (hr.mono hn) rfl mM bM .nil mN) λx dx nx nd ne=>by
    refine⟨x,dx,rfl,ak,λH' A R own kp=>⟨rfl,?_⟩⟩
    have S:au H1 H':=au.made nx nd kp
    refine hQ x H' A ⟨⟨C,T,R⟩,vZ,Nat.zero_le _⟩ S λP y hy=> ?_
    rcases own P y hy with e|e
    ·rw[e]
     exact nx
    ·by_cases q:y=x
     ·rw[q]
      exact nx
     ·rw[aj q] at e
      by_cases q2:y=dx
      ·rw[q2]
       exact nd
      ·rw[aj q2] at e
       exact e
  refine dD 1 (ZF λm H1 A R1 S1 Yk=> ?_) eD.nd
  refine dD 2 (gT _ (au.refl _) _ λg H2 S2 ng hg=> ?_) eD.nd
  refine dH 3 int (λH3 S3=> ?_) eD.nd
  refine mh (λn σ H'=>∃k,n=cs.length - k/\Lw K H a cs k σ H') (n:=cs.length) ⟨0,rfl,⟨⟨m,g,A,none,rfl,(R1.up S2).up S3,(S1.trans S2).trans S3,Yk,S3 _ _ hg,S1.free ng,λP e=> ?_⟩,Nat.zero_le _,λx hx=>by cases hx⟩⟩ (λn σ H4 ⟨j,en,L⟩=> ?_) PassesOwn.never
  ·obtain⟨C',T',R'⟩:=R1.ex
   obtain⟨o,ho⟩:=cK.some (R'.ex P g e)
   rw[ng] at ho
   cases ho
  ·subst en
   obtain⟨⟨m,g,A,sd,rfl,R,S,own,hg,ng,no⟩,hj,sm⟩:=L
   have Om:aF K H4 a ((PyFlat.put cs).map V.int):=S.seq hl
   have UJ:((PyFlat.put cs).map V.int).length=(PyFlat.put cs).length:=List.length_map _
   refine⟨_,ai zT (nm 3) (len (a1 ((nm 0).lst Om) a0) (G.b _ (by decide))),λhT H5 S5=> ?_,λhF H5 S5=> ?_⟩
   ·
    have gJ:j<cs.length:=(Es ha hj).mp (by
     have:=of_decide_eq_true hT
     rw[UJ] at this
     omega)
    have QY:cs[j]? =some cs[j]:=List.getElem?_eq_getElem gJ
    have mc:=List.getElem_mem gJ
    generalize cs[j]=c at QY mc
    have VJ:=ha c mc
    obtain⟨p,nums,row,pc⟩:=pz VJ
    have cat:=pc.at QY
    have hl5:aF K H5 a ((PyFlat.put cs).map V.int):=S5.seq Om
    have go:∀(D:Ends)(m:Addr)(A:aQ)(b:Book)(H6:Hp),(∀aO H' k,k<=cs.length->j<k->Lw K H a cs k aO H'->D.nx aO H')->Rep K H6 m b A->Good b->(bK c=.start->b=Km383.fresh)->(Km383.act b (bK c))=(Km383.act (after Km383.fresh (cs.take j)) (bK c))->au H H6->(∀P y,A.at m P=some y->H y=none)->H6 g=some (.lst ((PyFlat.told (run Km383.fresh (cs.take j))).map V.int))->(∀P,A.at m P≠some g)->
     sb (bx P w K mg ae ["calls","museum","given","at","said"] "answers" (top Jn) f aK A0 aq s H E) Uu D [some (.ref a),some (.ref m),some (.ref g),some (.int (mI cs j)),sd] H6:=λD m A b H6 hD R6 gb hU Kd S6 QZ Yl Ym=>by
     have hl6:aF K H6 a ((PyFlat.put cs).map V.int):=S6.seq hl
     refine XF λhKn=> ?_
     have UK:∀P y,A.at m P=some y->y≠a:=λP y hy e=>by
      obtain⟨C',T',R'⟩:=R6.ex
      obtain⟨u,hu⟩:=cK.some (R'.ex P y hy)
      have hn:=QZ P y hy
      subst e
      rcases hl with(h|⟨o,h⟩)|⟨o,its,n',hK,_⟩
      ·rw[h] at hn;cases hn
      ·rw[h] at hn;cases hn
      ·rw[hKn y o hK] at hu;cases hu
     refine dD 4 (cS (ys:= [.ref m,.ref a,.int (mI cs j)]) FS hr mS kS bS (a1 (nm 1) (a1 (nm 0) (a1 (nm 3) a0))) λH7 S7=>⟨m,a,b,A,cs,j,c,rfl,S7.seq hl6,R6.up S7,gb,QY,VJ,hU,UK,λH8 A' r R8 fr Yn nr nr7 hlen=> ?_⟩) eD.nd
     rw[Kd] at R8 Yn hlen
     have g8:H8 g=some (.lst ((PyFlat.told (run Km383.fresh (cs.take j))).map V.int)):=fr.keep g _ (S7 _ _ Yl) Ym (by simp)
     have S8:au H H8:=λy o hy=>fr.keep y o (S7 _ _ (S6 _ _ hy)) (λP e=>by
      rw[QZ P y e] at hy
      cases hy) (by simp)
     have Yo:∀P y,A'.at m P=some y->H y=none:=λP y hy=>by
      rcases fr.new P y hy with⟨P',q⟩|q|q
      ·exact QZ P' y q
      ·exact(S6.trans S7).free q
      ·simp at q
     have ZG:∀P,A'.at m P≠some g:=λP e=>by
      rcases fr.new P g e with⟨P',q⟩|q|q
      ·exact Ym P' q
      ·rw[S7 _ _ Yl] at q;cases q
      ·simp at q
     have rg:r≠g:=nr7 g _ (S7 _ _ Yl) Ym
     have aae:(PyFlat.told (run Km383.fresh (cs.take j))).length<=131 * 1000:=by
      have h1:=Ag _ sm
      have h2:(run Km383.fresh (cs.take j)).length=(cs.take j).length:=Er _ _
      rw[h2,List.length_take] at h1
      omega
     have kJ:=sizeLine_eq
     refine dh (nm 2) g8 λH9 S9=>(len (xs:=(Km383Neutral.told (Km383.act (after Km383.fresh (cs.take j)) (bK c)).2).map V.int) (a1 ((nm 4).lst (aF.of Yn)) a0) (G.b _ (by decide))) H9 S9 _ λv Vg Jj ov=> ?_
     have ev:v=.int _:=ov
     subst ev
     refine⟨_,Jj _ _ (S9 _ _ g8),by rw[List.length_map];omega,?_⟩
     refine Jh (nm 2) ak (nm 4) (by rw[aj rg];exact Jj _ _ (S9 _ _ Yn)) (by rw[List.length_append,List.length_map,List.length_map];show _+1+_<=_;omega) λQt Jk=> ?_
     have kp:∀y o,H8 y=some o->y≠g->upd Qt g (.lst ((((PyFlat.told (run Km383.fresh (cs.take j))).map V.int)++ [V.int ((Km383Neutral.told (Km383.act (after Km383.fresh (cs.take j)) (bK c)).2).map V.int).length])++(Km383Neutral.told (Km383.act (after Km383.fresh (cs.take j)) (bK c)).2).map V.int)) y=some o:=λy o hy hW=>by
      rw[aj hW]
      refine Jk _ _ ?_
      rw[aj hW]
      exact Jj _ _ (S9 _ _ hy)
     have SX:au H (upd Qt g (.lst ((((PyFlat.told (run Km383.fresh (cs.take j))).map V.int)++ [V.int ((Km383Neutral.told (Km383.act (after Km383.fresh (cs.take j)) (bK c)).2).map V.int).length])++(Km383Neutral.told (Km383.act (after Km383.fresh (cs.take j)) (bK c)).2).map V.int))):=λy o hy=>kp y o (S8 _ _ hy) λe=>by
      rw[e,ng] at hy
      cases hy
     have RX:=R8.Ob λP y o hy ho=>kp y o ho λe=>ZG P (by rw[hy,e])
     refine dH 3 (call (qH.at hr (by omega)) (a1 ((nm 0).lst (SX.seq hl)) (a1 (nm 3) a0)) ⟨PyFlat.put cs,mI cs j,p,nums,row,_,rfl,cat,rfl⟩) (λH12 Oe=>dB (hD _ _ (j+1) gJ (Nat.lt_succ_self _) ⟨⟨m,g,A',some (.ref r),?_,?_,SX.trans Oe,Yo,?_,ng,ZG⟩,gJ,?_⟩)) eD.nd
     ·show [_,_,_,_,_]= [_,_,_,_,_]
      rw[F6 QY,pc.len]
      rw[show mI cs j+(1+nums.length+if bu p=true then 1+row.length else 0)=mI cs j+1+nums.length+if bu p=true then 1+row.length else 0 by omega]
     ·rw[cO QY,Cv]
      exact RX.up Oe
     ·rw[cO QY,ui,F7]
      refine Oe _ _ ?_
      rw[ak,List.map_append,List.map_append,List.length_map]
      rfl
     ·intro x hx
      rw[cO QY,ui] at hx
      rcases List.mem_append.mp hx with hx|hx
      ·exact sm x hx
      ·rw[List.mem_singleton.mp hx]
       exact hlen
    have nx:∀{D:Ends},(D.nx=λaO H'=>∃n',n'<cs.length - j/\∃k,n'=cs.length - k/\Lw K H a cs k aO H')->∀aO H' k,k<=cs.length->j<k->Lw K H a cs k aO H'->D.nx aO H':=λ{D} e aO H' k h1 h2 L=>by
     rw[e]
     exact⟨cs.length - k,by omega,k,rfl,L⟩
    refine ph (ai cg (ix ((nm 0).lst hl5) (nm 3) cat.p0) (G.k (i:=0))) (λh0 H6 S6=> ?_) (λh0 H6 S6=> ?_)
    ·have p0:p=0:=by
      have:=of_decide_eq_true h0
      omega
     have hs:=pc.st.mp p0
     refine dD 1 (ZF λm2 H7 A2 R7 S7 UL=>dB ?_) eD.nd
     have ZH:au H H6:=(S.trans S5).trans S6
     refine go _ m2 A2 Km383.fresh H7 (nx rfl) R7 nM (λ_=>rfl) (by rw[hs];rfl) (ZH.trans S7) (λP y hy=>ZH.free (UL P y hy)) (S7 _ _ (S6 _ _ (S5 _ _ hg))) λP e=> ?_
     have q:=UL P g e
     rw[S6 _ _ (S5 _ _ hg)] at q
     cases q
    ·refine go _ m A _ H6 (nx rfl) ((R.up S5).up S6) (uj _ _ nM) (λhs=> ?_) rfl ((S.trans S5).trans S6) own (S6 _ _ (S5 _ _ hg)) no
     have p0:=pc.st.mpr hs
     rw[p0] at h0
     cases h0
   ·
    have eS:cs.length<=j:=by
     by_cases q:j<cs.length
     ·have:=(Es ha hj).mpr q
      have h2:=of_decide_eq_false hF
      rw[UJ] at h2
      omega
     ·omega
    have ej:cs.take j=cs:=List.take_of_length_le eS
    rw[ej] at hg
    refine cB (nm 2) λH6 S6=>k H6 g ?_
    rw[Yj]
    exact S6 _ _ (S5 _ _ hg)
end
def bytesOf(p:Nat)(nums row:List Int):List Int:=if bu p=true then row.take (min (nums.headD 0).toNat row.length) else []
theorem iM{p:Nat}{nums row:List Int}(h:bu p=true):bytesOf p nums row=row.take (min (nums.headD 0).toNat row.length):=if_pos h
theorem natN{z:Int}{k:Nat}(h:Km383Neutral.natural z k=true):((z.toNat:Nat):Int)=z:=Int.toNat_of_nonneg (nonneg h)
theorem uS{r:List Int}{k:Nat}(h:r.all (λ(z:Int)=>Km383Neutral.natural z k)=true):(Km383Neutral.nats r).map (λ(n:Nat)=>(n:Int))=r:=by
 unfold Km383Neutral.nats
 rw[List.map_map]
 conv=>rhs;rw[<-List.map_id r]
 apply List.map_congr_left
 intro z hz
 exact natN (List.all_eq_true.mp h z hz)
theorem hX{c:List (List Int)}{p:Nat}{nums:List Int}(h:bu p=false)(hp:PyFlat.put1 c=(p:Int)::nums)(nn:pj[p]? =some nums.length)(st:p=0↔bK c=.start):Parts c p nums []:=⟨by rw[hp,Jl h,List.append_nil],nn,λ_=>rfl,st⟩
theorem Q0{c:List (List Int)}{p:Nat}{nums row:List Int}(h:bu p=true)(hp:PyFlat.put1 c=(p:Int)::(nums++((row.length:Int)::row)))(nn:pj[p]? =some nums.length)(st:p=0↔bK c=.start):Parts c p nums row:=⟨by rw[hp,if_pos h],nn,(λz=>by rw[h] at z;cases z),st⟩
theorem fk(b:Book)(nums:List Nat)(d:Km383.Deed)(h:tooMany nums d=false):b.do_ d=((chg b nums d).1,Km383.only (chg b nums d).2):=by
 unfold chg
 rw[if_neg (by rw[h];simp)]
 have:=Iw b d
 generalize b.do_ d=z at this
 obtain⟨z1,z2,z3⟩:=z
 have this:z3= []:=this
 subst this
 rfl
theorem kinds{c:List (List Int)}(h:Km383Neutral.asked1 c=true):∃(p:Nat)(nums row:List Int)(kF:List Nat),Parts c p nums row/\nums=kF.map (λ(n:Nat)=>(n:Int))/\((p=0/\bK c=.start)\/
 (1<=p/\p<=14/\∃(ws:List Nat)(d:Km383.Deed),bytesOf p nums row=ws.map (λ(n:Nat)=>(n:Int))/\Dd p kF ws d/\ws.length<=8/\(tooMany kF d=false->∀n k u p',kF= [n,k,u,p']->p=3->ws.length=n)/\∀b:Book,Km383.act b (bK c)=((chg b kF d).1,Km383.only (chg b kF d).2))\/
 (15<=p/\p<=24/\∃rw:List Nat,bytesOf p nums row=rw.map (λ(n:Nat)=>(n:Int))/\Aq p kF rw (bK c)/\∀b:Book,(Km383.act b (bK c)).1=b)):=by
 revert c
 apply Vk
 ·intro h;exact⟨0, [], [], [],hX (by decide) rfl rfl ⟨λ_=>rfl,λ_=>rfl⟩,rfl,.inl ⟨rfl,rfl⟩⟩
 ·intro b0 b1 b2 b3 h
  have h:(_&&_)=true:=h
  simp only[Bool.and_eq_true] at h
  obtain⟨⟨⟨h0,h1⟩,h2⟩,h3⟩:=h
  exact⟨1, [b0,b1,b2,b3], [], [b0.toNat,b1.toNat,b2.toNat,b3.toNat],hX (by decide) rfl rfl (gM rfl rfl),by show [b0,b1,b2,b3]= [((b0.toNat:Nat):Int),((b1.toNat:Nat):Int),((b2.toNat:Nat):Int),((b3.toNat:Nat):Int)];rw[natN h0,natN h1,natN h2,natN h3],.inr (.inl ⟨by decide,by decide, [],.place b0.toNat b1.toNat b2.toNat b3.toNat,rfl,.place _ _ _ _,by decide,(λ_ n k u p' e z=>absurd z (by decide)),λb=>fk b [b0.toNat,b1.toNat,b2.toNat,b3.toNat] _ rfl⟩)⟩
 ·intro b0 b1 h
  have h:(_&&_)=true:=h
  simp only[Bool.and_eq_true] at h
  obtain⟨h0,h1⟩:=h
  exact⟨2, [b0,b1], [], [b0.toNat,b1.toNat],hX (by decide) rfl rfl (gM rfl rfl),by show [b0,b1]= [((b0.toNat:Nat):Int),((b1.toNat:Nat):Int)];rw[natN h0,natN h1],.inr (.inl ⟨by decide,by decide, [],.light b0.toNat b1.toNat,rfl,.light _ _,by decide,(λ_ n k u p' e z=>absurd z (by decide)),λb=>fk b [b0.toNat,b1.toNat] _ rfl⟩)⟩
 ·intro b0 b1 b2 b3 r0 h
  have h:(_&&_)=true:=h
  simp only[Bool.and_eq_true] at h
  obtain⟨⟨⟨⟨⟨hl,hr⟩,h0⟩,h1⟩,h2⟩,h3⟩:=h
  have hl:r0.length=8:=of_decide_eq_true hl
  have rn:=uS hr
  refine⟨3, [b0,b1,b2,b3],r0, [b0.toNat,b1.toNat,b2.toNat,b3.toNat],Q0 (by decide) (mj _ _) rfl (gM rfl rfl),by show [b0,b1,b2,b3]= [((b0.toNat:Nat):Int),((b1.toNat:Nat):Int),((b2.toNat:Nat):Int),((b3.toNat:Nat):Int)];rw[natN h0,natN h1,natN h2,natN h3],.inr (.inl ⟨by decide,by decide,(Km383Neutral.nats r0).take (min b0.toNat 8),.thing ((Km383Neutral.nats r0).take (min b0.toNat 8)) b1.toNat b2.toNat b3.toNat,?_,.thing _ _ _ _ _,?_,?_,λb=> ?_⟩)⟩
  ·rw[iM (by decide)]
   show r0.take (min b0.toNat r0.length)=_
   rw[hl,List.map_take,rn]
  ·rw[List.length_take]
   omega
  ·intro tm n k u p' e _
   have e0:b0.toNat=n:=(List.cons.inj e).1
   have tm:decide (8<b0.toNat)=false:=tm
   have:=of_decide_eq_false tm
   rw[List.length_take,Km383Neutral.nats,List.length_map,hl]
   omega
  ·show(if Km383.NAME<b0.toNat then(b,Km383.only (-22)) else b.do_ (.thing ((Km383Neutral.nats r0).take b0.toNat) b1.toNat b2.toNat b3.toNat))=_
   by_cases q:8<b0.toNat
   ·have q':Km383.NAME<b0.toNat:=q
    rw[if_pos q']
    unfold chg
    rw[if_pos (show tooMany [b0.toNat,b1.toNat,b2.toNat,b3.toNat] (.thing _ _ _ _)=true from decide_eq_true q)]
   ·have q':¬Km383.NAME<b0.toNat:=q
    rw[if_neg q',show min b0.toNat 8=b0.toNat by omega]
    exact fk b _ _ (decide_eq_false q)
 ·intro b0 b1 h
  have h:(_&&_)=true:=h
  simp only[Bool.and_eq_true] at h
  obtain⟨h0,h1⟩:=h
  exact⟨4, [b0,b1], [], [b0.toNat,b1.toNat],hX (by decide) rfl rfl (gM rfl rfl),by show [b0,b1]= [((b0.toNat:Nat):Int),((b1.toNat:Nat):Int)];rw[natN h0,natN h1],.inr (.inl ⟨by decide,by decide, [],.move b0.toNat b1.toNat,rfl,.move _ _,by decide,(λ_ n k u p' e z=>absurd z (by decide)),λb=>fk b [b0.toNat,b1.toNat] _ rfl⟩)⟩
 ·intro b0 h
  have h0:=h
  exact⟨5, [b0], [], [b0.toNat],hX (by decide) rfl rfl (gM rfl rfl),by show [b0]= [((b0.toNat:Nat):Int)];rw[natN h0],.inr (.inl ⟨by decide,by decide, [],.day b0.toNat,rfl,.day _,by decide,(λ_ n k u p' e z=>absurd z (by decide)),λb=>fk b [b0.toNat] _ rfl⟩)⟩
 ·intro b0 b1 h
  have h:(_&&_)=true:=h
  simp only[Bool.and_eq_true] at h
  obtain⟨h0,h1⟩:=h
  exact⟨6, [b0,b1], [], [b0.toNat,b1.toNat],hX (by decide) rfl rfl (gM rfl rfl),by show [b0,b1]= [((b0.toNat:Nat):Int),((b1.toNat:Nat):Int)];rw[natN h0,natN h1],.inr (.inl ⟨by decide,by decide, [],.harm b0.toNat b1.toNat,rfl,.harm _ _,by decide,(λ_ n k u p' e z=>absurd z (by decide)),λb=>fk b [b0.toNat,b1.toNat] _ rfl⟩)⟩
 ·intro b0 b1 b2 h
  have h:(_&&_)=true:=h
  simp only[Bool.and_eq_true] at h
  obtain⟨⟨h0,h1⟩,h2⟩:=h
  exact⟨7, [b0,b1,b2], [], [b0.toNat,b1.toNat,b2.toNat],hX (by decide) rfl rfl (gM rfl rfl),by show [b0,b1,b2]= [((b0.toNat:Nat):Int),((b1.toNat:Nat):Int),((b2.toNat:Nat):Int)];rw[natN h0,natN h1,natN h2],.inr (.inl ⟨by decide,by decide, [],.lend b0.toNat b1.toNat b2.toNat,rfl,.lend _ _ _,by decide,(λ_ n k u p' e z=>absurd z (by decide)),λb=>fk b [b0.toNat,b1.toNat,b2.toNat] _ rfl⟩)⟩
 ·intro b0 b1 h
  have h:(_&&_)=true:=h
  simp only[Bool.and_eq_true] at h
  obtain⟨h0,h1⟩:=h
  exact⟨8, [b0,b1], [], [b0.toNat,b1.toNat],hX (by decide) rfl rfl (gM rfl rfl),by show [b0,b1]= [((b0.toNat:Nat):Int),((b1.toNat:Nat):Int)];rw[natN h0,natN h1],.inr (.inl ⟨by decide,by decide, [],.home b0.toNat b1.toNat,rfl,.home _ _,by decide,(λ_ n k u p' e z=>absurd z (by decide)),λb=>fk b [b0.toNat,b1.toNat] _ rfl⟩)⟩
 ·intro b0 b1 b2 h
  have h:(_&&_)=true:=h
  simp only[Bool.and_eq_true] at h
  obtain⟨⟨h0,h1⟩,h2⟩:=h
  exact⟨9, [b0,b1,b2], [], [b0.toNat,b1.toNat,b2.toNat],hX (by decide) rfl rfl (gM rfl rfl),by show [b0,b1,b2]= [((b0.toNat:Nat):Int),((b1.toNat:Nat):Int),((b2.toNat:Nat):Int)];rw[natN h0,natN h1,natN h2],.inr (.inl ⟨by decide,by decide, [],.show_ b0.toNat b1.toNat b2.toNat,rfl,.show_ _ _ _,by decide,(λ_ n k u p' e z=>absurd z (by decide)),λb=>fk b [b0.toNat,b1.toNat,b2.toNat] _ rfl⟩)⟩
 ·intro b0 b1 h
  have h:(_&&_)=true:=h
  simp only[Bool.and_eq_true] at h
  obtain⟨h0,h1⟩:=h
  exact⟨10, [b0,b1], [], [b0.toNat,b1.toNat],hX (by decide) rfl rfl (gM rfl rfl),by show [b0,b1]= [((b0.toNat:Nat):Int),((b1.toNat:Nat):Int)];rw[natN h0,natN h1],.inr (.inl ⟨by decide,by decide, [],.book b0.toNat b1.toNat,rfl,.book _ _,by decide,(λ_ n k u p' e z=>absurd z (by decide)),λb=>fk b [b0.toNat,b1.toNat] _ rfl⟩)⟩
 ·intro b0 b1 h
  have h:(_&&_)=true:=h
  simp only[Bool.and_eq_true] at h
  obtain⟨h0,h1⟩:=h
  exact⟨11, [b0,b1], [], [b0.toNat,b1.toNat],hX (by decide) rfl rfl (gM rfl rfl),by show [b0,b1]= [((b0.toNat:Nat):Int),((b1.toNat:Nat):Int)];rw[natN h0,natN h1],.inr (.inl ⟨by decide,by decide, [],.unbook b0.toNat b1.toNat,rfl,.unbook _ _,by decide,(λ_ n k u p' e z=>absurd z (by decide)),λb=>fk b [b0.toNat,b1.toNat] _ rfl⟩)⟩
 ·intro b0 h
  have h0:=h
  exact⟨12, [b0], [], [b0.toNat],hX (by decide) rfl rfl (gM rfl rfl),by show [b0]= [((b0.toNat:Nat):Int)];rw[natN h0],.inr (.inl ⟨by decide,by decide, [],.hang b0.toNat,rfl,.hang _,by decide,(λ_ n k u p' e z=>absurd z (by decide)),λb=>fk b [b0.toNat] _ rfl⟩)⟩
 ·intro b0 b1 h
  have h:(_&&_)=true:=h
  simp only[Bool.and_eq_true] at h
  obtain⟨h0,h1⟩:=h
  exact⟨13, [b0,b1], [], [b0.toNat,b1.toNat],hX (by decide) rfl rfl (gM rfl rfl),by show [b0,b1]= [((b0.toNat:Nat):Int),((b1.toNat:Nat):Int)];rw[natN h0,natN h1],.inr (.inl ⟨by decide,by decide, [],.down b0.toNat b1.toNat,rfl,.down _ _,by decide,(λ_ n k u p' e z=>absurd z (by decide)),λb=>fk b [b0.toNat,b1.toNat] _ rfl⟩)⟩
 ·intro b0 h
  have h0:=h
  exact⟨14, [b0], [], [b0.toNat],hX (by decide) rfl rfl (gM rfl rfl),by show [b0]= [((b0.toNat:Nat):Int)];rw[natN h0],.inr (.inl ⟨by decide,by decide, [],.cancel b0.toNat,rfl,.cancel _,by decide,(λ_ n k u p' e z=>absurd z (by decide)),λb=>fk b [b0.toNat] _ rfl⟩)⟩
 ·intro b0 b1 h
  have h:(_&&_)=true:=h
  simp only[Bool.and_eq_true] at h
  obtain⟨h0,h1⟩:=h
  exact⟨15, [b0,b1], [], [b0.toNat,b1.toNat],hX (by decide) rfl rfl (gM rfl rfl),by show [b0,b1]= [((b0.toNat:Nat):Int),((b1.toNat:Nat):Int)];rw[natN h0,natN h1],.inr (.inr ⟨by decide,by decide, [],rfl,.where_ _ _,λb=>rfl⟩)⟩
 ·intro b0 b1 h
  have h:(_&&_)=true:=h
  simp only[Bool.and_eq_true] at h
  obtain⟨h0,h1⟩:=h
  exact⟨16, [b0,b1], [], [b0.toNat,b1.toNat],hX (by decide) rfl rfl (gM rfl rfl),by show [b0,b1]= [((b0.toNat:Nat):Int),((b1.toNat:Nat):Int)];rw[natN h0,natN h1],.inr (.inr ⟨by decide,by decide, [],rfl,.dose _ _,λb=>rfl⟩)⟩
 ·intro b0 h
  have h0:=h
  exact⟨17, [b0], [], [b0.toNat],hX (by decide) rfl rfl (gM rfl rfl),by show [b0]= [((b0.toNat:Nat):Int)];rw[natN h0],.inr (.inr ⟨by decide,by decide, [],rfl,.until_ _,λb=>rfl⟩)⟩
 ·intro b0 h
  have h0:=h
  exact⟨18, [b0], [], [b0.toNat],hX (by decide) rfl rfl (gM rfl rfl),by show [b0]= [((b0.toNat:Nat):Int)];rw[natN h0],.inr (.inr ⟨by decide,by decide, [],rfl,.inside _,λb=>rfl⟩)⟩
 ·intro h
  exact⟨19, [], [], [],hX (by decide) rfl rfl (gM rfl rfl),rfl,.inr (.inr ⟨by decide,by decide, [],rfl,.overdue,λb=>rfl⟩)⟩
 ·intro h
  exact⟨20, [], [], [],hX (by decide) rfl rfl (gM rfl rfl),rfl,.inr (.inr ⟨by decide,by decide, [],rfl,.must,λb=>rfl⟩)⟩
 ·intro b0 r0 h
  have h:(_&&_)=true:=h
  simp only[Bool.and_eq_true] at h
  obtain⟨⟨hl,hr⟩,h0⟩:=h
  have hl:r0.length=120:=of_decide_eq_true hl
  have rn:=uS hr
  refine⟨21, [b0],r0, [b0.toNat],Q0 (by decide) (mj _ _) rfl (gM rfl rfl),by show [b0]= [((b0.toNat:Nat):Int)];rw[natN h0],.inr (.inr ⟨by decide,by decide,(Km383Neutral.nats r0).take (min b0.toNat 120),?_,.find _ _ _ ⟨?_,λq=> ?_⟩,λb=>rfl⟩)⟩
  ·rw[iM (by decide)]
   show r0.take (min b0.toNat r0.length)=_
   rw[hl,List.map_take,rn]
  ·rw[List.length_take]
   omega
  ·rw[show min b0.toNat 120=b0.toNat by omega]
 ·intro b0 r0 h
  have h:(_&&_)=true:=h
  simp only[Bool.and_eq_true] at h
  obtain⟨⟨hl,hr⟩,h0⟩:=h
  have hl:r0.length=120:=of_decide_eq_true hl
  have rn:=uS hr
  refine⟨22, [b0],r0, [b0.toNat],Q0 (by decide) (mj _ _) rfl (gM rfl rfl),by show [b0]= [((b0.toNat:Nat):Int)];rw[natN h0],.inr (.inr ⟨by decide,by decide,(Km383Neutral.nats r0).take (min b0.toNat 120),?_,.write _ _ _ ⟨?_,λq=> ?_⟩,λb=>rfl⟩)⟩
  ·rw[iM (by decide)]
   show r0.take (min b0.toNat r0.length)=_
   rw[hl,List.map_take,rn]
  ·rw[List.length_take]
   omega
  ·rw[show min b0.toNat 120=b0.toNat by omega]
 ·intro b0 h
  have h0:=h
  exact⟨23, [b0], [], [b0.toNat],hX (by decide) rfl rfl (gM rfl rfl),by show [b0]= [((b0.toNat:Nat):Int)];rw[natN h0],.inr (.inr ⟨by decide,by decide, [],rfl,.entry _,λb=>rfl⟩)⟩
 ·intro h
  exact⟨24, [], [], [],hX (by decide) rfl rfl (gM rfl rfl),rfl,.inr (.inr ⟨by decide,by decide, [],rfl,.state,λb=>rfl⟩)⟩
 ·exact λc h _ z=>by rw[h] at z;cases z
theorem iV(ns:List Nat):(ns.map (λ(n:Nat)=>(n:Int))).map V.int=ns.map nV:=by rw[List.map_map];rfl
section
variable{P:Program}{w:World}{K:W.Frag}{mg:Str->Option Value}{ae:Heap}
def qI(φ:List Int->Nat->Nat->List Int->List Int->List Int->List V->Prop):sE:=λ_ l z=>∃(ns:List Int)(off p:Nat)(nums row rest:List Int),l= [.l (ns.map V.int),.v (.int off)]/\CallAt ns off p nums row rest/\φ ns off p nums row rest z
theorem qI.up{φ:List Int->Nat->Nat->List Int->List Int->List Int->List V->Prop}:(qI φ).Up:=λ_ _ _ _ _ h=>h
abbrev ZI:sE:=qI λns off p nums row rest xs=>xs=nums.map V.int
theorem uT(D:Dn K mg "numbers_at" 96)(G:Gn K mg):bU P w K mg ae "numbers_at" 1 ZI:=by
 refine bU.ofD D mH vn qI.up ?_
 rintro f aK A0 aq s H XE l z ys hr os ⟨ns,off,p,nums,row,rest,rfl,c,rfl⟩
 obtain⟨q,rfl,hq⟩:=mV (vs:= [.int off]) os
 obtain⟨a,ha,hT⟩:=G.n
 refine bj (Nl.cast (C4 ((nm 0).lst hq) (add (nm 1) int) (add (add (nm 1) int) (Xw ((gl (y:=.ref a) (u:=.ref a) ha rfl).Xz (hT H)) (ix ((nm 0).lst hq) (nm 1) c.p0) c.XH))) ?_)
 rw[<-c.XI]
 rfl
abbrev ZJ:sE:=qI λns off p nums row rest xs=>(bu p=true->∃(n:Nat)(r:List Int),nums=(n:Int)::r)/\xs=(bytesOf p nums row).map V.int
theorem yz(D:Dn K mg "bytes_at" 97)(Gg:Gs mg)(G:Gn K mg)(eM:Cal P w K mg ae "has_row" 1 qz)(dq:Cal P w K mg ae "row_start" 1 (pk λns off p nums row rest z=>z=.v (.int ((off+1+nums.length+1:Nat):Int)))):bU P w K mg ae "bytes_at" 2 ZJ:=by
 refine bU.ofD D mH rz qI.up ?_
 rintro f aK A0 aq s H XE l z ys hr os ⟨ns,off,p,nums,row,rest,rfl,c,hn,rfl⟩
 obtain⟨q,rfl,hq⟩:=mV (vs:= [.int off]) os
 obtain⟨a,ha,hT⟩:=G.n
 refine EC (cz (aI (call (eM.at hr) (a1 (ix ((nm 0).lst hq) (nm 1) c.p0) a0) ⟨p,rfl,rfl⟩))) (λh=> ?_) (λh=> ?_)
 ·have h:bu p=false:=by simpa using h
  refine bj (Nl.cast gT ?_)
  unfold bytesOf
  rw[if_neg (by rw[h];simp)]
  rfl
 ·have h:bu p=true:=by simpa using h
  obtain⟨n,r,rfl⟩:=hn h
  refine yj 2 (call (dq.at hr) (a1 ((nm 0).lst hq) (a1 (nm 1) a0)) ⟨ns,off,p,_,row,rest,rfl,c,rfl⟩) ?_ rz.nd
  refine bj (Nl.cast (C4 ((nm 0).lst hq) (nm 2) (add (nm 2) (min2 (a1 (ix (x:=.int n) ((nm 0).lst hq) (add (nm 1) int) ?_) (a1 (ix (x:=.int row.length) ((nm 0).lst hq) (sub (nm 2) int) ?_) a0)) (Gg.b _ (by decide))))) ?_)
  ·have g:=c.get 1
   exact cZ (j:=off+1) (by rw[List.getElem?_map,g];rfl)
  ·rw[show((off+1+((n:Int)::r).length+1:Nat):Int) - 1=((off+(1+((n:Int)::r).length):Nat):Int) by omega]
   exact cZ (by rw[List.getElem?_map,c.Zc h];rfl)
  ·have e:(if (row.length:Int)<n then(row.length:Int) else n)=((min n row.length:Nat):Int):=by
    split<;>omega
   rw[e,iM h]
   show _=(row.take (min (n:Int).toNat row.length)).map V.int
   rw[Int.toNat_natCast,<-c.XJ h (min n row.length) (by omega)]
   rfl
theorem g7:ao ["museum","calls","at","numbers","row"] ["museum","calls","at"] (ah (top 205)):=b5
theorem Dh{f fC:Addr}{fd Og:FuncData}(F:jq K "said_to" "said_to" (top 205) f fd)(G:Gs mg)(fm:bU P w K mg ae "numbers_at" 1 ZI)(g9:bU P w K mg ae "bytes_at" 2 ZJ)(FC:bD P w K mg ae eT 6 fC Og ["museum","call","numbers","letters"] (Ap K))(mC:mg "change"=some (.ref fC))(kC:W.keepIn K (.ref fC)=true)(bC:Binds K Og ["museum","call","numbers","letters"] [])(E3:bU P w K mg ae "ask" 8 (nk K Kc)):bD P w K mg ae eT 9 f fd ["museum","calls","at"] (E2 K):=by
 refine F.ok g7 (λvs H Q XE h=> ?_) (λaK A0 aq s0 H vs Q XE hr h=>⟨_,aD,?_⟩)
 ·obtain⟨m,a,b,A,cs,k,c,rfl,_⟩:=h
  rfl
 ·obtain⟨m,a,b,A,cs,k,c,rfl,hl,R,gd,hck,VJ,hU,UK,hQ⟩:=h
  have al:=LX gd (bK c)
  obtain⟨p,nums,row,kF,pc,en,kd⟩:=kinds VJ
  have cat:=pc.at hck
  have MT:∀{H1:Hp}{x:Addr},au H H1->H1 x=none->∀P,A.at m P≠some x:=λ{H1 x} S hx P z=>by
   obtain⟨o,ho⟩:=(R.up S).kM P x z
   rw[hx] at ho
   cases ho
  rcases kd with⟨p0,hs⟩|⟨p1,p14,ws,d,eb,hD,hw,hn,Kd⟩|⟨p15,p24,TJ,eb,hA,Kd⟩
  ·
   subst p0
   have eb:=hU hs
   subst eb
   rw[hs] at hQ al
   refine Ez (i:=0) (ai cg (ix ((nm 1).lst hl) (nm 2) cat.p0) (G.k (i:=0))) λH1 S1=>bA (Nl.go (cx int) λr H2 S2 nr hr2=> ?_)
   have S:=S1.trans S2
   exact hQ H2 A r (R.up S) (Fr.same S) hr2 (MT S1 nr) (λy o hy _ z=>by rw[<-z] at hy;rw[S1 _ _ hy] at nr;cases nr) al
  ·have Yp:((p:Nat):Int)≠0:=by omega
   refine lE (ai cg (ix ((nm 1).lst hl) (nm 2) cat.p0) (G.k (i:=0))) Yp λH1 S1=> ?_
   have UM:aF K H1 a ((PyFlat.put cs).map V.int):=S1.seq hl
   refine dD 3 (Nl.go (bZ fm hr (by decide) (a1 ((nm 1).lst UM) (a1 (nm 2) a0)) ⟨_,_,p,nums,row,_,rfl,cat,rfl⟩) λna H2 S2 Vz jm=> ?_) g7.nd
   have Lq:aF K H2 a ((PyFlat.put cs).map V.int):=S2.seq UM
   refine dD 4 (Nl.go (bZ g9 hr (by decide) (a1 ((nm 1).lst Lq) (a1 (nm 2) a0)) ⟨_,_,p,nums,row,_,rfl,cat,(λ_=>by
    subst en
    cases hD<;>first|exact⟨_,_,rfl⟩),rfl⟩) λla H3 S3 Gk Gj=> ?_) g7.nd
   rw[en,iV] at jm
   rw[eb,iV] at Gj
   have UN:aF K H3 a ((PyFlat.put cs).map V.int):=S3.seq Lq
   have Ux:=(S1.trans S2).trans S3
   refine n8 (ai N4 (ix ((nm 1).lst UN) (nm 2) cat.p0) (G.k (i:=14))) (decide_eq_true (by omega)) λH4 S4=> ?_
   have Om:aF K H4 a ((PyFlat.put cs).map V.int):=S4.seq UN
   have Q5:=Ux.trans S4
   have nal:na≠la:=λz=>by rw[<-z,jm] at Gk;cases Gk
   refine bA (aY (nD (bJ az du)) (cS (ys:= [.ref m,.int p,.ref na,.ref la]) FC (hr.mono (by decide)) mC kC bC (a1 (nm 0) (a1 (ix ((nm 1).lst Om) (nm 2) cat.p0) (a1 (nm 3) (a1 (nm 4) a0)))) λH5 S5=>⟨m,na,la,b,A,p,kF,ws,d,rfl,(R.up Q5).up S5,gd.hh,hD,S5 _ _ (S4 _ _ (S3 _ _ jm)),S5 _ _ (S4 _ _ Gj),MT S1 Vz,MT (S1.trans S2) Gk,nal,hw,hn,λH6 A' R6 fr=>⟨by show 1<=sizeLine;decide,λr Yq=> ?_⟩⟩))
   have Yr:=Q5.trans S5
   have Q6:H la=none:=(S1.trans S2).free Gk
   have Ys:=Kd b
   rw[Ys] at hQ al
   have SU:au H6 (upd H6 r (.lst [.int (chg b kF d).2])):=au.upd Yq
   have fr0:Fr m [] A A' H (upd H6 r (.lst [.int (chg b kF d).2])):=⟨λy o hy n _=>SU _ _ (fr.keep y o (Yr _ _ hy) n (by
    intro z
    rw[List.mem_singleton.mp z,Q6] at hy
    cases hy)),λP y hy=>(fr.new P y hy).elim .inl λq=>q.elim (λq=>.inr (.inl (Yr.free q))) λq=>.inr (.inl (by rw[List.mem_singleton.mp q];exact Q6))⟩
   refine hQ _ A' r (R6.up SU) fr0 ak (λP z=> ?_) (λy o hy n z=> ?_) al
   ·obtain⟨o,ho⟩:=R6.kM P r z
    rw[Yq] at ho
    cases ho
   ·have:=fr.keep y o (Yr _ _ hy) n (by
     intro z'
     rw[List.mem_singleton.mp z',Q6] at hy
     cases hy)
    rw[<-z,Yq] at this
    cases this
  ·have Yp:((p:Nat):Int)≠0:=by omega
   refine lE (ai cg (ix ((nm 1).lst hl) (nm 2) cat.p0) (G.k (i:=0))) Yp λH1 S1=> ?_
   have UM:aF K H1 a ((PyFlat.put cs).map V.int):=S1.seq hl
   refine dD 3 (Nl.go (bZ fm hr (by decide) (a1 ((nm 1).lst UM) (a1 (nm 2) a0)) ⟨_,_,p,nums,row,_,rfl,cat,rfl⟩) λna H2 S2 Vz jm=> ?_) g7.nd
   have Lq:aF K H2 a ((PyFlat.put cs).map V.int):=S2.seq UM
   refine dD 4 (Nl.go (bZ g9 hr (by decide) (a1 ((nm 1).lst Lq) (a1 (nm 2) a0)) ⟨_,_,p,nums,row,_,rfl,cat,(λhb=>by
    subst en
    generalize bK c=cl at hA
    cases hA<;>first|exact⟨_,_,rfl⟩|exact absurd hb (by decide)),rfl⟩) λla H3 S3 Gk Gj=> ?_) g7.nd
   rw[en,iV] at jm
   rw[eb,iV] at Gj
   have UN:aF K H3 a ((PyFlat.put cs).map V.int):=S3.seq Lq
   have Ux:=(S1.trans S2).trans S3
   refine pP (ai N4 (ix ((nm 1).lst UN) (nm 2) cat.p0) (G.k (i:=14))) (decide_eq_false (by omega)) λH4 S4=> ?_
   have Om:aF K H4 a ((PyFlat.put cs).map V.int):=S4.seq UN
   have Q5:=Ux.trans S4
   have R4:=R.up Q5
   refine bA (Nl.go (bZ E3 hr (by decide) (a1 (nm 0) (a1 (ix ((nm 1).lst Om) (nm 2) cat.p0) (a1 ((nm 3).lst (aF.of (S4 _ _ (S3 _ _ jm)))) (a1 ((nm 4).lst (aF.of (S4 _ _ Gj))) a0)))) ⟨m,b,A,R4,p,kF,TJ,bK c,rfl,hA,gd.log,rfl⟩) λr H5 S5 nr VG=> ?_)
   have e1:=Kd b
   rw[e1] at hQ
   have S:=Q5.trans S5
   exact hQ H5 A r (R.up S) (Fr.same S) VG (MT Q5 nr) (λy o hy _ z=>by rw[<-z] at hy;rw[Q5 _ _ hy] at nr;cases nr) al
end
theorem dnk{K:W.Frag}{h:Heap}{mg:Str->Option Value}{x:Str}{i:Nat}{f:Addr}{oc kV doc pm aK ct:Value}{od an:Option Addr}{Bu:Array (Option Value)}(X:K.In h)(G:h.Ns mainGlobals mg)(a:W.nsIn K mainGlobals x=some (some (.ref f)))
 (l:K.lookup f=some ⟨oc,od,.func (W.fnOf x x (dE (top i)) (bL (top i)) (ah (top i)) .none kV doc pm an aK ct),Bu⟩)(c:W.codeIn K aK x=true)(k:W.keepIn K (.ref f)=true):Dn K mg x i:=
 ⟨f,_,HX (st:=top i) l c k,W.mg_of X G a⟩
structure Kl(K:W.Frag)(x qual:Str)(i:Nat)(C f:Addr)(fd:FuncData):Prop where
 ns:W.nsIn K mainGlobals x=some (some (.ref C))
 cls:wW K C
 made:Mk K C f
 fn:jq K "__init__" qual (inClass (top i) 0) f fd
theorem Sg{K:W.Frag}{x qual:Str}{i:Nat}{C f:Addr}{oc kV doc pm aK ct:Value}{od an:Option Addr}{Bu:Array (Option Value)}(a:W.nsIn K mainGlobals x=some (some (.ref C)))(pg:W.plainGet K C Str.empty=true)(hd:W.hasDictIn K C=true)(po:W.plainOver K C=true)(sa:W.findIn K (.ref C) "__setattr__"=some (some (.builtin "object.__setattr__")))
 (mk:W.makesIn K C=true)(ini:W.findIn K (.ref C) "__init__"=some (some (.ref f)))(fn:W.isFn K (.ref f)=true)(kc:W.keepIn K (.ref C)=true)(l:K.lookup f=some ⟨oc,od,.func (W.fnOf "__init__" qual (dE (inClass (top i) 0)) (bL (inClass (top i) 0)) (ah (inClass (top i) 0)) .none kV doc pm an aK ct),Bu⟩)(c:W.codeIn K aK qual=true)(k:W.keepIn K (.ref f)=true):
 Kl K x qual i C f (W.fnOf "__init__" qual (dE (inClass (top i) 0)) (bL (inClass (top i) 0)) (ah (inClass (top i) 0)) .none kV doc pm an aK ct):=
 ⟨a,⟨pg,hd,po,sa⟩,⟨mk,ini,fn,kc⟩,HX (st:=inClass (top i) 0) l c k⟩
structure Df(K:W.Frag)(mg:Str->Option Value):Prop where
 GC:Dn K mg "has_place" 18
 GD:Dn K mg "has_thing" 19
 Ke:Dn K mg "has_show" 20
 MV:Dn K mg "is_hall" 21
 MX:Dn K mg "is_away" 22
 GF:Dn K mg "is_within" 23
 GH:Dn K mg "things_at" 24
 is_full:Dn K mg "is_full" 25
 MY:Dn K mg "is_lent" 26
 GJ:Dn K mg "is_harmed" 27
 yA:Dn K mg "is_bad_there" 28
 GK:Dn K mg "all_shows" 29
 Di:Dn K mg "shows_with" 30
 Dj:Dn K mg "is_hanging" 31
 meets:Dn K mg "meets" 32
 GL:Dn K mg "any_meets" 33
 Kf:Dn K mg "place_on" 34
 Kg:Dn K mg "light_to" 35
 Dk:Dn K mg "light_with" 36
 vD:Dn K mg "place_refusal" 163
 vE:Dn K mg "light_refusal" 165
 MZ:Dn K mg "is_name" 167
 has_name:Dn K mg "has_name" 168
 vF:Dn K mg "thing_refusal" 169
 yB:Dn K mg "move_refusal" 171
 A4:Dn K mg "day_refusal" 173
 yC:Dn K mg "harm_refusal" 176
 yD:Dn K mg "lend_refusal" 179
 yE:Dn K mg "home_refusal" 181
 Kh:Dn K mg "shows_in" 184
 yF:Dn K mg "show_refusal" 185
 vG:Dn K mg "is_lent_after" 187
 yG:Dn K mg "book_refusal" 188
 uU:Dn K mg "unbook_refusal" 190
 yH:Dn K mg "has_room_for" 192
 yI:Dn K mg "hang_refusal" 193
 yJ:Dn K mg "down_refusal" 196
 uV:Dn K mg "cancel_refusal" 198
 Dl:Dn K mg "refusal_of" 201
 GO:Dn K mg "add_place" 164
 GP:Dn K mg "set_light" 166
 GQ:Dn K mg "add_thing" 170
 Dm:Dn K mg "move_thing" 172
 M0:Dn K mg "end_day" 174
 GR:Dn K mg "pass_days" 175
 Ki:Dn K mg "set_harm" 177
 Dq:Dn K mg "lend_thing" 180
 Dr:Dn K mg "bring_home" 182
 Kj:Dn K mg "add_show" 186
 Ds:Dn K mg "book_thing" 189
 yK:Dn K mg "unbook_thing" 191
 M3:Dn K mg "put_all" 194
 GU:Dn K mg "hang_show" 195
 GV:Dn K mg "take_down" 197
 A5:Dn K mg "cancel_show" 199
 GW:Dn K mg "carry_out" 202
 change:Dn K mg "change" 203
 M4:Dn K mg "has_row" 94
 GX:Dn K mg "row_start" 95
 Dt:Dn K mg "numbers_at" 96
 Kk:Dn K mg "bytes_at" 97
 M5:Dn K mg "next_at" 98
 where_:Dn K mg "where" 138
 dose:Dn K mg "dose" 139
 until_:Dn K mg "until" 140
 M6:Dn K mg "bits_of" 141
 counted:Dn K mg "counted" 142
 inside:Dn K mg "inside" 143
 Du:Dn K mg "is_overdue" 144
 overdue:Dn K mg "overdue" 145
 oa:Dn K mg "has_too_much_light" 146
 M7:Dn K mg "must_go" 147
 must:Dn K mg "must" 148
 filled:Dn K mg "filled" 150
 Q7:Dn K mg "entry" 152
 Q8:Dn K mg "state" 153
 GY:Dn K mg "is_number" 57
 Km:Dn K mg "is_field" 58
 yL:Dn K mg "claim_length" 59
 Kn:Dn K mg "is_claim" 60
 M8:Dn K mg "text_of" 104
 Ko:Dn K mg "part_end" 105
 pz:Dn K mg "parts_of" 106
 Dv:Dn K mg "end_closer" 109
 yM:Dn K mg "take_closing" 111
 take_one:Dn K mg "take_one" 110
 sJ:Dn K mg "take_behind_one" 112
 UO:Dn K mg "take" 113
 Kp:Dn K mg "steps_of" 114
 vH:Dn K mg "read_question" 115
 Kq:Dn K mg "field_of" 62
 Kr:Dn K mg "compares" 63
 A6:Dn K mg "is_claim_so" 64
 M9:Dn K mg "both_so" 65
 Dx:Dn K mg "take_truth" 66
 UQ:Dn K mg "is_so" 67
 bracketed:Dn K mg "bracketed" 133
 Dy:Dn K mg "both_piece" 134
 Dz:Dn K mg "take_piece" 135
 written:Dn K mg "written" 136
 A7:Dn K mg "find_things" 149
 uW:Dn K mg "write_question" 151
 ask:Dn K mg "ask" 154
 Nb:Dn K mg "said_to" 205
 answers:Dn K mg "answers" 206
theorem all_mk{P:Program}{w:World}{K:W.Frag}{h:Heap}{mg:Str->Option Value}{fa:Addr}{yN gR yO Q9 A8 UR yP Nc yQ Nf DB Ra:Addr}{Rb Rc UT Ng Nh Rf:FuncData}(X:K.In h)(GN:h.Ns mainGlobals mg)(hfa:mg "answers"=some (.ref fa))(D:Df K mg)
 (jX:Kl K "Place" "Place.__init__" 156 yN gR Rb)(lO:Kl K "Thing" "Thing.__init__" 157 yO Q9 Rc)(rP:Kl K "Show" "Show.__init__" 158 A8 UR UT)(pT:Kl K "Museum" "Museum.__init__" 159 yP Nc Ng)(pU:Kl K "Reader" "Reader.__init__" 108 yQ Nf Nh)(qJ:Kl K "Piece" "Piece.__init__" 132 DB Ra Rf)(Ks:∀f∈(["up","kind","room","light"]:List Str),bX K yN f)(Kt:∀f∈(["name","material","limit","harm","came","place","back","stays","lights"]:List Str),bX K yO f)(Oo:∀f∈(["hall","first","over","hung","booked"]:List Str),bX K A8 f)(Ni:∀f∈(["today","places","things","shows","entries"]:List Str),bX K yP f)(Nj:∀f∈(["parts","at","steps","waiting","wants_one"]:List Str),bX K yQ f)(Rg:∀f∈(["text","binding"]:List Str),bX K DB f)(pS:Nn.Plain K A8)(G:Gs mg)(Gn:Gn K mg)(Gt:Gt K mg):
 ∃fd:FuncData,(∀(s:Shared)(us:List Value),us.length=(["calls"]:List Str).length->BindsTo s fd ⟨us, []⟩ ((["calls"]:List Str).zip us))/\∀ae:Heap,K.In ae->ae.Ns mainGlobals mg->bD P w K mg ae eT 10 fa fd ["calls"] (Jm K):=by
 obtain⟨GZ,G3,wK,G4⟩:=D.answers
 have ef:fa=GZ:=by
  have e:=hfa.symm.trans G4
  cases e
  rfl
 subst ef
 refine⟨G3,λs us hu=> ?_,λae _ _=> ?_⟩
 ·obtain⟨oc,od,kV,doc,pm,an,aK,ct,Bu,rfl,lk,KN⟩:=wK.ex
  exact match us,hu with| [_],_=>.of_eq rfl
 obtain⟨Oq,Ot,lQ,A9⟩:=D.GQ
 obtain⟨Ou,Ov,lR,Ba⟩:=D.GW
 obtain⟨UU,UW,uX,Ku⟩:=D.change
 obtain⟨Nk,Nm,fq,jY⟩:=D.Dv
 obtain⟨Kv,Kw,hJ,uY⟩:=D.yM
 obtain⟨Rh,Ri,og,DC⟩:=D.take_one
 obtain⟨E4,E5,ft,pV⟩:=D.sJ
 obtain⟨Yt,Yu,DE,Rj⟩:=D.UO
 obtain⟨Rk,Rl,oh,DF⟩:=D.Kp
 obtain⟨Hd,He,eC,kG⟩:=D.vH
 obtain⟨Np,Nq,jZ,yR⟩:=D.Dx
 obtain⟨Nr,Nt,j1,yS⟩:=D.Dy
 obtain⟨Nu,Nv,j2,yT⟩:=D.Dz
 obtain⟨Si,Sj,qK,G5⟩:=D.Nb
 have Bb:Binds K _ ["museum","material","limit","place","letters"] []:=Xg lQ
 have Bc:Binds K _ ["museum","call","numbers","letters"] []:=h9 lR
 have Kx:Binds K _ ["museum","call","numbers","letters"] []:=h9 uX
 have j3:Binds K _ ["reader","binding"] []:=Xe fq
 have uZ:Binds K _ ["reader"] []:=h8 hJ
 have DG:Binds K _ ["reader"] []:=h8 og
 have pW:Binds K _ ["reader"] []:=h8 ft
 have Rm:Binds K _ ["reader"] []:=h8 DE
 have DH:Binds K _ ["parts"] []:=h8 oh
 have kH:Binds K _ ["row"] []:=h8 eC
 have yU:Binds K _ ["museum","thing","truths","step"] []:=h9 jZ
 have yV:Binds K _ ["first","word","rest"] []:=Xf j1
 have yW:Binds K _ ["pieces","step"] []:=Xe j2
 have G6:Binds K _ ["museum","calls","at"] []:=Xf qK
 have Ky:Binds K _ ["self","up","kind","room","light"] []:=Xg jX.fn
 have Rn:Binds K _ ["self","name","material","limit","came","place"] []:=Xh lO.fn
 have UX:Binds K _ ["self","hall","first","over"] []:=h9 rP.fn
 have Nw:Binds K _ ["self"] []:=h8 pT.fn
 have Ny:Binds K _ ["self","parts"] []:=Xe pU.fn
 have Kz:Binds K _ ["self","text","binding"] []:=Xf qJ.fn
 have KC:=W.mg_of X GN jX.ns
 have Ro:=W.mg_of X GN lO.ns
 have UY:=W.mg_of X GN rP.ns
 have Nz:=W.mg_of X GN pT.ns
 have NB:=W.mg_of X GN pU.ns
 have KD:=W.mg_of X GN qJ.ns
 let C:Cs:=⟨yP,yN,yO,A8⟩
 have T:Tx K C.m C.p C.t C.s:=⟨pT.cls,Ni,jX.cls,Ks,lO.cls,Kt,rP.cls,Oo,pS,jX.ns,lO.ns,rP.ns⟩
 have TR:Tr K yQ:=⟨pU.cls,Nj⟩
 have TP:Tp K DB:=⟨qJ.cls,Rg⟩
 have KG:=Ci (P:=P) (w:=w) (mg:=mg) (ae:=ae) jX.fn jX.cls Ks
 have Rp:=Cz (P:=P) (w:=w) (mg:=mg) (ae:=ae) lO.fn lO.cls Kt
 have UZ:=Gb (P:=P) (w:=w) (mg:=mg) (ae:=ae) rP.fn rP.cls Oo
 have NC:=AQ (P:=P) (w:=w) (mg:=mg) (ae:=ae) pU.fn TR
 have KH:=De (P:=P) (w:=w) (mg:=mg) (ae:=ae) qJ.fn TP
 have ND:=Ad (P:=P) (w:=w) (mg:=mg) (ae:=ae) (C:=C) pT.fn T G KC jX.made KG Ky
 have aA:=xN (P:=P) (w:=w) (ae:=ae) (D:=D.GC) (G:=G)
 have aB:=xP (P:=P) (w:=w) (ae:=ae) (D:=D.GD) (G:=G)
 have aW:=zZ (P:=P) (w:=w) (ae:=ae) (D:=D.Ke) (G:=G)
 have a9:=B5 (P:=P) (w:=w) (ae:=ae) (D:=D.MV) (G:=G)
 have bf:=B7 (P:=P) (w:=w) (ae:=ae) (D:=D.MX) (G:=G)
 have dr:=x8 (P:=P) (w:=w) (ae:=ae) (D:=D.GF) (G:=G)
 have dk:=xQ (P:=P) (w:=w) (ae:=ae) (D:=D.GH) (G:=G)
 have bO:=B9 (D:=D.is_full) (G:=G) (dk:=dk)
 have aJ:=Cb (P:=P) (w:=w) (ae:=ae) (D:=D.MY) (G:=G)
 have a8:=xS (P:=P) (w:=w) (ae:=ae) (D:=D.GJ) (G:=G)
 have aZ:=rV (D:=D.yA) (G:=G) (a8:=a8) (a9:=a9)
 have bV:=xT (P:=P) (w:=w) (ae:=ae) (D:=D.GK) (G:=G)
 have bF:=vg (D:=D.Di) (G:=G) (bV:=bV)
 have bG:=vh (D:=D.Dj) (G:=G) (bF:=bF)
 have sX:=IY (P:=P) (w:=w) (ae:=ae) (D:=D.meets) (G:=G)
 have bW:=xU (D:=D.GL) (G:=G) (sX:=sX)
 have jQ:=Al (P:=P) (w:=w) (ae:=ae) (D:=D.Kf) (G:=G)
 have aV:=z5 (P:=P) (w:=w) (ae:=ae) (D:=D.Kg) (G:=G)
 have gC:=vi (D:=D.Dk) (G:=G) (aV:=aV)
 have ek:=qs (D:=D.vD) (G:=G) (aA:=aA)
 have et:=qu (D:=D.vE) (G:=G) (aA:=aA)
 have ml:=Ce (P:=P) (w:=w) (ae:=ae) (D:=D.MZ) (G:=G)
 have jK:=z8 (P:=P) (w:=w) (ae:=ae) (D:=D.has_name) (G:=G)
 have eA:=qB (D:=D.vF) (G:=G) (jK:=jK) (bO:=bO) (aA:=aA) (bf:=bf) (ml:=ml)
 have eW:=rX (D:=D.yB) (G:=G) (bf:=bf) (aJ:=aJ) (bG:=bG) (aZ:=aZ) (bO:=bO) (aB:=aB) (aA:=aA)
 have fQ:=uc (P:=P) (w:=w) (ae:=ae) (D:=D.A4) (G:=G)
 have eX:=rZ (D:=D.yC) (G:=G) (aB:=aB)
 have eY:=sr (D:=D.yD) (G:=G) (aJ:=aJ) (a8:=a8) (bO:=bO) (bG:=bG) (bW:=bW) (aB:=aB) (aA:=aA) (bf:=bf) (bF:=bF)
 have eZ:=si (D:=D.yE) (G:=G) (bf:=bf) (aZ:=aZ) (bO:=bO) (aJ:=aJ) (aB:=aB) (aA:=aA)
 have jF:=z7 (D:=D.Kh) (G:=G) (bV:=bV)
 have e8:=sv (D:=D.yF) (G:=G) (bW:=bW) (aA:=aA) (jF:=jF) (a9:=a9)
 have eh:=qw (D:=D.vG) (G:=G) (aJ:=aJ)
 have e9:=sy (D:=D.yG) (G:=G) (bF:=bF) (eh:=eh) (bW:=bW) (gC:=gC) (aW:=aW) (aB:=aB)
 have dR:=o8 (D:=D.uU) (G:=G) (aW:=aW)
 have cn:=sx (D:=D.yH) (G:=G) (dk:=dk)
 have fb:=sA (D:=D.yI) (G:=G) (aW:=aW) (cn:=cn) (a8:=a8) (aJ:=aJ) (bG:=bG)
 have fc:=sD (D:=D.yJ) (G:=G) (a9:=a9) (bf:=bf) (cn:=cn) (aW:=aW) (aA:=aA)
 have dS:=pF (D:=D.uV) (G:=G) (aW:=aW)
 have gH:=vv (D:=D.Dl) (G:=G) (ek:=ek) (et:=et) (eA:=eA) (eW:=eW) (fQ:=fQ) (eX:=eX) (eY:=eY) (eZ:=eZ) (e8:=e8) (e9:=e9) (dR:=dR) (fb:=fb) (fc:=fc) (dS:=dS)
 have iD:=xY (P:=P) (w:=w) (ae:=ae) (D:=D.GO) (G:=G) (hC:=(λC2 T2=>by
  have e:C2.p=yN:=by
   have z:=T2.ip.symm.trans jX.ns
   injection z with z
   injection z with z
   injection z
  rw[e]
  exact⟨KC,jX.made,KG⟩)) (bI:=Ky)
 have iE:=x5 (P:=P) (w:=w) (ae:=ae) (D:=D.GP)
 have Bd:=yd (P:=P) (w:=w) (ae:=ae) (F:=lQ) (G:=G) (hC:=(λC2 T2=>by
  have e:C2.t=yO:=by
   have z:=T2.it.symm.trans lO.ns
   injection z with z
   injection z with z
   injection z
  rw[e]
  exact⟨Ro,lO.made,Rp⟩)) (bI:=Rn)
 have gD:=vm (P:=P) (w:=w) (ae:=ae) (D:=D.Dm) (G:=G)
 have mn:=CF (P:=P) (w:=w) (ae:=ae) (D:=D.M0)
 have iF:=ye (D:=D.GR) (G:=G) (mn:=mn)
 have jN:=Ah (D:=D.Ki) (aZ:=aZ)
 have gE:=vp (P:=P) (w:=w) (ae:=ae) (D:=D.Dq)
 have gF:=vq (P:=P) (w:=w) (ae:=ae) (D:=D.Dr)
 have jO:=Ai (P:=P) (w:=w) (ae:=ae) (D:=D.Kj) (hC:=(λC2 T2=>by
  have e:C2.s=A8:=by
   have z:=T2.is.symm.trans rP.ns
   injection z with z
   injection z with z
   injection z
  rw[e]
  exact⟨UY,rP.made,UZ⟩)) (bI:=UX)
 have gG:=vo (P:=P) (w:=w) (ae:=ae) (D:=D.Ds) (G:=G)
 have fe:=sC (P:=P) (w:=w) (ae:=ae) (D:=D.yK) (G:=G)
 have eN:=Cy (P:=P) (w:=w) (ae:=ae) (D:=D.M3)
 have iG:=x6 (D:=D.GU) (G:=G) (eN:=eN)
 have iH:=x9 (D:=D.GV) (G:=G) (eN:=eN)
 have fU:=uz (P:=P) (w:=w) (ae:=ae) (D:=D.A5)
 have Be:=yi (F:=lR) (G:=G) (iD:=iD) (iE:=iE) (gD:=gD) (iF:=iF) (jN:=jN) (gE:=gE) (gF:=gF) (jO:=jO) (gG:=gG) (fe:=fe) (iG:=iG) (iH:=iH) (fU:=fU) (FT:=Bd) (mT:=A9) (kT:=lQ.kp) (bT:=Bb)
 have KJ:=Gp (F:=uX) (G:=G) (gH:=gH) (FC:=Be) (mC:=Ba) (kC:=lR.kp) (bC:=Bc)
 have eM:=Cp (P:=P) (w:=w) (ae:=ae) (D:=D.M4) (G:=G)
 have dq:=x3 (P:=P) (w:=w) (ae:=ae) (D:=D.GX) (G:=Gn)
 have fm:=uT (P:=P) (w:=w) (ae:=ae) (D:=D.Dt) (G:=Gn)
 have g9:=yz (D:=D.Kk) (Gg:=G) (G:=Gn) (eM:=eM) (dq:=dq)
 have qH:=Cq (D:=D.M5) (G:=Gn) (eM:=eM) (dq:=dq)
 have tq:=JK (D:=D.where_) (G:=G) (aB:=aB) (jQ:=jQ)
 have yx:=Mx (D:=D.dose) (G:=G) (aB:=aB) (aV:=aV)
 have tu:=JM (D:=D.until_) (G:=G) (aB:=aB) (aV:=aV)
 have mq:=CK (P:=P) (w:=w) (ae:=ae) (D:=D.M6) (G:=G)
 have bQ:=CN (D:=D.counted) (G:=G) (mq:=mq)
 have pR:=Gq (D:=D.inside) (G:=G) (aA:=aA) (dr:=dr) (bQ:=bQ)
 have gI:=vx (D:=D.Du) (G:=G) (aJ:=aJ)
 have mD:=CQ (D:=D.overdue) (G:=G) (gI:=gI) (bQ:=bQ)
 have cT:=kL (D:=D.oa) (G:=G) (aV:=aV)
 have mr:=CW (D:=D.M7) (G:=G) (a9:=a9) (a8:=a8) (cT:=cT)
 have yy:=My (D:=D.must) (G:=G) (mr:=mr) (bQ:=bQ)
 have f9:=Gu (P:=P) (w:=w) (ae:=ae) (D:=D.filled) (G:=G)
 have tD:=JQ (D:=D.Q7) (G:=G) (f9:=f9)
 have tE:=JT (D:=D.Q8) (G:=G) (bV:=bV)
 have gf:=yn (P:=P) (w:=w) (ae:=ae) (D:=D.GY) (G:=G)
 have dO:=Az (P:=P) (w:=w) (ae:=ae) (D:=D.Km) (Gt:=Gt)
 have fj:=sG (D:=D.yL) (Gt:=Gt) (dO:=dO)
 have jS:=AB (D:=D.Kn) (G:=G) (Gt:=Gt) (dO:=dO) (gf:=gf)
 have jn:=C3 (P:=P) (w:=w) (ae:=ae) (D:=D.M8) (G:=G) (Gt:=Gt)
 have jR:=AH (P:=P) (w:=w) (ae:=ae) (D:=D.Ko) (G:=G) (Gt:=Gt)
 have jU:=AI (D:=D.pz) (G:=G) (Gt:=Gt) (jR:=jR)
 have j4:=vz (P:=P) (w:=w) (ae:=ae) (F:=fq) (G:=G) (Gt:=Gt) (TR:=TR)
 have u6:=sI (F:=hJ) (G:=G) (Gt:=Gt) (TR:=TR) (FE:=j4) (mE:=jY) (kE:=fq.kp) (bE:=j3)
 have DI:=AK (F:=og) (G:=G) (Gt:=Gt) (TR:=TR) (fj:=fj) (jS:=jS)
 have pX:=nY (F:=ft) (G:=G) (Gt:=Gt) (TR:=TR) (FE:=j4) (mE:=jY) (kE:=fq.kp) (bE:=j3) (FC:=u6) (mC:=uY) (kC:=hJ.kp) (bC:=uZ)
 have Rt:=ML (P:=P) (w:=w) (ae:=ae) (F:=DE) (TR:=TR) (F1:=DI) (m1:=DC) (k1:=og.kp) (b1:=DG) (F2:=pX) (m2:=pV) (k2:=ft.kp) (b2:=pW)
 have DJ:=AR (F:=oh) (G:=G) (Gt:=Gt) (TR:=TR) (mR:=NB) (MR:=pU.made) (FR:=NC) (bR:=Ny) (FE:=j4) (mE:=jY) (kE:=fq.kp) (bE:=j3) (FT:=Rt) (mT:=Rj) (kT:=DE.kp) (bT:=Rm)
 have kI:=qG (F:=eC) (jn:=jn) (jU:=jU) (FS:=DJ) (mS:=DF) (kS:=oh.kp) (bS:=DH)
 have jV:=AU (D:=D.Kq) (Gt:=Gt) (aV:=aV)
 have jW:=AW (P:=P) (w:=w) (ae:=ae) (D:=D.Kr) (Gt:=Gt)
 have fV:=uO (D:=D.A6) (Gt:=Gt) (aJ:=aJ) (a9:=a9) (dr:=dr) (jV:=jV) (jW:=jW)
 have mw:=C9 (P:=P) (w:=w) (ae:=ae) (D:=D.M9) (Gt:=Gt)
 have yX:=vA (F:=jZ) (Gt:=Gt) (mw:=mw) (fV:=fV)
 have tj:=J4 (D:=D.UQ) (FT:=yX) (mT:=yR) (kT:=jZ.kp) (bT:=yU)
 have cU:=yw (P:=P) (w:=w) (ae:=ae) (D:=D.bracketed) (TP:=TP)
 have yZ:=vB (F:=j1) (Gt:=Gt) (mP:=KD) (MP:=qJ.made) (FP:=KH) (bP:=Kz) (cU:=cU)
 have y0:=vC (F:=j2) (Gt:=Gt) (TP:=TP) (mP:=KD) (MP:=qJ.made) (FP:=KH) (bP:=Kz) (cU:=cU) (FB:=yZ) (mB:=yS) (kB:=j1.kp) (bB:=yV)
 have mz:=Dg (D:=D.written) (TP:=TP) (FT:=y0) (mT:=yT) (kT:=j2.kp) (bT:=yW)
 have fW:=uR (D:=D.A7) (G:=G) (FR:=kI) (mR:=kG) (kR:=eC.kp) (bR:=kH) (tj:=tj) (bQ:=bQ)
 have dU:=pQ (D:=D.uW) (G:=G) (Gt:=Gt) (FR:=kI) (mR:=kG) (kR:=eC.kp) (bR:=kH) (mz:=mz) (f9:=f9)
 have E3:=QW (D:=D.ask) (G:=G) (tq:=tq) (yx:=yx) (tu:=tu) (pR:=pR) (mD:=mD) (yy:=yy) (fW:=fW) (dU:=dU) (tD:=tD) (tE:=tE)
 have G7:=Dh (F:=qK) (G:=G) (fm:=fm) (g9:=g9) (FC:=KJ) (mC:=Ku) (kC:=uX.kp) (bC:=Kx) (E3:=E3)
 exact A3 wK G T Nz pT.made ND Nw G7 G5 qK.kp G6 qH (by decide)
def Ru(mg:Str->Option Value)(x:Str)(i:Int):Prop:=∃t,mg x=some (.int i t)
def DK(mg:Str->Option Value)(x:Str)(s:List Nat):Prop:=∃t,mg x=some (.str ⟨s.toArray⟩ t)
section
variable{K:W.Frag}{h:Heap}{mg:Str->Option Value}
theorem cst{x:Str}{i:Int}{v:Value}(X:K.In h)(G:h.Ns mainGlobals mg)(a:W.nsIn K mainGlobals x=some (some v))(r:∃t,v=.int i t):Ru mg x i:=let⟨t,e⟩:=r;⟨t,e▸W.mg_of X G a⟩
theorem Yv{x:Str}{s:List Nat}{v:Value}(X:K.In h)(G:h.Ns mainGlobals mg)(a:W.nsIn K mainGlobals x=some (some v))(r:∃t,v=.str ⟨s.toArray⟩ t):DK mg x s:=let⟨t,e⟩:=r;⟨t,e▸W.mg_of X G a⟩
theorem u9{α β:Type} [DecidableEq α]{x:α}{y:β}:∀{l:List (α×β)},l.lookup x=some y->(x,y)∈l
 | [],h=>by cases h
 | (a,b)::l,h=>by
   rw[List.lookup_cons] at h
   split at h
   ·next q=>
    cases h
    rw[eq_of_beq q]
    exact List.mem_cons_self
   ·exact List.mem_cons_of_mem _ (u9 h)
theorem qL{C:Addr}:∀f∈([]:List Str),bX K C f:=λ_ h=>nomatch h
theorem a7{C:Addr}{f:Str}{l:List Str}(a:W.findIn K (.ref C) f=some none)(r:∀g∈l,bX K C g):∀g∈f::l,bX K C g:=λg hg=>(List.mem_cons.mp hg).elim (λe=>e▸(show bX K C f from a)) (r g)
theorem Rv:∀f∈([]:List Str),mg f=none:=λ_ h=>nomatch h
theorem j5{f:Str}{l:List Str}(X:K.In h)(G:h.Ns mainGlobals mg)(a:W.nsIn K mainGlobals f=some none)(r:∀g∈l,mg g=none):∀g∈f::l,mg g=none:=λg hg=>(List.mem_cons.mp hg).elim (λe=>e▸W.mg_none_of X G a) (r g)
theorem Yw{f:Addr}{od:Option Addr}{its:Array Value}{n:Nat}{Bu:Array (Option Value)}(X:K.In h)(G:h.Ns mainGlobals mg)(a:W.nsIn K mainGlobals "NUMBERS"=some (some (.ref f)))(l:K.lookup f=some ⟨.type "tuple",od,.seq its n,Bu⟩)(z:its.size<=sizeLine)(v:Vals (pj.map nV) its.toList):Gn K mg:=
 ⟨⟨f,W.mg_of X G a,λH=>.inr ⟨_,its,n,l,rfl,rfl,z,v⟩⟩⟩
theorem U0{f:Addr}{es:Array DictEntry}{ep:Nat}(X:K.In h)(G:h.Ns mainGlobals mg)(a:W.nsIn K mainGlobals "BINDING"=some (some (.ref f)))(l:K.lookup f=some ⟨.type "dict",none,.dict es ep,#[]⟩)(s:(f==sysModules)=false)(r:KTD.Rows (λ(d:Int)(v:Value)=>∃t,v=.int d t) es.toList Ax):∃a,mg "BINDING"=some (.ref a)/\KDict K a Ax:=
 ⟨f,W.mg_of X G a,s,_,es,ep,l,⟨rfl,rfl,rfl⟩,rfl,r⟩
theorem Rw:∀p∈([]:List (Str×Int)),Ru mg p.1 p.2:=λ_ h=>nomatch h
theorem NF{x:Str}{i:Int}{l:List (Str×Int)}(a:Ru mg x i)(r:∀p∈l,Ru mg p.1 p.2):∀p∈(x,i)::l,Ru mg p.1 p.2:=λp hp=>(List.mem_cons.mp hp).elim (λe=>e▸a) (r p)
theorem Rx:∀p∈([]:List (Str×List Nat)),DK mg p.1 p.2:=λ_ h=>nomatch h
theorem NH{x:Str}{i:List Nat}{l:List (Str×List Nat)}(a:DK mg x i)(r:∀p∈l,DK mg p.1 p.2):∀p∈(x,i)::l,DK mg p.1 p.2:=λp hp=>(List.mem_cons.mp hp).elim (λe=>e▸a) (r p)
theorem U1(c:∀p∈consts,Ru mg p.1 p.2)(b:∀x∈(["len","any","all","max","min","enumerate","range"]:List Str),mg x=none):Gs mg:=⟨b,λx i e=>c (x,i) (u9 e)⟩
theorem U2(c:∀p∈uJ,DK mg p.1 p.2)(b1:mg "ord"=none)(b2:mg "int"=none)(b3:∃a,mg "BINDING"=some (.ref a)/\KDict K a Ax):Gt K mg:=⟨λx i e=>c (x,i) (u9 e),b1,b2,b3⟩
end
end Mu
open PySem PySem.W PyProof.Rows
abbrev Mu.DfX{K:PySem.W.Frag}{h:Heap}(_:K.In h)(mg:Str->Option Value):Prop:=Mu.Df K mg
inductive PySem.W.Fast|tw5700485766606295261|tw17629955031789911418|tw15078961185885244507|tw3691757586981414171|tw2236351378946258869|tw14610893998938675857|tw15193223438025707849|tw655464017010365056|tw11943240501050162879|tw18180783674711361820|tw11622269112956840423|tw8884770349233011639|tw6404981795520829594|tw14381732277744565398|tw17781094249389983298|tw17216668649147916663|tw7394481865469970540|tw1233711729255572905|tw2385915550916363245|tw11319086693802504026|tw158837102283969707|tw14848321626116494843|tw17008085398399833092|tw15498989595197336215|tw11602679646398190056|tw1665820323638014305|tw3543739060032187176|tw6546532631538150765|tw6493723751540489830|tw17851786128033563743|tw6409832573239020431|tw18069845661143501586|tw12472160985895843403|tw52534342706764286|tw17558053735232385628|tw14406728642330003546|tw16365068663558428650|tw18124332371106243287|tw16723221459303549754|tw14582456913283324788|tw6059577899985296682|tw8081401095015003787|tw1327705596469950998|tw15080829415527294537|tw7022203191291674075|tw16742785248213289714|tw17569386433544260277|tw12152968284209432822|tw16004972971884987866|tw14927176908966817496|tw13796215507343001565|tw3287901682262422981|tw6131972766558412310|tw15048007483782501814|tw11713562302858067851|tw14402582459955893724|tw2974206601538628923|tw13420934407042126319|tw16359141712918905543|tw17427996315240761764|tw1615111305540533207|tw14823048780418018054|tw13229350153181632917|tw1098609536186502545|tw3093065499057349172|tw2663274983468032299|tw2772478306056033286|tw15701831521611592111|tw8714980894980844396|tw17407470733411268144|tw14530228758410776189|tw16501885164945817794|tw5281602242063103713|tw8103068603067227659|tw226890279874112168|tw14373063050567807745|tw7167917202623536578|tw15555254534931838153|tw4567063391436896430|tw15120204142785964426|tw16851024432975879100|tw5793895950157379350|tw8675915591886685480|tw10287925411698075061|tw17216058888426692942|tw11634114964869274726|tw1247002903130678483|tw16520374813430998088|tw2430089628621682216|tw16645191233701943274|tw17562805391521688939|tw18050674891549866900|tw10544496116153049278|tw286690490480953124|tw17022124139403392221|tw13710767645008011080|tw5050430564419023613|tw13604329927576978985|tw9863918063034346899|tw4393570231808011319|tw962958731828389084|tw9138379663062614496|tw340878009354616125|tw87937085985179721|tw13539341175501881903|tw9464642919848840727|tw11875364803853589800|tw9045295669401054351|tw11327410278707020238|tw6268247792527626524|tw11819680939526063188|tw16460204810009508837|tw12549100425931263992|tw1569927484582860975|tw8712693192597098228|tw14352458900937089529|tw16283631394097524361|tw5600314760333170338|tw3400611327477764740|tw13989760860153506468|tw2422165813619436289|tw17538400013576936916|tw1865473570952150141|tw3597118093511998554|tw14386174961883690137|tw11100980254582411784|tw2297313466955437591|tw702764122860286222|tw7221749979802551258|tw9200657997170914214|tw1930106534340354740|tw16588878834677130267|tw4779076471290563184|tw5341795729666473928|tw6221706758235540803|tw2038119816453678061|tw6667322202357673638|tw5141323097436897906|tw13385152992145671566|tw16996377531759663703|tw1519496704703227439|tw12049406035856717860|tw14250826995477932486|tw13201715257288224250|tw11951927477862159926|tw9266615474769945093|tw6690405368629247674|tw17574675178537974602|tw14680468838710022238|tw1151414594877258803|tw4426364478525247270|tw13547473530565741436|tw1715055280015765170|tw12045158819000336422|tw7619200523664151775|tw11440653101201065671|tw4858700454915553737|tw5561936648564859276|tw13663308443059593433|tw12632334659161439182|tw2172951005156763390|tw4039943222915078988|tw3584195233506561763|tw7087899927653500499|tw8937188502651438016|tw18105567557108056055|tw11346950411952564774|tw4924189093673900304|tw7967810745797137950|tw4479152525623236878|tw17058759232046235183|tw2575948374346257067|tw7287899429146165510|tw2893961534872322346|tw3813239296545541370|tw9802999995612867894|tw1337144684334704602|tw4009878424398626726|tw17953749483358781868|tw8120561739758456424|tw16341239087475179104|tw10168015358628081196|tw8511395624690427126|tw12719154645412207154|tw15234579502086924237|tw2210657262632869538|tw12158034101207120159|tw11516858037939711155|tw14410074940811319452|tw17153378546418740080|tw9629981272964758537|tw2067656114233817656|tw13081659319762773322|tw4685138627839881720|tw3282061244673257765|tw14797386563772304934|tw4179723317339137669|tw11396173240473606724|tw16664544101494481875|tw7845188429402358712|tw9965275183153369336|tw14719329952065260545|tw16372103612282727174|tw17696718980617239296|tw17446769210948405564|tw3011659132750417597|tw18304603014745990126|tw7149475874079644783|tw190437432656127053|tw16891831271043538640|tw5270207255946252405|tw3959291776990340172|tw9640131120043903256|tw13891244415576101777|tw6610614347400450223|tw1051536748722484945|tw7257006608313272470|tw9500103440348644043|tw5967613424773134987|tw17546326208418528440|tw6276421390185116258|tw7571615954569688242|tw344851031029789606|tw13266520434684510921|tw10504439528249480905|tw12814338001351403041|tw8387258259853461631|tw4302774220485698632|tw6322501529335577054|tw7959705817946824906|tw6774321361276839695|tw8774022357515492292|tw13123253419172161942|tw13507966728603325597|tw9707305197224453422|tw13069782453671484886|tw9991043220319464994|tw1836711193906926313|tw13259049677740566985|tw11425726420579559797|tw2363879897245989846|tw1449821908241334587|tw12108422740401953791|tw940275816621338652|tw16192767044073564068|tw8976126882708992809|tw13363262339085475852|tw17687772791350042009|tw4258068495749990129|tw13446687396093781158|tw17772158299188001595|tw5157500846411280244|tw11124329122520253503|tw3095143644812662363|tw13142346875027001840|tw15161855569543968234
namespace Mv
open PySem PySem.W PyProof.Rows
def q0:Program:= { PySem.Challenge.pw_museumhouse_s01_answers with main:= { PySem.Challenge.pw_museumhouse_s01_answers.main with body:= [Mu.top 206] } }
def l0:List Str:=PySem.Challenge.pw_museumhouse_s01_answers.boundNames
def Yx(s:Stmt):PySem.Pos:=match s with
 | .FunctionDef _ _ _ _ _ _ _ _ _ p=>p
 |_=>⟨0,0,0,0⟩
def d0:DefRec:=⟨"answers",L2.dE (Mu.top 206),L2.bL (Mu.top 206),L2.ah (Mu.top 206),Yx (Mu.top 206)⟩
theorem Yy:defOf q0 PySem.Challenge.rw_museumhouse_s01_answers.name=some (d0, []):=by kernel_rfl
theorem w1:sreFenced PySem.Challenge.rw_museumhouse_s01_answers.prog.main=true:=by k_qdec
theorem w2:((moduleNames PySem.Challenge.rw_museumhouse_s01_answers.prog.main.body).isEmpty||lookedIntoSs (moduleNames PySem.Challenge.rw_museumhouse_s01_answers.prog.main.body) PySem.Challenge.rw_museumhouse_s01_answers.prog.main.body)=true:=by k_qdec
theorem w3:namesResolve PySem.Challenge.rw_museumhouse_s01_answers.prog=true:=by k_qdec
theorem w4:PySem.Challenge.rw_museumhouse_s01_answers.prog.boundNames.all (λn=> !worldNames.contains n)=true:=by k_qdec
theorem w5:noRoadLSs { strict:= !(importedModules PySem.Challenge.rw_museumhouse_s01_answers.prog.main.body).all cThrough.contains,foot:=none,bare:=(["vars","dir","locals"]:List Str).filter (readsOut PySem.Challenge.rw_museumhouse_s01_answers.prog PySem.Challenge.rw_museumhouse_s01_answers.prog.main.body) } PySem.Challenge.rw_museumhouse_s01_answers.prog.main.body=true:=by k_qdec
theorem w6:(namesMeet PySem.Challenge.rw_museumhouse_s01_answers.prog PySem.Challenge.rw_museumhouse_s01_answers.prog.main.body λ_ n=>attrL n)=true:=by k_qdec
theorem w7:PySem.Challenge.rw_museumhouse_s01_answers.prog.boundNames.contains PySem.Challenge.rw_museumhouse_s01_answers.name=true:=by k_qdec
theorem w8:(!startupNames.contains PySem.Challenge.rw_museumhouse_s01_answers.name)=true:=by k_qdec
theorem w9:specDef PySem.Challenge.rw_museumhouse_s01_answers.prog PySem.Challenge.rw_museumhouse_s01_answers.name PySem.Challenge.rw_museumhouse_s01_answers.args.length=true:=by k_qdec
theorem w10:PySem.Challenge.rw_museumhouse_s01_answers.args.all Codec.fits=true:=by k_qdec
theorem w11:PySem.Challenge.rw_museumhouse_s01_answers.ret.ok=true:=by k_qdec
theorem o1:chainsOk q0=true:=by k_qdec
theorem o2:(opening PySem.Challenge.rw_museumhouse_s01_answers.prog).tameTopW=true:=by k_qdec
theorem o3:(!bearImports (behindTheImports PySem.Challenge.rw_museumhouse_s01_answers.prog))=true:=by k_qdec
theorem b6:PySem.Challenge.rw_museumhouse_s01_answers.prog.tablesWhole=true:=by k_qdec
theorem k1:PySem.Challenge.rw_museumhouse_s01_answers.wellSaid=true:=by
 unfold OpenSpec.wellSaid looksOpen
 exact look_both (look_both (look_both (look_both (look_both (look_both (look_both (look_both (look_both (look_both w1 w2) w3) w4) w5) w6) w7) w8) w9) w10) w11
theorem ok:(chainsOk q0&&opensWell PySem.Challenge.rw_museumhouse_s01_answers.prog)=true:=by
 unfold opensWell
 exact look_both o1 (look_both o2 o3)
theorem hb:PySem.Challenge.rw_museumhouse_s01_answers.prog.bare:=⟨rfl,rfl,rfl,rfl,rfl,b6⟩
def VL(x:Str)(st:Stmt):Bool:=match st with| .FunctionDef n ..=>n==x|_=>false
theorem hp1:(!((PySem.Challenge.pw_museumhouse_s01_answers.main.body.take 206).any (VL "answers")))=true:=by k_qdec
theorem hp2:PySem.Challenge.pw_museumhouse_s01_answers.main.body=PySem.Challenge.pw_museumhouse_s01_answers.main.body.take 206++ [Mu.top 206]:=by kernel_rfl
theorem hp3:VL "answers" (Mu.top 206)=true:=by k_qdec
theorem R0:PySem.Challenge.pw_museumhouse_s01_answers.main.body.filter (VL "answers")= [Mu.top 206]:=by
 rw[hp2,List.filter_append,List.filter_cons,if_pos hp3,List.filter_nil,List.filter_eq_nil_iff.mpr,List.nil_append]
 intro x hx q
 have h:=hp1
 rw[Bool.not_eq_true',List.any_eq_false] at h
 exact h x hx q
theorem hp:PySem.Challenge.rw_museumhouse_s01_answers.prog.theDef PySem.Challenge.rw_museumhouse_s01_answers.name=some (d0.params,d0.body,d0.scope):=by
 show(match PySem.Challenge.pw_museumhouse_s01_answers.main.body.filter (VL "answers") with
  | [.FunctionDef _ args body [] _ [] scope _ _ _]=>some (args,body,scope)
  |_=>none)=_
 rw[R0]
 kernel_rfl
theorem hk:kwWritten? d0.params.kwonlyargs d0.params.kw_defaults=some []:=by kernel_rfl
theorem PySem.W.holds_os{q:Program}{loose:List Str}{Xt:Shared->Bool}{XP:(Str->Option Value)->Heap->Prop}{α:Type}{Yf:Shared->α}{Ya:World->α}{YP:World->Heap->Prop}{N:Nat}
 (left:LeftO PySem.Challenge.rw_museumhouse_s01_answers.prog q0 l0 (recOk []) Yf Ya N)(hY:∀w s,Yf s=Ya w->YP w s.heap)(hYk:∀w h h',YP w h->(∀b o,h.get? b=some o->h'.get? b=some o)->YP w h')
 (_:∀s,Xt s=true->XP (s.heap.nsMap mainGlobals) s.heap)(_:∀mg h h',XP mg h->(∀b o,h.get? b=some o->h'.get? b=some o)->XP mg h')
 (_:0=0)(_:0=0)(_:0=0)(_:∀s,Xt s=true->RecFacts [] s.heap)(hsh:∀as,PySem.Challenge.rw_museumhouse_s01_answers.pre as=true->WShape.hasAll [] as (PySem.Challenge.rw_museumhouse_s01_answers.args.map Codec.shape)=true)
 (_:true=true)(_:true=true)(_:0=0/\0=0/\0=0/\0=0/\0=0/\true=true)(hw:∃args,PySem.Challenge.rw_museumhouse_s01_answers.pre args=true/\WData.layableAll args=true)
 (call:WalkOS q0 l0 (λ_ _=>True) YP PySem.Challenge.rw_museumhouse_s01_answers d0 [] λf vs=>PySem.call f vs):PySem.Challenge.rw_museumhouse_s01_answers.Holds:=
 _root_.PySem.W.holds_os (XP:=λ_ _=>True) left hY hYk (λ_ _=>trivial) (λ_ _ _ _ _=>trivial) Yy hp hk (λ_ e=>recFacts_of e) hsh k1 ok hb hw call
set_option maxRecDepth 100000 in
set_option maxHeartbeats 0 in
theorem fin:PySem.Challenge.rw_museumhouse_s01_answers.Holds:=by
 w_on;k_headS;(case hw=>exact⟨[.list [.int 0]],by decide+kernel,by decide+kernel⟩)
 k_fillS
 refine L2.BG (r:=PySem.Challenge.rw_museumhouse_s01_answers) (k:=10) (CX:=L2.eT) (ps:= ["calls"]) (sp:=Mu.Jm) k1 rfl rfl ⟨rfl,by decide,by decide⟩ (λw h Y=>PySem.W.kIn_of Y) ?F ?S (λ_ _ _ _ z=>z)
 case F=>
  intro w mg fa h Y KX G Xa
  have D:Mu.DfX KX mg:=by
   constructor<;>exact Mu.dnk KX G (by k_is) (by k_is) (by k_is) (by k_is)
  have c1:∀p∈Mu.consts,Mu.Ru mg p.1 p.2:=by
   unfold Mu.consts
   repeat (first|exact Mu.Rw|refine Mu.NF (Mu.cst KX G (by k_is) ⟨_,rfl⟩) ?_)
  have c2:∀p∈Mu.uJ,Mu.DK mg p.1 p.2:=by
   unfold Mu.uJ
   repeat (first|exact Mu.Rx|refine Mu.NH (Mu.Yv KX G (by k_is) ⟨_,rfl⟩) ?_)
  have g1:Mu.Gs mg:=Mu.U1 c1 (Mu.j5 KX G (by k_is) (Mu.j5 KX G (by k_is) (Mu.j5 KX G (by k_is) (Mu.j5 KX G (by k_is) (Mu.j5 KX G (by k_is) (Mu.j5 KX G (by k_is) (Mu.j5 KX G (by k_is) Mu.Rv)))))))
  have g2:=Mu.Yw KX G (by k_is) (by k_is) (by decide) (by repeat (first|exact .nil|refine .cons ⟨_,rfl⟩ ?_))
  have g3:=Mu.U2 c2 (PySem.W.mg_none_of KX G (by k_is)) (PySem.W.mg_none_of KX G (by k_is)) (Mu.U0 KX G (by k_is) (by k_is) (by rfl) (.cons rfl ⟨_,rfl⟩ (.cons rfl ⟨_,rfl⟩ (.cons rfl ⟨_,rfl⟩ (.cons rfl ⟨_,rfl⟩ .nil)))))
  exact Mu.all_mk KX G Xa D (Mu.Sg (by k_is) (by k_is) (by k_is) (by k_is) (by k_is) (by k_is) (by k_is) (by k_is) (by k_is) (by k_is) (by k_is) (by k_is)) (Mu.Sg (by k_is) (by k_is) (by k_is) (by k_is) (by k_is) (by k_is) (by k_is) (by k_is) (by k_is) (by k_is) (by k_is) (by k_is)) (Mu.Sg (by k_is) (by k_is) (by k_is) (by k_is) (by k_is) (by k_is) (by k_is) (by k_is) (by k_is) (by k_is) (by k_is) (by k_is)) (Mu.Sg (by k_is) (by k_is) (by k_is) (by k_is) (by k_is) (by k_is) (by k_is) (by k_is) (by k_is) (by k_is) (by k_is) (by k_is)) (Mu.Sg (by k_is) (by k_is) (by k_is) (by k_is) (by k_is) (by k_is) (by k_is) (by k_is) (by k_is) (by k_is) (by k_is) (by k_is)) (Mu.Sg (by k_is) (by k_is) (by k_is) (by k_is) (by k_is) (by k_is) (by k_is) (by k_is) (by k_is) (by k_is) (by k_is) (by k_is)) (Mu.a7 (by k_is) (Mu.a7 (by k_is) (Mu.a7 (by k_is) (Mu.a7 (by k_is) Mu.qL)))) (Mu.a7 (by k_is) (Mu.a7 (by k_is) (Mu.a7 (by k_is) (Mu.a7 (by k_is) (Mu.a7 (by k_is) (Mu.a7 (by k_is) (Mu.a7 (by k_is) (Mu.a7 (by k_is) (Mu.a7 (by k_is) Mu.qL))))))))) (Mu.a7 (by k_is) (Mu.a7 (by k_is) (Mu.a7 (by k_is) (Mu.a7 (by k_is) (Mu.a7 (by k_is) Mu.qL))))) (Mu.a7 (by k_is) (Mu.a7 (by k_is) (Mu.a7 (by k_is) (Mu.a7 (by k_is) (Mu.a7 (by k_is) Mu.qL))))) (Mu.a7 (by k_is) (Mu.a7 (by k_is) (Mu.a7 (by k_is) (Mu.a7 (by k_is) (Mu.a7 (by k_is) Mu.qL))))) (Mu.a7 (by k_is) (Mu.a7 (by k_is) Mu.qL)) ⟨by k_is,by k_is,by k_is⟩ g1 g2 g3
 case S=>
  intro K H xs a hO Xc QX hx
  cases hx with
  |cons h1 h2=>
   cases h2
   cases h1 with
   |lst hs ha=>
    have e:=L2.D4 a.1 _ ha
    subst e
    exact⟨_,a.1,rfl,hs,QX,λH' p hp=>.lst (L2.aF.of hp) (L2.D3 _)⟩
end Mv
theorem PySem.Challenge.cw_museumhouse_s01_answers_holds : PySem.Challenge.rw_museumhouse_s01_answers.Holds := by
  exact Mv.fin
