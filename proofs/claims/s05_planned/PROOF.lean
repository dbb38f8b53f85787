import PyProof.Rows.All
import Wide.All
import OpenK.AllK
import Wide.FinOn
import PyProof.EqAt
import PyProof.EqKinds
import PyProof.TupleCall
import KE.BitLaws
import Open.SpecLaws
import KE.OsHead
import KE.OsGo
import PyProof.Rows.SetFrom
import PyProof.ListRange
import PyProof.Rows.RuleM_int
import PySem.Challenge.RW_tabulreports_s05_planned
set_option Elab.async false
set_option linter.all false
set_option maxRecDepth 100000
set_option maxHeartbeats 4000000
noncomputable section
section
namespace L2
open PySem PySem.Spec PyProof.Rows
abbrev Key:=Sum Int Str
noncomputable def oR:Key->Value->Bool
 |.inl k,v=>Value.isInt k v
 |.inr x,v=>Value.isStrOf x v
noncomputable def J5(w:World):Key->Int
 |.inl k=>hashInt k
 |.inr x=>hashStr w x
theorem cI:∀{k:Key}{v:Value},oR k v=true->(∃i t,k=Sum.inl i/\v=Value.int i t)\/(∃x t,k=Sum.inr x/\v=Value.str x t)
 |.inl i,v,h=>by
  obtain⟨t,e⟩:=Value.isInt_shape (k:=i) (v:=v) h;exact .inl ⟨i,t,rfl,e⟩
 |.inr x,v,h=>by
  obtain⟨t,e⟩:=Value.isStrOf_shape (x:=x) (v:=v) h;exact .inr ⟨x,t,rfl,e⟩
theorem yq(i:Int)(t:Tok):oR (.inl i) (.int i t)=true:=by simp[oR,Value.isInt]
theorem xU(x:Str)(t:Tok):oR (.inr x) (.str x t)=true:=by simp[oR,Value.isStrOf]
theorem Fq(a b:Int):decide ((Sum.inl a:Key)=Sum.inl b)=(a==b):=by
 by_cases e:a=b
 ·subst e;simp
 ·have h:¬(Sum.inl a:Key)=Sum.inl b:=fun q=>e (Sum.inl.inj q)
  rw[decide_eq_false h];exact(beq_eq_false_iff_ne.mpr e).symm
theorem Fm(a b:Str):decide ((Sum.inr a:Key)=Sum.inr b)=decide (a=b):=by
 by_cases e:a=b
 ·subst e;simp
 ·have h:¬(Sum.inr a:Key)=Sum.inr b:=fun q=>e (Sum.inr.inj q)
  rw[decide_eq_false h,decide_eq_false e]
theorem FU(a:Int)(b:Str):decide ((Sum.inl a:Key)=Sum.inr b)=false:=decide_eq_false (fun q=>nomatch q)
theorem Gv(a:Str)(b:Int):decide ((Sum.inr a:Key)=Sum.inl b)=false:=decide_eq_false (fun q=>nomatch q)
def bw(prog:Program)(w:World):PySem.KeyKind prog w Key where
 is:=oR
 hash:=J5 w
 inj:=fun v a b ha hb=>by
  rcases cI ha with⟨i,t,rfl,rfl⟩ | ⟨x,t,rfl,rfl⟩
  ·rcases cI hb with⟨j,u,rfl,e⟩ | ⟨y,u,rfl,e⟩
   ·injection e with e1 _;rw[e1]
   ·exact nomatch e
  ·rcases cI hb with⟨j,u,rfl,e⟩ | ⟨y,u,rfl,e⟩
   ·exact nomatch e
   ·injection e with e1 _;rw[e1]
 byValue:=fun k v h=>by
  rcases cI h with⟨i,t,rfl,rfl⟩ | ⟨x,t,rfl,rfl⟩<;>rfl
 pyHash:=fun hv h=>by
  rcases cI hv with⟨i,t,rfl,rfl⟩ | ⟨x,t,rfl,rfl⟩
  ·exact wpAny_pyHash_int h
  ·exact wpAny_pyHash_str h
 eqBool:=fun hu hv h=>by
  rcases cI hu with⟨i,t,rfl,rfl⟩ | ⟨x,t,rfl,rfl⟩
  ·rcases cI hv with⟨j,u,rfl,rfl⟩ | ⟨y,u,rfl,rfl⟩
   ·rw[Fq] at h;exact wpAny_eqBool_int h
   ·rw[FU] at h;exact SeqAt.EqAt.int_str i t y u _ _ _ _ h
  ·rcases cI hv with⟨j,u,rfl,rfl⟩ | ⟨y,u,rfl,rfl⟩
   ·rw[Gv] at h;exact SeqAt.EqAt.str_int x t j u _ _ _ _ h
   ·rw[Fm] at h;exact wpAny_eqBool_str h
 «strs»:=fun k x t v h=>by
  rcases cI h with⟨i,u,rfl,e⟩ | ⟨y,u,rfl,e⟩
  ·exact nomatch e
  ·injection e with e1 _
   subst e1;cases v<;>rfl
theorem iR(prog:Program)(w:World)(i:Int)(t:Tok):(bw prog w).is (.inl i) (.int i t)=true:=yq i t
theorem iH(prog:Program)(w:World)(x:Str)(t:Tok):(bw prog w).is (.inr x) (.str x t)=true:=xU x t
end L2
namespace L2
open PySem PySem.Spec PyProof.Rows
inductive V where
 |non | bl (b:Bool) | int (i:Int) | str (x:Str) | byt (b:Array UInt8) | flt (b:UInt64) | ref (a:Addr) | ty (n:String)
 deriving DecidableEq
def b8:V->Value->Prop
 |.non,u=>u=Value.none
 |.bl b,u=>u=Value.bool b
 |.int i,u=>∃t,u=Value.int i t
 |.str x,u=>∃t,u=Value.str x t
 |.byt b,u=>∃t,u=Value.bytes b t
 |.flt b,u=>∃t,u=Value.float b t
 |.ref a,u=>u=Value.ref a
 |.ty n,u=>u=Value.type n
abbrev aY:List V->List Value->Prop:=Paired b8
theorem aY.length{xs:List V}{us:List Value}(r:aY xs us):xs.length=us.length:=Paired.length r
theorem aY.get:∀{xs:List V}{us:List Value}{i:Nat}{x:V},aY xs us->xs[i]?=some x->∃u,us[i]?=some u/\b8 x u
 |_,_,_,_,.nil,e=>by simp at e
 |_,_,0,_,.cons r _,e=>by simp at e;subst e;exact⟨_,rfl,r⟩
 |_,_,i+1,x,.cons _ t,e=>by
  obtain⟨u,h1,h2⟩:=aY.get (i:=i) (x:=x) t (by simpa using e)
  exact⟨u,by simpa using h1,h2⟩
theorem aY.set{x:V}{u:Value}(r:b8 x u):∀{xs:List V}{us:List Value}(i:Nat),aY xs us->aY (xs.set i x) (us.set i u)
 |_,_,_,.nil=>.nil
 |_,_,0,.cons _ t=>.cons r t
 |_,_,i+1,.cons q t=>.cons q (aY.set r i t)
theorem aY.append:∀{xs ys:List V}{us ws:List Value},aY xs us->aY ys ws->aY (xs++ys) (us++ws)
 |_,_,_,_,.nil,s=>s
 |_,_,_,_,.cons r t,s=>.cons r (aY.append t s)
theorem aY.take:∀{xs:List V}{us:List Value}(n:Nat),aY xs us->aY (xs.take n) (us.take n)
 |_,_,0,_=>.nil
 |_,_,_+1,.nil=>.nil
 |_,_,n+1,.cons r t=>.cons r (aY.take n t)
theorem aY.drop:∀{xs:List V}{us:List Value}(n:Nat),aY xs us->aY (xs.drop n) (us.drop n)
 |_,_,0,r=>r
 |_,_,_+1,.nil=>.nil
 |_,_,n+1,.cons _ t=>aY.drop n t
def g8:Option V->Option Value->Prop
 |some v,some u=>b8 v u
 |none,none=>True
 |_,_=>False
def KV{κ:Type}:List (κ×V)->List (κ×Value)->Prop:=Paired fun(p:κ×V) (q:κ×Value)=>p.1=q.1/\b8 p.2 q.2
noncomputable def kV:Key->V
 |.inl i=>.int i
 |.inr x=>.str x
inductive HO where
 |lst (xs:List V)
 |tup (xs:List V)
 |dK (kvs:List (Key×V)) | dT (kvs:List (List Key×V))
 |set (S:Int->Bool) (n:Nat)
 |ins (C dx:Addr) (fs:List (Str×V))
 |own (x:Addr)
 |xd (fs:List (Str×V))
 |met (f x:Addr)
 |rng (lo hi:Int)
 |frz (o:Obj) (u:HO)
 |tbl (ps:Array Value)
 |ext (φ:Heap->Prop)
abbrev Hp:=Addr->Option HO
noncomputable def upd(H:Hp)(a:Addr)(o:HO):Hp:=fun b=>if b=a then some o else H b
theorem a7{H:Hp}{a:Addr}{o:HO}:upd H a o a=some o:=by unfold upd;rw[if_pos rfl]
theorem af{H:Hp}{a b:Addr}{o:HO}(h:b≠a):upd H a o b=H b:=by unfold upd;rw[if_neg h]
theorem cX{H:Hp}{a b:Addr}{o u:HO}(h:H a=some o)(h':H b=some u)(d:o≠u):a≠b:=by
 intro e;subst e;rw[h] at h';exact d (Option.some.inj h')
theorem a9{H:Hp}{a b:Addr}{o:HO}(h:H a=some o)(h':H b=none):a≠b:=by
 intro e;subst e;rw[h] at h';cases h'
section
variable(P:Program)(w:World)
def d7(H:Hp)(h:Heap)(a:Addr):HO->Prop
 |.lst xs=>xs.length<=sizeLine/\∃(its:List Value) (n:Nat),aY xs its/\h.get? a=some { cls:=.type "list",data:=.seq its.toArray n }
 |.tup xs=>xs.length<=sizeLine/\∃its:List Value,aY xs its/\IsTup h a its.toArray
 |.dK kvs=>kvs.length<=sizeLine/\(a==sysModules)=false/\∃vs,KV kvs vs/\h.DictOf (bw P w) a vs
 |.dT kvs=>kvs.length<=sizeLine/\(a==sysModules)=false/\∃xs:List (List Key×Addr×Value),
   Paired (fun(p:List Key×V) (q:List Key×Addr×Value)=>p.1=q.1/\H q.2.1=some (.tup (p.1.map kV))/\b8 p.2 q.2.2) kvs xs/\
   ∃o es ep,h.get? a=some o/\o.ExactDict/\o.data=.dict es ep/\es.toList=xs.map (entryOfKey (tupleKind (bw P w)))/\(xs.map (·.1)).Nodup
 |.set S n=>h.SetOf (intKind P w) a S n
 |.ins C dx fs=>H dx=some (.own a)/\fs.length<=1000/\dx≠a/\h.get? a=some (PySem.W.instObj C dx)/\
   ∃mA,h.Ns1 dx mA/\(∀f,g8 (fs.lookup f) (mA f))/\PySem.Within mA (fs.map (·.1))
 |.own _=>∃o,h.get? a=some o
 |.xd fs=>∃mA,h.Ns1 a mA/\∀f,g8 (fs.lookup f) (mA f)
 |.rng lo hi=>∃t u v,h.get? a=some { cls:=.type "range",data:=.fields #[.int lo t,.int hi u,.int 1 v] }
 |.frz o u=>h.get? a=some o/\d7 H h a u
 |.tbl ps=>h.get? a=some { cls:=.none,data:=.fields ps }
 |.met f x=>h.get? a=some (PySem.W.methodObj (.ref f) (.ref x))
 |.ext φ=>φ h/\(∃o,h.get? a=some o)/\∀h1 h2:Heap,φ h1->(∀o,h1.get? a=some o->h2.get? a=some o)->φ h2
def HOk(H:Hp)(h:Heap):Prop:=∀a o,H a=some o->d7 P w H h a o
end
section
variable{P:Program}{w:World}{H H':Hp}{h h':Heap}{a:Addr}{o:HO}
theorem d7.lt(x:d7 P w H h a o):a<h.objs.size:=by
 cases o with
 |lst xs=>obtain⟨_,_,_,_,e⟩:=x;exact Heap.lt_size e
 |tup xs=>obtain⟨_,_,_,p⟩:=x;exact p.lt
 |dK kvs=>obtain⟨_,_,_,_,o,_,_,e,_⟩:=x;exact Heap.lt_size e
 |dT kvs=>obtain⟨_,_,_,_,o,_,_,e,_⟩:=x;exact Heap.lt_size e
 |set S n=>obtain⟨o,_,_,_,e,_⟩:=x;exact Heap.lt_size e
 |ins C dx fs=>obtain⟨_,_,_,e,_⟩:=x;exact Heap.lt_size e
 |own y=>obtain⟨_,e⟩:=x;exact Heap.lt_size e
 |xd fs=>obtain⟨_,⟨_,_,_,e,_⟩,_⟩:=x;exact Heap.lt_size e
 |rng lo hi=>obtain⟨_,_,_,e⟩:=x;exact Heap.lt_size e
 |frz ob u=>obtain⟨e,_⟩:=x;exact Heap.lt_size e
 |tbl ps=>exact Heap.lt_size (show h.get? a=some _ from x)
 |met f y=>exact Heap.lt_size (show h.get? a=some _ from x)
 |ext φ=>obtain⟨_,⟨_,e⟩,_⟩:=x;exact Heap.lt_size e
theorem Paired.mapP{α β:Type}{F G:α->β->Prop}:∀{l₁:List α}{l₂:List β},Paired F l₁ l₂->(∀a b,F a b->G a b)->Paired G l₁ l₂
 |_,_,.nil,_=>.nil
 |_,_,.cons r t,f=>.cons (f _ _ r) (Paired.mapP t f)
theorem d7.stay(x:d7 P w H h a o)(k:∀b u,(b=a\/H b=some (.own a))->h.get? b=some u->h'.get? b=some u)
  (ho:∀b,H b=some (.own a)->H' b=some (.own a)) (ht:∀b xs,H b=some (.tup xs)->H' b=some (.tup xs)):d7 P w H' h' a o:=by
 induction o with
 |lst xs=>obtain⟨z,its,n,r,e⟩:=x;exact⟨z,its,n,r,k _ _ (.inl rfl) e⟩
 |tup xs=>obtain⟨z,its,r,ob,e,c⟩:=x;exact⟨z,its,r,ob,k _ _ (.inl rfl) e,c⟩
 |dK kvs=>obtain⟨z,y,vs,r,ob,es,ep,e,c⟩:=x;exact⟨z,y,vs,r,ob,es,ep,k _ _ (.inl rfl) e,c⟩
 |dT kvs=>
  obtain⟨z,y,xs,r,ob,es,ep,e,c⟩:=x;exact⟨z,y,xs,Paired.mapP r fun p q z=>⟨z.1,ht _ _ z.2.1,z.2.2⟩,ob,es,ep,k _ _ (.inl rfl) e,c⟩
 |set S n=>obtain⟨ob,es,ep,t,e,c⟩:=x;exact⟨ob,es,ep,t,k _ _ (.inl rfl) e,c⟩
 |ins C dx fs=>
  obtain⟨d,z,ne,e,mA,⟨od,es,ep,e2,c⟩,r⟩:=x;exact⟨ho _ d,z,ne,k _ _ (.inl rfl) e,mA,⟨od,es,ep,k _ _ (.inr d) e2,c⟩,r⟩
 |own y=>obtain⟨ob,e⟩:=x;exact⟨ob,k _ _ (.inl rfl) e⟩
 |xd fs=>obtain⟨mA,⟨od,es,ep,e,c⟩,r⟩:=x;exact⟨mA,⟨od,es,ep,k _ _ (.inl rfl) e,c⟩,r⟩
 |rng lo hi=>obtain⟨t,u,v,e⟩:=x;exact⟨t,u,v,k _ _ (.inl rfl) e⟩
 |frz ob u ih=>obtain⟨e,q⟩:=x;exact⟨k _ _ (.inl rfl) e,ih q⟩
 |tbl ps=>
  have e:h.get? a=some { cls:=.none,data:=.fields ps }:=x;show h'.get? a=some { cls:=.none,data:=.fields ps };exact k a _ (.inl rfl) e
 |met f y=>
  have e:h.get? a=some (PySem.W.methodObj (.ref f) (.ref y)):=x;show h'.get? a=some (PySem.W.methodObj (.ref f) (.ref y));exact k a _ (.inl rfl) e
 |ext φ=>obtain⟨p,⟨o,e⟩,st⟩:=x;exact⟨st _ _ p fun o q=>k _ _ (.inl rfl) q,⟨o,k _ _ (.inl rfl) e⟩,st⟩
theorem HOk.lt(x:HOk P w H h)(e:H a=some o):a<h.objs.size:=(x a o e).lt
theorem HOk.fresh(x:HOk P w H h)(e:h.objs.size<=a):H a=none:=by
 cases q:H a with
 |none=>rfl
 |some u=>exact absurd (Nat.lt_of_lt_of_le (x.lt q) e) (Nat.lt_irrefl _)
theorem HOk.kept(x:HOk P w H h)(k:∀b u,h.get? b=some u->h'.get? b=some u):HOk P w H h':=fun a o e=>
 (x a o e).stay (fun b u _ q=>k b u q) (fun _ q=>q) fun _ _ q=>q
theorem HOk.laid(x:HOk P w H h)(k:∀b u,h.get? b=some u->h'.get? b=some u)(hp:h.objs.size<=a)(new:d7 P w (upd H a o) h' a o):HOk P w (upd H a o) h':=fun b u e=>by
 have hn:=x.fresh hp;by_cases hb:b=a
 ·subst hb;rw[a7] at e;cases e;exact new
 ·rw[af hb] at e;exact(x b u e).stay (fun c v _ q=>k c v q) (fun c q=>by rw[af (a9 q hn)];exact q) fun c xs q=>by rw[af (a9 q hn)];exact q
end
def Rd(H:Hp)(a:Addr)(u:HO):Prop:=H a=some u\/∃o,H a=some (.frz o u)
theorem Rd.ok{P:Program}{w:World}{H:Hp}{h:Heap}{a:Addr}{u:HO}(r:Rd H a u)(x:HOk P w H h):d7 P w H h a u:=by
 rcases r with r | ⟨o,r⟩
 ·exact x a u r
 ·obtain⟨_,q⟩:=x a _ r;exact q
def Mut:Option HO->Prop
 |some (.lst _)=>True
 |some (.dK _)=>True
 |some (.dT _)=>True
 |some (.set _ _)=>True
 |some (.ins _ _ _)=>True
 |some (.ext _)=>True
 |_=>False
section
variable{P:Program}{w:World}{H:Hp}{h h':Heap}{x e:Addr}{o':HO}
theorem HOk.write(ok:HOk P w H h)(mu:Mut (H x))(he:e=x\/H e=some (.own x))(k:∀b u,b≠e->h.get? b=some u->h'.get? b=some u)(heo:∃u,h'.get? e=some u)
  (new:d7 P w (upd H x o') h' x o'):HOk P w (upd H x o') h':=fun b u q=>by
 have nown:∀c y,H c=some (.own y)->c≠x:=fun c y r z=>by subst z;rw[r] at mu;exact mu
 have ntup:∀c xs,H c=some (.tup xs)->c≠x:=fun c xs r z=>by subst z;rw[r] at mu;exact mu
 by_cases hb:b=x
 ·subst hb;rw[a7] at q;cases q;exact new
 ·rw[af hb] at q;by_cases hbe:b=e
  ·have q':H b=some (.own x):=by
    rcases he with z | z
    ·exact absurd (hbe.trans z) hb
    ·rw[hbe];exact z
   rw[q] at q';cases q';obtain⟨v,hv⟩:=heo;exact⟨v,by rw[hbe];exact hv⟩
  ·refine(ok b u q).stay (fun c v hc r=>k c v ?_ r) (fun c r=>by rw[af (nown c b r)];exact r) fun c xs r=>by rw[af (ntup c xs r)];exact r
   rcases hc with rfl | hc
   ·exact hbe
   ·rintro rfl;rcases he with z | z
    ·exact nown c b hc z
    ·rw[hc] at z;cases z;exact hb rfl
end
structure Un(fs ex:List Addr)(H H':Hp)(h h':Heap):Prop where
 keep:∀b o,h.get? b=some o->H b=none->b ∉ fs->b ∉ ex->h'.get? b=some o
 slot:∀b o,h.get? b=some o->H b=none->b∈fs->b ∉ ex->∃sl,h'.get? b=some { o with slots:=sl }
 free:∀b o,h.get? b=some o->H b=none->b ∉ ex->H' b=none
 there:∀b o,h.get? b=some o->b ∉ ex->∃o',h'.get? b=some o'
 tups:∀b xs,H b=some (.tup xs)->H' b=some (.tup xs)
 frzs:∀b o u,H b=some (.frz o u)->H' b=some (.frz o u)
 tbls:∀b ps,H b=some (.tbl ps)->∃more,H' b=some (.tbl (ps++more))
section
variable{fs fs' ex ex':List Addr}{H H1 H2:Hp}{h h1 h2 h':Heap}{a x e:Addr}{o:HO}
theorem Un.any(u:Un fs ex H H1 h h1){b:Addr}{ob:Obj}(q:h.get? b=some ob)(n:H b=none)(hx:b ∉ ex):∃sl,h1.get? b=some { ob with slots:=sl }:=by
 by_cases hb:b∈fs
 ·exact u.slot b ob q n hb hx
 ·exact⟨ob.slots,u.keep b ob q n hb hx⟩
theorem Un.kept(k:∀b u,h.get? b=some u->h'.get? b=some u):Un fs ex H H h h':=
 ⟨fun b ob q _ _ _=>k b ob q,fun b ob q _ _ _=>⟨ob.slots,k b ob q⟩,fun _ _ _ n _=>n,fun b ob q _=>⟨ob,k b ob q⟩,fun _ _ q=>q,fun _ _ _ q=>q,fun _ ps q=>⟨#[],by rw[q];simp⟩⟩
theorem Un.refl:Un fs ex H H h h:=Un.kept fun _ _ q=>q
theorem Un.laid(k:∀b u,h.get? b=some u->h'.get? b=some u)(hp:h.objs.size<=a)(hn:H a=none):Un fs ex H (upd H a o) h h' where
 keep:=fun b u q _ _ _=>k b u q
 slot:=fun b u q _ _ _=>⟨u.slots,k b u q⟩
 free:=fun b u q n _=>by rw[af (Nat.ne_of_lt (Nat.lt_of_lt_of_le (Heap.lt_size q) hp))];exact n
 there:=fun b u q _=>⟨u,k b u q⟩
 tups:=fun b xs q=>by rw[af (a9 q hn)];exact q
 frzs:=fun b u xs q=>by rw[af (a9 q hn)];exact q
 tbls:=fun b ps q=>⟨#[],by rw[af (a9 q hn),q];simp⟩
theorem Un.write(mu:Mut (H x))(he:e=x\/H e=some (.own x))(k:∀b u,b≠e->h.get? b=some u->h'.get? b=some u)(heo:∃u,h'.get? e=some u):Un fs ex H (upd H x o) h h':=by
 have hx:∀b,H b=none->b≠x:=fun b n z=>by subst z;rw[n] at mu;exact mu
 have hb:∀b,H b=none->b≠e:=fun b n z=>by
  subst z;rcases he with r | r
  ·exact hx b n r
  ·rw[n] at r;cases r
 have hm:∀b u,H b=some u->¬Mut (some u)->b≠x:=fun b u q nm z=>by subst z;rw[q] at mu;exact nm mu
 refine⟨fun b u q n _ _=>k b u (hb b n) q,fun b u q n _ _=>⟨u.slots,k b u (hb b n) q⟩,fun b u q n _=>by rw[af (hx b n)];exact n,fun b u q _=>?_,
  fun b xs q=>by rw[af (hm b _ q fun z=>z)];exact q,fun b u xs q=>by rw[af (hm b _ q fun z=>z)];exact q,fun b ps q=>⟨#[],by rw[af (hm b _ q fun z=>z),q];simp⟩⟩
 by_cases hbe:b=e
 ·subst hbe;exact heo
 ·exact⟨u,k b u hbe q⟩
end
noncomputable def trk(h:Heap)(H:Hp):List Addr:=(List.range h.objs.size).filter fun a=>(H a).isSome
def qP(h:Heap)(H:Hp):Heap:=PySem.W.hideAll h (trk h H)
theorem xX(h:Heap)(H:Hp):(qP h H).objs.size=h.objs.size:=PySem.W.hideAll_size _ _
theorem AL{h:Heap}{H:Hp}{b:Addr}{o:Obj}(e:h.get? b=some o)(n:H b=none):(qP h H).get? b=some o:=
 PySem.W.hideAll_get _ e fun hm=>by
  have q:(H b).isSome=true:=(List.mem_filter.mp hm).2;rw[n] at q;simp at q
theorem Dg{h:Heap}{H:Hp}{b:Addr}{o:Obj}(e:(qP h H).get? b=some o):h.get? b=some o/\H b=none:=by
 have e':h.get? b=some o:=PySem.W.of_hideAll (trk h H) e;refine⟨e',?_⟩;cases q:H b with
 |none=>rfl
 |some x=>
  have hm:b∈trk h H:=List.mem_filter.mpr ⟨List.mem_range.mpr (Heap.lt_size e'),by simp[q]⟩
  have z:(qP h H).get? b=none:=PySem.W.hideAll_none (trk h H) hm;rw[z] at e;cases e
end L2
namespace L2
open PySem PySem.Spec PyProof.Rows
structure Mod(K:PySem.W.Frag)(mg:Str->Option Value)(base:Heap):Prop where
 kin:K.In base
 glob:base.Ns mainGlobals mg
 blt:∃mb,base.Ns builtinsNs mb/\∀x:Str,x ≠ "__name__" -> mb x=bootBuiltins x
 nolimit:base.NoLimit
structure Cx where
 prog:Program
 w:World
 K:PySem.W.Frag
 mg:Str->Option Value
 base:Heap
 A:Around
 N:List Str
 s_0:Shared
 H_0:Hp
 env:Env
 outer:List Env
 stack:List Env
 ex:List Addr
 fn:Str->Bool
 calm:Bool
 pn:List (Addr×Obj)
 xe:Value->Shared->Prop
noncomputable def frs(l:List Env):List Addr:=l.filterMap (·.frame)
abbrev Cx.fs(X:Cx):List Addr:=frs X.outer
def Vis(sc:Scope)(x:Str):Prop:=sc.names.lookup x=some .local\/sc.names.lookup x=some .cell\/sc.names.lookup x=some .free
def Loc(sc:Scope)(x:Str):Prop:=sc.names.lookup x=some .local\/sc.names.lookup x=some .cell
def Jl(env:Env)(h:Heap)(m:Str->Option Value)(x:Str)(u:Value):Prop:=
 (env.kindOf x=some .local/\m x=some u)\/((env.kindOf x=some .cell\/env.kindOf x=some .free)/\∃c,env.cells.lookup x=some c/\h.IsCell c (some u))
structure Cx.Ok(X:Cx):Prop where
 mod:Mod X.K X.mg X.base
 kind:X.env.scope.kind=.function
 glob:X.env.globals=mainGlobals
 blt:X.env.builtins=builtinsNs
 above:X.s_0.heap.objs.size<=X.env.locals
 inj:∀x y c,X.env.cells.lookup x=some c->X.env.cells.lookup y=some c->x=y
 has:∀x,(X.env.kindOf x=some .cell\/X.env.kindOf x=some .free)->∃c,X.env.cells.lookup x=some c
 cab:∀x c,X.fn x=true->X.env.cells.lookup x=some c->X.s_0.heap.objs.size<=c
 hd:X.calm=true->X.A.handled=none
 frames:X.A.frames=some X.stack
 stk:X.stack=X.outer\/(X.stack=X.env::X.outer/\X.env.frame=some X.env.locals)
 exf:∀b∈X.ex,b≠X.env.locals/\∀x c,X.env.cells.lookup x=some c->c≠b
 bs:∀b o,X.base.get? b=some o->X.s_0.heap.get? b=some o/\X.H_0 b=none
 bsz:X.base.objs.size<=X.s_0.heap.objs.size
 noex:∀b o,X.base.get? b=some o->b ∉ X.ex
 exfs:∀b∈X.ex,b ∉ X.fs
 funs:X.s_0.heap.FunFrames X.base X.outer
 frf:∀b∈X.fs,X.H_0 b=none
structure Inv(X:Cx)(pins:List (Addr×Obj))(σ:List (Option V))(H:Hp)(s:Shared):Prop where
 ok:X.Ok
 os:s.os=X.s_0.os
 bare:AllBare s.gens
 base:Un X.fs X.ex X.H_0 H X.s_0.heap s.heap
 loc:∃m,s.heap.Ns X.env.locals m/\∀(i:Nat) (x:Str) (v:V),X.N[i]?=some x->σ[i]?=some (some v)->Vis X.env.scope x->∃u,b8 v u/\Jl X.env s.heap m x u
 cell:∀x c,X.env.cells.lookup x=some c->∃v,s.heap.IsCell c v
 free:H X.env.locals=none
 freeC:∀x c,X.env.cells.lookup x=some c->H c=none
 pin:∀p∈X.pn++pins,s.heap.get? p.1=some p.2/\H p.1=none/\p.1≠X.env.locals/\p.1 ∉ X.fs/\∀v,p.2.data≠.cell v
 hok:HOk X.prog X.w H s.heap
 len:σ.length=X.N.length
section
variable{X:Cx}{pins:List (Addr×Obj)}{σ:List (Option V)}{H H':Hp}{s:Shared}{h':Heap}
theorem Cx.Ok.nofr(ok:X.Ok){b:Addr}{o:Obj}(e:X.base.get? b=some o):b ∉ X.fs:=fun hb=>by
 have:=(ok.funs.mem hb).1;rw[e] at this;cases this
theorem Inv.bs(I:Inv X pins σ H s):∀b o,X.base.get? b=some o->s.heap.get? b=some o/\H b=none:=fun b o e=>
 ⟨I.base.keep b o (I.ok.bs b o e).1 (I.ok.bs b o e).2 (I.ok.nofr e) (I.ok.noex b o e),I.base.free b o (I.ok.bs b o e).1 (I.ok.bs b o e).2 (I.ok.noex b o e)⟩
theorem Inv.bk(I:Inv X pins σ H s):∀b o,X.base.get? b=some o->s.heap.get? b=some o:=fun b o e=>(I.bs b o e).1
theorem Inv.mod(I:Inv X pins σ H s):Mod X.K X.mg X.base:=I.ok.mod
theorem Inv.kIn(I:Inv X pins σ H s):X.K.In s.heap:=I.ok.mod.kin.keeps I.bk
theorem Inv.fr(I:Inv X pins σ H s):∃m,Fr X.base X.env.locals s.heap m:=
 let ⟨m,hn,_⟩:=I.loc
 ⟨m,hn,I.bk,Nat.le_trans I.ok.bsz I.ok.above⟩
theorem Inv.lt(I:Inv X pins σ H s):X.env.locals<s.heap.objs.size:=let ⟨_,hn,_⟩:=I.loc;hn.lt
theorem Inv.sz(I:Inv X pins σ H s):X.s_0.heap.objs.size<=s.heap.objs.size:=Nat.le_trans I.ok.above (Nat.le_of_lt I.lt)
theorem Inv.nofs(I:Inv X pins σ H s){a:Addr}(h:s.heap.objs.size<=a):a ∉ X.fs:=fun hb=>by
 obtain⟨_,o,ho,_⟩:=I.ok.funs.mem hb;exact absurd (Nat.lt_of_lt_of_le (Heap.lt_size ho) (Nat.le_trans I.sz h)) (Nat.lt_irrefl _)
theorem Inv.cne(I:Inv X pins σ H s):∀x c,X.env.cells.lookup x=some c->c≠X.env.locals:=fun x c e z=>by
 obtain⟨v,o,ho,hd⟩:=I.cell x c e;obtain⟨m,⟨o',es,ep,ho',hd',_⟩,_⟩:=I.loc;rw[z,ho'] at ho;cases ho;rw[hd'] at hd;cases hd
theorem Inv.funs(I:Inv X pins σ H s):s.heap.FunFrames X.base X.outer:=by
 have all:∀(l:List Env),(∀b∈frs l,b∈X.fs)->X.s_0.heap.FunFrames X.base l->s.heap.FunFrames X.base l:=by
  intro l
  induction l with
  |nil=>intro _ _;trivial
  |cons env r ih=>
   intro hs hl;obtain⟨hk,⟨L,o,hf,hn,ho,hd⟩,hr⟩:=hl;have hL:L∈X.fs:=hs L (by unfold frs;rw[List.filterMap_cons,hf];exact List.mem_cons_self)
   obtain⟨sl,e⟩:=I.base.slot L o ho (I.ok.frf L hL) hL fun z=>I.ok.exfs L z hL
   exact⟨hk,⟨L,_,hf,hn,e,hd⟩,ih (fun b hb=>hs b (by unfold frs;rw[List.filterMap_cons,hf];exact List.mem_cons_of_mem _ hb)) hr⟩
 exact all X.outer (fun _ hb=>hb) I.ok.funs
theorem Inv.stack(I:Inv X pins σ H s):s.heap.FunFrames X.base X.stack:=by
 rcases I.ok.stk with e | ⟨e,hf⟩
 ·rw[e];exact I.funs
 ·rw[e];obtain⟨m,hn,_⟩:=I.loc;refine .cons (by rw[I.ok.kind];decide) hf hn ?_ I.funs
  exact Heap.get?_none_of_le (Nat.le_trans I.ok.bsz I.ok.above)
theorem Inv.stkSub(I:Inv X pins σ H s):∀b∈frs X.stack,b∈X.env.locals::X.fs:=fun b hb=>by
 rcases I.ok.stk with e | ⟨e,hf⟩
 ·rw[e] at hb;exact List.mem_cons_of_mem _ hb
 ·rw[e] at hb;unfold frs at hb;rw[List.filterMap_cons,hf] at hb;exact hb
theorem Inv.stkFree(I:Inv X pins σ H s):∀b∈frs X.stack,H b=none:=fun b hb=>by
 rcases List.mem_cons.mp (I.stkSub b hb) with e | hb
 ·rw[e];exact I.free
 ·obtain⟨_,o,ho,_⟩:=I.ok.funs.mem hb;exact I.base.free b o ho (I.ok.frf b hb) fun z=>I.ok.exfs b z hb
theorem Inv.step{g':Array GenState}{t':Nat}{d':Drawn}{ch:List Addr}(I:Inv X pins σ H s)
  (hch:∀b∈ch,(b∈X.ex\/X.s_0.heap.objs.size<=b)/\b≠X.env.locals/\(∀x c,X.env.cells.lookup x=some c->c≠b)/\∀p∈X.pn++pins,p.1≠b)
  (keep:∀b o,b≠X.env.locals->b ∉ X.fs->b ∉ ch->s.heap.get? b=some o->H b=none->h'.get? b=some o)
  (slot:∀b o,b≠X.env.locals->b∈X.fs->b ∉ ch->s.heap.get? b=some o->H b=none->∃sl,h'.get? b=some { o with slots:=sl }) (free:∀b o,b ∉ ch->s.heap.get? b=some o->H b=none->H' b=none)
  (there:∀b o,b ∉ ch->s.heap.get? b=some o->∃o',h'.get? b=some o')
  (tups:∀b xs,H b=some (.tup xs)->H' b=some (.tup xs)) (frzs:∀b o u,H b=some (.frz o u)->H' b=some (.frz o u)) (tbls:∀b ps,H b=some (.tbl ps)->∃more,H' b=some (.tbl (ps++more)))
  (ns:∀m,s.heap.Ns X.env.locals m->h'.Ns X.env.locals m) (hok:HOk X.prog X.w H' h') (hg:AllBare g') :
  Inv X pins σ H' { s with heap:=h',gens:=g',drawn:=d',toks:=t' }:=by
 have neL:∀b o,X.s_0.heap.get? b=some o->b≠X.env.locals:=fun b o e=>Nat.ne_of_lt (Nat.lt_of_lt_of_le (Heap.lt_size e) I.ok.above)
 have neC:∀b o,X.s_0.heap.get? b=some o->b ∉ X.ex->b ∉ ch:=fun b o e hx hb=>by
  rcases(hch b hb).1 with z | z
  ·exact hx z
  ·exact absurd (Nat.lt_of_lt_of_le (Heap.lt_size e) z) (Nat.lt_irrefl _)
 have cellK:∀x c,X.env.cells.lookup x=some c->∀v,s.heap.IsCell c v->h'.IsCell c v:=fun x c e v ⟨o,ho,hd⟩=>by
  have nch:c ∉ ch:=fun z=>(hch c z).2.2.1 x c e rfl
  by_cases hc:c∈X.fs
  ·obtain⟨sl,q⟩:=slot c o (I.cne x c e) hc nch ho (I.freeC x c e);exact⟨_,q,hd⟩
  ·exact⟨o,keep c o (I.cne x c e) hc nch ho (I.freeC x c e),hd⟩
 refine⟨I.ok,I.os,hg,⟨fun b o e n hb hx=>?_,fun b o e n hb hx=>?_,fun b o e n hx=>?_,fun b o e hx=>?_,fun b xs e=>tups b xs (I.base.tups b xs e),fun b o xs e=>frzs b o xs (I.base.frzs b o xs e),fun b ps e=>?_⟩,?_,fun x c e=>?_,?_,fun x c e=>?_,fun p hp=>?_,hok,I.len⟩
 ·exact keep b o (neL b o e) hb (neC b o e hx) (I.base.keep b o e n hb hx) (I.base.free b o e n hx)
 ·obtain⟨sl,e1⟩:=I.base.slot b o e n hb hx;obtain⟨sl',e2⟩:=slot b _ (neL b o e) hb (neC b o e hx) e1 (I.base.free b o e n hx);exact⟨sl',e2⟩
 ·obtain⟨o',e1⟩:=I.base.there b o e hx;exact free b o' (neC b o e hx) e1 (I.base.free b o e n hx)
 ·obtain⟨o',e1⟩:=I.base.there b o e hx;exact there b o' (neC b o e hx) e1
 ·obtain⟨m1,e1⟩:=I.base.tbls b ps e;obtain⟨m2,e2⟩:=tbls b _ e1;exact⟨m1++m2,by rw[e2,Array.append_assoc]⟩
 ·obtain⟨m,hn,hl⟩:=I.loc;refine⟨m,ns m hn,fun i x v e1 e2 e3=>?_⟩
  obtain⟨u,r,l⟩:=hl i x v e1 e2 e3;refine⟨u,r,?_⟩;rcases l with l | ⟨k,c,e,z⟩
  ·exact .inl l
  ·exact .inr ⟨k,c,e,cellK x c e _ z⟩
 ·obtain⟨v,z⟩:=I.cell x c e;exact⟨v,cellK x c e v z⟩
 ·obtain⟨m,⟨o,_,_,ho,_⟩,_⟩:=I.loc;exact free _ o (fun z=>(hch _ z).2.1 rfl) ho I.free
 ·obtain⟨v,o,ho,hd⟩:=I.cell x c e;exact free c o (fun z=>(hch c z).2.2.1 x c e rfl) ho (I.freeC x c e)
 ·obtain⟨e,n,ne,nf,d⟩:=I.pin p hp;have nch:p.1 ∉ ch:=fun z=>(hch p.1 z).2.2.2 p hp rfl
  exact⟨keep p.1 p.2 ne nf nch e n,free p.1 p.2 nch e n,ne,nf,d⟩
theorem Inv.un{t':Nat}(I:Inv X pins σ H s)(u:Un X.fs [] H H' s.heap h')(hok:HOk X.prog X.w H' h'):Inv X pins σ H' { s with heap:=h',toks:=t' }:=by
 obtain⟨m,⟨o,es,ep,ho,r⟩,_⟩:=id I.loc;obtain⟨sl,hL⟩:=u.any ho I.free (by simp)
 exact I.step (g':=s.gens) (d':=s.drawn) (ch:=[]) (fun _ z=>nomatch z) (fun b o _ hb _ e n=>u.keep b o e n hb (by simp)) (fun b o _ hb _ e n=>u.slot b o e n hb (by simp)) (fun b o _ e n=>u.free b o e n (by simp)) (fun b o _ e=>u.there b o e (by simp)) u.tups u.frzs u.tbls (fun m' hm=>by
  obtain⟨o',es',ep',ho',r'⟩:=hm;rw[ho] at ho';cases ho';exact⟨_,es',ep',hL,r'⟩) hok I.bare
theorem Inv.call{g':Array GenState}{t':Nat}{d':Drawn}{ch:List Addr}(I:Inv X pins σ H s)(u:Un (frs X.stack) ch H H' s.heap h')(hok:HOk X.prog X.w H' h')(hg:AllBare g')
  (hch:∀b∈ch,(b∈X.ex\/X.s_0.heap.objs.size<=b)/\b≠X.env.locals/\(∀x c,X.env.cells.lookup x=some c->c≠b)/\∀p∈X.pn++pins,p.1≠b) :
  Inv X pins σ H' { s with heap:=h',gens:=g',drawn:=d',toks:=t' }:=by
 obtain⟨m,⟨o,es,ep,ho,r⟩,_⟩:=id I.loc;obtain⟨sl,hL⟩:=u.any ho I.free fun z=>(hch _ z).2.1 rfl
 exact I.step (ch:=ch) hch (fun b o hL hb hc e n=>u.keep b o e n (fun z=>(List.mem_cons.mp (I.stkSub b z)).elim hL hb) hc) (fun b o _ _ hc e n=>u.any e n hc) (fun b o hc e n=>u.free b o e n hc) (fun b o hc e=>u.there b o e hc) u.tups u.frzs u.tbls (fun m' hm=>by
  obtain⟨o',es',ep',ho',r'⟩:=hm;rw[ho] at ho';cases ho';exact⟨_,es',ep',hL,r'⟩) hok hg
theorem Inv.turned{t':Nat}{it:Addr}(I:Inv X pins σ H s)(k:∀b o,b≠it->s.heap.get? b=some o->h'.get? b=some o)(hn:H it=none)(hL:it≠X.env.locals)
  (h1:it∈X.ex\/X.s_0.heap.objs.size<=it) (h2:∀x c,X.env.cells.lookup x=some c->c≠it) (h3:∀p∈X.pn++pins,p.1≠it):Inv X pins σ H { s with heap:=h',toks:=t' }:=by
 have nit:∀b u,H b=some u->b≠it:=fun b u e z=>by rw[z,hn] at e;cases e
 refine I.step (g':=s.gens) (d':=s.drawn) (ch:=[it]) (fun b hb=>?_) (fun b o _ _ hc e _=>k b o (fun z=>hc (by simp[z])) e) (fun b o _ _ hc e _=>⟨o.slots,k b o (fun z=>hc (by simp[z])) e⟩) (fun _ _ _ _ n=>n)
  (fun b o hc e=>⟨o,k b o (fun z=>hc (by simp[z])) e⟩) (fun _ _ e=>e) (fun _ _ _ e=>e) (fun b ps e=>⟨#[],by rw[e];simp⟩) (fun m hm=>?_) (fun b u e=>?_) I.bare
 ·have e:b=it:=by simpa using hb
  subst e;exact⟨h1,hL,h2,h3⟩
 ·obtain⟨o,es,ep,ho,r⟩:=hm;exact⟨o,es,ep,k _ o (Ne.symm hL) ho,r⟩
 ·refine(I.hok b u e).stay (fun c v hc q=>k c v ?_ q) (fun _ q=>q) fun _ _ q=>q
  rcases hc with z | z
  ·rw[z];exact nit b u e
  ·exact nit c _ z
theorem Inv.tok(I:Inv X pins σ H s)(t:Nat):Inv X pins σ H { s with toks:=t }:=I.un (h':=s.heap) (t':=t) Un.refl I.hok
theorem Inv.kept{t':Nat}(I:Inv X pins σ H s)(k:∀b u,s.heap.get? b=some u->h'.get? b=some u):Inv X pins σ H { s with heap:=h',toks:=t' }:=I.un (Un.kept k) (I.hok.kept k)
theorem Inv.laid{a:Addr}{o:HO}{t':Nat}(I:Inv X pins σ H s)(k:∀b u,s.heap.get? b=some u->h'.get? b=some u)(hp:s.heap.objs.size<=a)(new:d7 X.prog X.w (upd H a o) h' a o) :
  Inv X pins σ (upd H a o) { s with heap:=h',toks:=t' }:=I.un (Un.laid k hp (I.hok.fresh hp)) (I.hok.laid k hp new)
theorem Inv.write{x e:Addr}{o:HO}{t':Nat}(I:Inv X pins σ H s)(mu:Mut (H x))(he:e=x\/H e=some (.own x))(k:∀b u,b≠e->s.heap.get? b=some u->h'.get? b=some u)(heo:∃u,h'.get? e=some u)
  (new:d7 X.prog X.w (upd H x o) h' x o):Inv X pins σ (upd H x o) { s with heap:=h',toks:=t' }:=I.un (Un.write mu he k heo) (I.hok.write mu he k heo new)
theorem Inv.weak{σ':List (Option V)}(I:Inv X pins σ H s)(hl:σ'.length=σ.length)(w:∀(i:Nat) v,σ'[i]?=some (some v)->σ[i]?=some (some v)):Inv X pins σ' H s:=
 ⟨I.ok,I.os,I.bare,I.base,let ⟨m,hn,hl'⟩:=I.loc;⟨m,hn,fun i x v e1 e2 e3=>hl' i x v e1 (w i v e2) e3⟩,I.cell,I.free,I.freeC,I.pin,I.hok,hl.trans I.len⟩
theorem Inv.pins_of{pins':List (Addr×Obj)}(I:Inv X pins σ H s)(h:∀p∈pins',s.heap.get? p.1=some p.2/\H p.1=none/\p.1≠X.env.locals/\p.1 ∉ X.fs/\∀v,p.2.data≠.cell v):Inv X pins' σ H s:=
 ⟨I.ok,I.os,I.bare,I.base,I.loc,I.cell,I.free,I.freeC,fun p hp=>(List.mem_append.mp hp).elim (fun z=>I.pin p (List.mem_append_left _ z)) (h p),I.hok,I.len⟩
theorem nZ{N:List Str}(hN:N.Nodup){i j:Nat}{x:Str}(a:N[i]?=some x)(b:N[j]?=some x):i=j:=by
 obtain⟨h1,e1⟩:=List.getElem?_eq_some_iff.mp a;obtain⟨h2,e2⟩:=List.getElem?_eq_some_iff.mp b;exact(List.getElem_inj hN).mp (e1.trans e2.symm)
theorem pM{M:Model}{A:Around}{E:Value->Shared->Prop}{i:Nat}{x:Str}{v:V}{u:Value}{Q:Unit->Shared->Prop}(I:Inv X pins σ H s)(hN:X.N.Nodup)(hi:X.N[i]?=some x)(hx:Loc X.env.scope x)(r:b8 v u)
  (h:∀s',Inv X pins (σ.set i (some v)) H s'->(∃a,Heap.SameBut a s.heap s'.heap/\(a=X.env.locals\/X.env.cells.lookup x=some a))->Q () s') (hf:X.fn x=true\/X.env.scope.names.lookup x=some .local:=by first | exact .inl rfl | exact .inr rfl | assumption):wpAny M A (storeName X.env x u) Q E s:=by
 obtain⟨m,hn,hl⟩:=id I.loc;have hcls:(X.env.scope.kind==.class || (X.env.scope.kind==.module&&X.env.locals != X.env.globals))=false:=by rw[I.ok.kind];rfl
 have hiσ:i<σ.length:=by rw[I.len];exact(List.getElem?_eq_some_iff.mp hi).1
 have cne:=I.cne;have tracked:∀{a:Addr} {h':Heap},(∃o,s.heap.get? a=some o/\H a=none)->Heap.SameBut a s.heap h'->HOk X.prog X.w H h':=fun {a h'} ha hs b ob e=>by
  obtain⟨_,_,hfree⟩:=ha;refine(I.hok b ob e).stay (fun c w' hc q=>(hs.2 c ?_).trans q) (fun _ q=>q) fun _ _ q=>q
  rintro rfl;rcases hc with rfl | hc
  ·rw[hfree] at e;cases e
  ·rw[hfree] at hc;cases hc
 rcases hx with hk | hk
 ·refine wpAny_storeName_local hk hn (fun h' hn' hs=>?_) hcls
  obtain⟨oL,_,_,hoL,_⟩:=id hn;refine h _ ⟨I.ok,I.os,I.bare,⟨fun b o e n hb hx=>?_,fun b o e n hb hx=>?_,I.base.free,fun b o e hx=>?_,I.base.tups,I.base.frzs,I.base.tbls⟩,⟨_,hn',fun j y v' e1 e2 e3=>?_⟩,fun y c e=>?_,I.free,I.freeC,fun p hp=>?_,tracked ⟨oL,hoL,I.free⟩ hs,by simpa using I.len⟩ ⟨_,hs,.inl rfl⟩
  ·exact(hs.2 b (Nat.ne_of_lt (Nat.lt_of_lt_of_le (Heap.lt_size e) I.ok.above))).trans (I.base.keep b o e n hb hx)
  ·obtain⟨sl,e1⟩:=I.base.slot b o e n hb hx;exact⟨sl,(hs.2 b (Nat.ne_of_lt (Nat.lt_of_lt_of_le (Heap.lt_size e) I.ok.above))).trans e1⟩
  ·obtain⟨o',e1⟩:=I.base.there b o e hx;exact⟨o',(hs.2 b (Nat.ne_of_lt (Nat.lt_of_lt_of_le (Heap.lt_size e) I.ok.above))).trans e1⟩
  ·by_cases hj:j=i
   ·subst hj;rw[hi] at e1;cases e1;rw[List.getElem?_set_self hiσ] at e2;cases e2;exact⟨u,r,.inl ⟨hk,by simp⟩⟩
   ·rw[List.getElem?_set_ne (Ne.symm hj)] at e2;obtain⟨u',r',q⟩:=hl j y v' e1 e2 e3;refine⟨u',r',?_⟩;rcases q with⟨k,e⟩ | ⟨k,c,e,z⟩
    ·refine .inl ⟨k,?_⟩;have:y≠x:=fun e=>hj (nZ hN e1 (e ▸ hi))
     simp[this,e]
    ·exact .inr ⟨k,c,e,z.sameBut hs (cne y c e)⟩
  ·obtain⟨w',z⟩:=I.cell y c e;exact⟨w',z.sameBut hs (cne y c e)⟩
  ·obtain⟨e,n,ne,nf,d⟩:=I.pin p hp;exact⟨(hs.2 p.1 ne).trans e,n,ne,nf,d⟩
 ·have hfn:X.fn x=true:=by
   rcases hf with z | z
   ·exact z
   ·rw[z] at hk;cases hk
  obtain⟨c,hc⟩:=I.ok.has x (.inl hk);obtain⟨w',z⟩:=I.cell x c hc;refine wpAny_storeName_cell I.ok.kind hk hc z (fun h' hc' hs=>?_)
  obtain⟨oc,hoc,hocd⟩:=id z;refine h { s with heap:=h' } ⟨I.ok,I.os,I.bare,⟨fun b o e n hb hx=>?_,fun b o e n hb hx=>?_,I.base.free,fun b o e hx=>?_,I.base.tups,I.base.frzs,I.base.tbls⟩,⟨m,hn.sameBut hs (Ne.symm (cne x c hc)),fun j y v' e1 e2 e3=>?_⟩,fun y c' e=>?_,I.free,I.freeC,fun p hp=>?_,tracked ⟨oc,hoc,I.freeC x c hc⟩ hs,by simpa using I.len⟩ ⟨c,hs,.inr hc⟩
  ·exact(hs.2 b (Nat.ne_of_lt (Nat.lt_of_lt_of_le (Heap.lt_size e) (I.ok.cab x c hfn hc)))).trans (I.base.keep b o e n hb hx)
  ·obtain⟨sl,e1⟩:=I.base.slot b o e n hb hx;exact⟨sl,(hs.2 b (Nat.ne_of_lt (Nat.lt_of_lt_of_le (Heap.lt_size e) (I.ok.cab x c hfn hc)))).trans e1⟩
  ·obtain⟨o',e1⟩:=I.base.there b o e hx;exact⟨o',(hs.2 b (Nat.ne_of_lt (Nat.lt_of_lt_of_le (Heap.lt_size e) (I.ok.cab x c hfn hc)))).trans e1⟩
  ·by_cases hj:j=i
   ·subst hj;rw[hi] at e1;cases e1;rw[List.getElem?_set_self hiσ] at e2;cases e2;exact⟨u,r,.inr ⟨.inl hk,c,hc,hc'⟩⟩
   ·rw[List.getElem?_set_ne (Ne.symm hj)] at e2;obtain⟨u',r',q⟩:=hl j y v' e1 e2 e3;refine⟨u',r',?_⟩;rcases q with q | ⟨k,c',e,z'⟩
    ·exact .inl q
    ·refine .inr ⟨k,c',e,z'.sameBut hs ?_⟩;rintro rfl;exact hj (nZ hN e1 (I.ok.inj _ _ _ e hc ▸ hi))
  ·by_cases hcc:c'=c
   ·subst hcc;exact⟨_,hc'⟩
   ·obtain⟨w2,z2⟩:=I.cell y c' e;exact⟨w2,z2.sameBut hs hcc⟩
  ·obtain⟨e,n,ne,nf,d⟩:=I.pin p hp;refine⟨(hs.2 p.1 ?_).trans e,n,ne,nf,d⟩;intro q;rw[q,hoc] at e;have q':oc=p.2:=Option.some.inj e;exact d w' (by rw[<-q'];exact hocd)
theorem mF{M:Model}{A:Around}{E:Value->Shared->Prop}{i:Nat}{x:Str}{v:V}{u:Value}{Q:Unit->Shared->Prop}(I:Inv X pins σ H s)(hN:X.N.Nodup)(hi:X.N[i]?=some x)(hx:Loc X.env.scope x)(r:b8 v u)
  (h:∀s',Inv X pins (σ.set i (some v)) H s'->Q () s') (hf:X.fn x=true\/X.env.scope.names.lookup x=some .local:=by first | exact .inl rfl | exact .inr rfl | assumption):wpAny M A (storeName X.env x u) Q E s:=
 pM I hN hi hx r (fun s' I' _=>h s' I') hf
theorem Inv.call'{s':Shared}{ch:List Addr}(I:Inv X pins σ H s)(ho:s'.os=s.os)(u:Un (frs X.stack) ch H H' s.heap s'.heap)(hok:HOk X.prog X.w H' s'.heap)(hg:AllBare s'.gens)
  (hch:∀b∈ch,(b∈X.ex\/X.s_0.heap.objs.size<=b)/\b≠X.env.locals/\(∀x c,X.env.cells.lookup x=some c->c≠b)/\∀p∈X.pn++pins,p.1≠b):Inv X pins σ H' s':=by
 obtain⟨h',g',d',t',o'⟩:=s';have e:o'=s.os:=ho;subst e;exact I.call (g':=g') (t':=t') (d':=d') u hok hg hch
end
abbrev XK:=Value->Option Addr->Hp->Prop
abbrev St:=List (Option V)
abbrev VK:=V->Hp->Prop
abbrev TE:=St->Hp->VK->Prop
abbrev TT:=St->Hp->(Bool->Hp->Prop)->Prop
abbrev TA:=St->Hp->(List V->Hp->Prop)->Prop
structure jM where
 nx:St->Hp->Prop
 rt:VK
 bk:St->Hp->Prop:=fun _ _=>False
 ct:St->Hp->Prop:=fun _ _=>False
abbrev TS:=jM->St->Hp->Prop
def EP(X:Cx)(pins:List (Addr×Obj))(σ:St)(Q:VK)(u:Value)(s':Shared):Prop:=∃v H',Inv X pins σ H' s'/\b8 v u/\Q v H'
def TP(X:Cx)(pins:List (Addr×Obj))(σ:St)(Q:Bool->Hp->Prop)(b:Bool)(s':Shared):Prop:=∃H',Inv X pins σ H' s'/\Q b H'
def AP(X:Cx)(pins:List (Addr×Obj))(σ:St)(Q:List V->Hp->Prop)(us:List Value)(s':Shared):Prop:=∃vs H',Inv X pins σ H' s'/\aY vs us/\Q vs H'
def SP(X:Cx)(pins:List (Addr×Obj))(D:jM)(f:Flow)(s':Shared):Prop:=
 match f with
 |.next=>∃σ' H',Inv X pins σ' H' s'/\D.nx σ' H'
 |.brk=>∃σ' H',Inv X pins σ' H' s'/\D.bk σ' H'
 |.cont=>∃σ' H',Inv X pins σ' H' s'/\D.ct σ' H'
 |.ret u=>∃v σ' H',Inv X pins σ' H' s'/\b8 v u/\D.rt v H'
def PE(X:Cx)(e:Expr)(t:TE):Prop:=
 ∀(pins:List (Addr×Obj)) (s:Shared) (σ:St) (H:Hp) (Q:VK),Inv X pins σ H s->t σ H Q->wpAny (model X.prog X.w) X.A (eval e X.env) (EP X pins σ Q) X.xe s
def PT(X:Cx)(e:Expr)(t:TT):Prop:=
 ∀(pins:List (Addr×Obj)) (s:Shared) (σ:St) (H:Hp) (Q:Bool->Hp->Prop),Inv X pins σ H s->t σ H Q->wpAny (model X.prog X.w) X.A (isTrue e X.env (eval e X.env)) (TP X pins σ Q) X.xe s
def PW(X:Cx)(e:Expr)(t:TT):Prop:=
 ∀(whole:Sem Value) (pins:List (Addr×Obj)) (s:Shared) (σ:St) (H:Hp) (Q:Bool->Hp->Prop),Inv X pins σ H s->t σ H Q->wpAny (model X.prog X.w) X.A (isTrue e X.env whole) (TP X pins σ Q) X.xe s
theorem PW.pt{X:Cx}{e:Expr}{t:TT}(h:PW X e t):PT X e t:=h _
def PA(X:Cx)(es:List Expr)(t:TA):Prop:=
 ∀(pos:Pos) (pins:List (Addr×Obj)) (s:Shared) (σ:St) (H:Hp) (Q:List V->Hp->Prop),Inv X pins σ H s->t σ H Q->wpAny (model X.prog X.w) X.A (spliced (backTo pos (starEach es X.env))) (AP X pins σ Q) X.xe s
def PS(X:Cx)(st:Stmt)(t:TS):Prop:=
 ∀(pins:List (Addr×Obj)) (s:Shared) (σ:St) (H:Hp) (D:jM),Inv X pins σ H s->t D σ H->wpAny (model X.prog X.w) X.A (exec st X.env) (SP X pins D) X.xe s
def PSs(X:Cx)(st:List Stmt)(t:TS):Prop:=
 ∀(pins:List (Addr×Obj)) (s:Shared) (σ:St) (H:Hp) (D:jM),Inv X pins σ H s->t D σ H->wpAny (model X.prog X.w) X.A (execs st X.env) (SP X pins D) X.xe s
theorem thn{α:Type}{t:Sem α}{Q Q':α->Shared->Prop}{M:Model}{A:Around}{E:Value->Shared->Prop}{s:Shared}(h:wpAny M A t Q E s)(hQ:∀a s,Q a s->Q' a s):wpAny M A t Q' E s:=wpAny_mono h hQ fun _ _ x=>x
end L2
namespace L2
open PySem PySem.Spec PyProof.Rows
section
variable{X:Cx}
theorem bin{a b:Expr}{ta tb:TE}(ha:PE X a ta)(hb:PE X b tb){pins:List (Addr×Obj)}{s:Shared}{σ:St}{H:Hp}{R:V->V->Hp->Prop}(I:Inv X pins σ H s)(h:ta σ H fun x H1=>tb σ H1 fun y H2=>R x y H2)
  {α:Type} {Q:α->Shared->Prop} {f:Value->Value->Sem α}
  (hf:∀v u s2 x y H2,Inv X pins σ H2 s2->b8 x v->b8 y u->R x y H2->wpAny (model X.prog X.w) X.A (f v u) Q X.xe s2) :
  wpAny (model X.prog X.w) X.A (eval a X.env) (fun v s₁=>wpAny (model X.prog X.w) X.A (eval b X.env) (fun u s₂=>wpAny (model X.prog X.w) X.A (f v u) Q X.xe s₂) X.xe s₁) X.xe s:=by
 refine thn (ha pins s σ H _ I h) fun v s1 ⟨x,H1,I1,r1,q1⟩=>?_
 refine thn (hb pins s1 σ H1 _ I1 q1) fun u s2 ⟨y,H2,I2,r2,q2⟩=>?_
 exact hf v u s2 x y H2 I2 r1 r2 q2
def cb(i:Nat):TE:=fun σ H Q=>∃v,σ[i]?=some (some v)/\Q v H
def tC(v:V):TE:=fun _ H Q=>Q v H
theorem FD{i:Nat}{x:Str}{pos:Pos}(hN:X.N[i]?=some x)(hv:Vis X.env.scope x)(hd:(x==("__debug__" : Str))=false:=by decide)(hcd:(x==("__classdict__" : Str))=false:=by decide):PE X (.Name x pos) (cb i):=by
 intro pins s σ H Q I h;obtain⟨v,e,h⟩:=h;obtain⟨m,hn,hl⟩:=I.loc;obtain⟨u,r,l⟩:=hl i x v hN e hv;have fin:EP X pins σ Q u s:=⟨v,H,I,r,h⟩;rcases l with⟨hk,hm⟩ | ⟨hk,c,hc,hcell⟩
 ·exact wpAny_Name (wpAny_loadName_local I.ok.kind hk hn hm fin) hd
 ·rcases hk with hk | hk
  ·exact wpAny_Name (wpAny_loadName_cell I.ok.kind hk hc hcell fin) hd
  ·exact wpAny_Name (wpAny_loadName_free I.ok.kind hk hc hcell fin hcd) hd
theorem ah{i j pos}:PE X (.Constant (.int i) j pos) (tC (.int i)):=fun _ _ _ H _ I h=>wpAny_Constant_int ⟨.int i,H,I.tok _,⟨_,rfl⟩,h⟩
theorem iM{b j pos}:PE X (.Constant (.bool b) j pos) (tC (.bl b)):=fun _ _ _ H _ I h=>Constant_bool ⟨.bl b,H,I,rfl,h⟩
theorem cG{j pos}:PE X (.Constant .none j pos) (tC .non):=fun _ _ _ H _ I h=>Constant_none ⟨.non,H,I,rfl,h⟩
theorem aA{x j pos}:PE X (.Constant (.str x) j pos) (tC (.str x)):=fun _ _ _ H _ I h=>Calls.Constant_str ⟨.str x,H,I.tok _,⟨_,rfl⟩,h⟩
def Gl(X:Cx)(x:Str):Prop:=X.env.kindOf x=some .globalImplicit
theorem lU{E:Value->Shared->Prop}{pins:List (Addr×Obj)}{s:Shared}{σ:St}{H:Hp}{x:Str}{u:Value}{pos:Pos}{Q:Value->Shared->Prop}(I:Inv X pins σ H s)(hg:Gl X x)(hm:X.mg x=some u)(h:Q u s)
  (hd:(x==("__debug__" : Str))=false:=by decide):wpAny (model X.prog X.w) X.A (eval (.Name x pos) X.env) Q E s:=
 Calls.Name_function_global I.ok.kind hg (Calls.loadGlobal_global (by rw[I.ok.glob];exact I.mod.glob.keeps I.bk) hm h) hd
theorem iY{E:Value->Shared->Prop}{pins:List (Addr×Obj)}{s:Shared}{σ:St}{H:Hp}{x:Str}{u:Value}{pos:Pos}{Q:Value->Shared->Prop}(I:Inv X pins σ H s)(hg:Gl X x)(hm:X.mg x=none)(hv:bootBuiltins x=some u)(h:Q u s)
  (hn:x ≠ "__name__" := by decide) (hd:(x==("__debug__" : Str))=false:=by decide):wpAny (model X.prog X.w) X.A (eval (.Name x pos) X.env) Q E s:=by
 obtain⟨mb,h1,h2⟩:=I.mod.blt;exact Calls.Name_function_global I.ok.kind hg (Calls.loadGlobal_builtin (by rw[I.ok.glob];exact I.mod.glob.keeps I.bk) hm (by rw[I.ok.blt];exact h1.keeps I.bk) ((h2 x hn).trans hv) h) hd
theorem xm{x:Str}{v:V}{u:Value}{pos:Pos}(hg:Gl X x)(hm:X.mg x=some u)(r:b8 v u)(hd:(x==("__debug__" : Str))=false:=by decide):PE X (.Name x pos) (tC v):=
 fun _ _ _ H _ I h=>lU I hg hm ⟨v,H,I,r,h⟩ hd
variable{a b:Expr}{ta tb:TE}{pos:Pos}
def PC(X:Cx)(op:CmpOp)(a b:Expr)(t:TE):Prop:=
 ∀(pins:List (Addr×Obj)) (s:Shared) (σ:St) (H:Hp) (Q:VK),Inv X pins σ H s->t σ H Q->
  wpAny (model X.prog X.w) X.A (eval a X.env) (fun v s₁=>wpAny (model X.prog X.w) X.A (eval b X.env) (fun u s₂=>wpAny (model X.prog X.w) X.A (compareOp op v u) (EP X pins σ Q) X.xe s₂) X.xe s₁) X.xe s
def tB(t:TE):TT:=fun σ H Q=>t σ H fun x H1=>∃c,x=.bl c/\Q c H1
theorem nX{op:CmpOp}{t:TE}(h:PC X op a b t)(h1:behindInMarks op b=false:=by first | exact nobehind _ (by decide) (by decide) | rfl):PT X (.Compare a [op] [b] pos) (tB t):=by
 intro pins s σ H Q I hw;refine wpAny_isTrue_Compare1 (thn (h pins s σ H _ I hw) fun v s1 h1=>thn h1 fun u s2 h2=>thn h2 fun c s3 ⟨x,H1,I1,r1,q1⟩=>?_) h1
 obtain⟨d,rfl,q⟩:=q1;cases r1;exact wpAny_truthy_bool ⟨H1,I1,q⟩
theorem fY{e:Expr}{t:TE}(h:PE X e t)(he:∀whole,isTrue e X.env whole=(do let v<-whole;standAt e.pos;holding [v] (truthy v)):=by intro _;rfl):PT X e (tB t):=by
 intro pins s σ H Q I hw;refine isTrue_plain (thn (h pins s σ H _ I hw) fun v s1 ⟨x,H1,I1,r1,q1⟩=>?_) (he _)
 obtain⟨d,rfl,q⟩:=q1;cases r1;exact wpAny_truthy_bool ⟨H1,I1,q⟩
variable{tA tB':TT}{rest:List Expr}
def HV(t u:TT):TT:=fun σ H Q=>t σ H fun c H1=>if c=true then u σ H1 Q else Q false H1
def tOr(t u:TT):TT:=fun σ H Q=>t σ H fun c H1=>if c=true then Q true H1 else u σ H1 Q
def AU(t:TT):TT:=fun σ H Q=>t σ H fun c H1=>Q (!c) H1
theorem km(ha:PT X a tA):PW X (.BoolOp .And [a] pos) tA:=by
 intro wh pins s σ H Q I h;refine isTrue_and (thn (ha pins s σ H Q I h) fun c s1 e=>?_)
 cases c with
 |true=>exact isTrue_and_nil e
 |false=>exact e
theorem fW(ha:PT X a tA):PW X (.BoolOp .Or [a] pos) tA:=by
 intro wh pins s σ H Q I h;refine isTrue_or (thn (ha pins s σ H Q I h) fun c s1 e=>?_)
 cases c with
 |false=>exact isTrue_or_nil e
 |true=>exact e
theorem oC(ha:PT X a tA)(hb:PW X (.BoolOp .And (b::rest) pos) tB'):PW X (.BoolOp .And (a::b::rest) pos) (HV tA tB'):=by
 intro wh pins s σ H Q I h;refine isTrue_and (thn (ha pins s σ H _ I h) fun c s1 ⟨H1,I1,q1⟩=>?_)
 cases c with
 |true=>exact hb wh pins s1 σ H1 Q I1 q1
 |false=>exact⟨H1,I1,q1⟩
theorem iP(ha:PT X a tA)(hb:PW X (.BoolOp .Or (b::rest) pos) tB'):PW X (.BoolOp .Or (a::b::rest) pos) (tOr tA tB'):=by
 intro wh pins s σ H Q I h;refine isTrue_or (thn (ha pins s σ H _ I h) fun c s1 ⟨H1,I1,q1⟩=>?_)
 cases c with
 |true=>exact⟨H1,I1,q1⟩
 |false=>exact hb wh pins s1 σ H1 Q I1 q1
theorem eg(ha:PT X a tA):PT X (.UnaryOp .Not a pos) (AU tA):=by
 intro pins s σ H Q I h;exact isTrue_not (ha pins s σ H (fun c H1=>Q (!c) H1) I h)
def AE(ta tb:TE):TE:=fun σ H Q=>ta σ H fun x H1=>∃c,x=.bl c/\if c=true then tb σ H1 Q else Q (.bl false) H1
def Ir(ta tb:TE):TE:=fun σ H Q=>ta σ H fun x H1=>∃c,x=.bl c/\if c=true then Q (.bl true) H1 else tb σ H1 Q
theorem oy{op}{t:TE}(h:PE X a t):PE X (.BoolOp op [a] pos) t:=fun pins s σ H Q I hw=>BoolOp_one (h pins s σ H Q I hw)
theorem mw(ha:PE X a ta)(hb:PE X (.BoolOp .And (b::rest) pos) tb):PE X (.BoolOp .And (a::b::rest) pos) (AE ta tb):=by
 intro pins s σ H Q I h;refine BoolOp_and (thn (ha pins s σ H _ I h) fun v s1 ⟨x,H1,I1,r1,q1⟩=>?_)
 obtain⟨c,rfl,q1⟩:=q1;cases r1;refine wpAny_truthy_bool ?_;cases c with
 |true=>exact hb pins s1 σ H1 Q I1 q1
 |false=>exact⟨.bl false,H1,I1,rfl,q1⟩
theorem HG(ha:PE X a ta)(hb:PE X (.BoolOp .Or (b::rest) pos) tb):PE X (.BoolOp .Or (a::b::rest) pos) (Ir ta tb):=by
 intro pins s σ H Q I h;refine BoolOp_or (thn (ha pins s σ H _ I h) fun v s1 ⟨x,H1,I1,r1,q1⟩=>?_)
 obtain⟨c,rfl,q1⟩:=q1;cases r1;refine wpAny_truthy_bool ?_;cases c with
 |false=>exact hb pins s1 σ H1 Q I1 q1
 |true=>exact⟨.bl true,H1,I1,rfl,q1⟩
end
end L2
namespace L2
open PySem PySem.Spec PyProof.Rows
def SqL(K:PySem.W.Frag)(H:Hp)(a:Addr)(xs:List V):Prop:=
 Rd H a (.lst xs)\/
  ∃(o:Obj) (its:Array Value) (n:Nat),K.lookup a=some o/\o.cls=.type "list" /\ o.dict=none/\o.data=.seq its n/\its.size<=sizeLine/\aY xs its.toList
def SqT(K:PySem.W.Frag)(H:Hp)(a:Addr)(xs:List V):Prop:=
 Rd H a (.tup xs)\/
  ∃(o:Obj) (its:Array Value) (n:Nat),K.lookup a=some o/\o.cls=.type "tuple" /\ o.data=.seq its n/\its.size<=sizeLine/\aY xs its.toList
noncomputable def yS:Value->Option V
 |.none=>some .non
 |.bool b=>some (.bl b)
 |.int i _=>some (.int i)
 |.str x _=>some (.str x)
 |.bytes b _=>some (.byt b)
 |.float b _=>some (.flt b)
 |.ref a=>some (.ref a)
 |.type n=>some (.ty n)
 |_=>none
theorem b8.abs{x:V}{u:Value}(r:b8 x u):yS u=some x:=by
 cases x with
 |non=>cases r;rfl
 |bl _=>cases r;rfl
 |int _=>obtain⟨t,rfl⟩:=r;rfl
 |str _=>obtain⟨t,rfl⟩:=r;rfl
 |byt _=>obtain⟨t,rfl⟩:=r;rfl
 |flt _=>obtain⟨t,rfl⟩:=r;rfl
 |ref _=>cases r;rfl
 |ty _=>cases r;rfl
theorem b8.inj{x y:V}{u:Value}(r:b8 x u)(q:b8 y u):x=y:=Option.some.inj (r.abs.symm.trans q.abs)
theorem aY.inj:∀{xs ys:List V}{us:List Value},aY xs us->aY ys us->xs=ys
 |_,_,_,.nil,.nil=>rfl
 |_,_,_,.cons r t,.cons r' t'=>by rw[r.inj r',aY.inj t t']
section
variable{X:Cx}{pins:List (Addr×Obj)}{σ:St}{H:Hp}{s:Shared}{a:Addr}{xs ys:List V}
theorem SqL.of{K:PySem.W.Frag}(h:H a=some (.lst xs)):SqL K H a xs:=.inl (.inl h)
theorem SqT.of{K:PySem.W.Frag}(h:H a=some (.tup xs)):SqT K H a xs:=.inl (.inl h)
theorem Inv.list(I:Inv X pins σ H s)(h:SqL X.K H a xs):∃its:List Value,aY xs its/\PlainL s.heap a its.toArray/\xs.length<=sizeLine:=by
 rcases h with h | ⟨o,its,n,hk,hc,hd,hs,hz,r⟩
 ·obtain⟨z,its,n,r,e⟩:=h.ok I.hok;exact⟨its,r,⟨_,n,e,rfl,rfl,rfl⟩,z⟩
 ·refine⟨its.toList,r,⟨o,n,I.kIn a o hk,hc,hd,by simpa using hs⟩,?_⟩
  have e:=r.length;simp only[Array.length_toList] at e;omega
theorem Inv.tuple(I:Inv X pins σ H s)(h:SqT X.K H a xs):∃its:List Value,aY xs its/\IsTup s.heap a its.toArray/\xs.length<=sizeLine:=by
 rcases h with h | ⟨o,its,n,hk,hc,hs,hz,r⟩
 ·obtain⟨z,its,r,p⟩:=h.ok I.hok;exact⟨its,r,p,z⟩
 ·refine⟨its.toList,r,⟨o,I.kIn a o hk,hc,n,by simpa using hs⟩,?_⟩
  have e:=r.length;simp only[Array.length_toList] at e;omega
theorem Inv.list_inj(I:Inv X pins σ H s)(h:SqL X.K H a xs)(h':SqL X.K H a ys):xs=ys:=by
 obtain⟨its,r,⟨o,n,e,_,_,d⟩,_⟩:=I.list h;obtain⟨its',r',⟨o',n',e',_,_,d'⟩,_⟩:=I.list h';rw[e] at e';cases e';rw[d] at d';injection d' with d1 _
 have:its=its':=by simpa using congrArg Array.toList d1
 subst this;exact r.inj r'
theorem Inv.tuple_inj(I:Inv X pins σ H s)(h:SqT X.K H a xs)(h':SqT X.K H a ys):xs=ys:=by
 obtain⟨its,r,⟨o,e,_,n,d⟩,_⟩:=I.tuple h;obtain⟨its',r',⟨o',e',_,n',d'⟩,_⟩:=I.tuple h';rw[e] at e';cases e';rw[d] at d';injection d' with d1 _
 have:its=its':=by simpa using congrArg Array.toList d1
 subst this;exact r.inj r'
end
noncomputable abbrev Cx.wish(X:Cx)(E:Value->Shared->Prop):Cx:={ X with xe:=E }
noncomputable abbrev Cx.nox(X:Cx):Cx:=X.wish fun _ _=>False
theorem Cx.Ok.wish{X:Cx}(ok:X.Ok)(E:Value->Shared->Prop):(X.wish E).Ok:=
 ⟨ok.mod,ok.kind,ok.glob,ok.blt,ok.above,ok.inj,ok.has,ok.cab,ok.hd,ok.frames,ok.stk,ok.exf,ok.bs,ok.bsz,ok.noex,ok.exfs,ok.funs,ok.frf⟩
theorem Cx.Ok.unwish{X:Cx}{E:Value->Shared->Prop}(ok:(X.wish E).Ok):X.Ok:=
 ⟨ok.mod,ok.kind,ok.glob,ok.blt,ok.above,ok.inj,ok.has,ok.cab,ok.hd,ok.frames,ok.stk,ok.exf,ok.bs,ok.bsz,ok.noex,ok.exfs,ok.funs,ok.frf⟩
section
variable{X:Cx}{pins:List (Addr×Obj)}{σ:St}{H:Hp}{s:Shared}{E:Value->Shared->Prop}
theorem Inv.wish(I:Inv X pins σ H s)(E:Value->Shared->Prop):Inv (X.wish E) pins σ H s:=⟨I.ok.wish E,I.os,I.bare,I.base,I.loc,I.cell,I.free,I.freeC,I.pin,I.hok,I.len⟩
theorem Inv.unwish(I:Inv (X.wish E) pins σ H s):Inv X pins σ H s:=⟨I.ok.unwish,I.os,I.bare,I.base,I.loc,I.cell,I.free,I.freeC,I.pin,I.hok,I.len⟩
theorem SP.unwish{D:jM}{f:Flow}{s':Shared}(h:SP (X.wish E) pins D f s'):SP X pins D f s':=by
 cases f with
 |next=>obtain⟨σ',H',I,q⟩:=h;exact⟨σ',H',I.unwish,q⟩
 |brk=>obtain⟨σ',H',I,q⟩:=h;exact⟨σ',H',I.unwish,q⟩
 |cont=>obtain⟨σ',H',I,q⟩:=h;exact⟨σ',H',I.unwish,q⟩
 |ret u=>obtain⟨v,σ',H',I,r,q⟩:=h;exact⟨v,σ',H',I.unwish,r,q⟩
theorem PSs.nox{st:List Stmt}{t:TS}(h:PSs X.nox st t):PSs X st t:=fun pins s σ H D I hw=>
 wpAny_mono (h pins s σ H D (I.wish _) hw) (fun _ _ q=>q.unwish) fun _ _ z=>False.elim z
end
section
variable{X:Cx}{st:Stmt}{rest:List Stmt}{t u:TS}{e:Expr}{te:TE}{pos:Pos}
def IK:TS:=fun D σ H=>D.nx σ H
def Iz(t u:TS):TS:=fun D σ H=>t { D with nx:=u D } σ H
theorem aD:PSs X [] IK:=fun _ _ σ H _ I h=>wpAny_execs_nil ⟨σ,H,I,h⟩
theorem a4(h1:PS X st t)(h2:PSs X rest u):PSs X (st::rest) (Iz t u):=by
 intro pins s σ H D I h;refine wpAny_execs_cons (thn (h1 pins s σ H { D with nx:=u D } I h) fun f s1 q=>?_)
 cases f with
 |next=>
  obtain⟨σ',H',I',q⟩:=q;exact h2 pins s1 σ' H' D I' q
 |ret v=>exact q
 |brk=>exact q
 |cont=>exact q
theorem a8(h1:PS X st t):PSs X [st] t:=by
 intro pins s σ H D I h;refine wpAny_execs_cons (thn (h1 pins s σ H D I h) fun f s1 q=>?_)
 cases f with
 |next=>exact wpAny_execs_nil q
 |ret v=>exact q
 |brk=>exact q
 |cont=>exact q
theorem Inv.quiet{pins:List (Addr×Obj)}{σ:St}{H:Hp}{s:Shared}(I:Inv X pins σ H s):interactive X.env=false:=by simp[interactive,I.ok.kind]
def HJ(te:TE):TS:=fun D σ H=>te σ H fun _ H1=>D.nx σ H1
theorem aX(he:PE X e te)(hs:swapsWith e none pos.line X.env=pure false:=by rfl):PS X (.Expr e pos) (HJ te):=by
 intro pins s σ H D I h;exact wpAny_Expr_any (thn (he pins s σ H _ I h) fun v s1 ⟨x,H1,I1,r1,q1⟩=>⟨σ,H1,I1,q1⟩) I.quiet hs
def En(te:TE):TS:=fun D σ H=>te σ H D.rt
theorem ai(he:PE X e te):PS X (.Return (some e) pos) (En te):=by
 intro pins s σ H D I h;exact wpAny_Return_some (thn (he pins s σ H _ I h) fun v s1 ⟨x,H1,I1,r1,q1⟩=>⟨x,σ,H1,I1,r1,q1⟩)
def FH(c:TT)(t u:TS):TS:=fun D σ H=>c σ H fun b H1=>if b=true then t D σ H1 else u D σ H1
theorem aP{c:Expr}{a b:List Stmt}{tc:TT}(hc:PT X c tc)(ha:PSs X a t)(hb:PSs X b u):PS X (.If c a b pos) (FH tc t u):=by
 intro pins s σ H D I h;refine wpAny_If (thn (hc pins s σ H _ I h) fun d s1 ⟨H1,I1,q1⟩=>?_)
 cases d with
 |true=>exact ha pins s1 σ H1 D I1 q1
 |false=>exact hb pins s1 σ H1 D I1 q1
end
abbrev TG:=V->St->Hp->(St->Hp->Prop)->Prop
abbrev TGs:=List V->St->Hp->(St->Hp->Prop)->Prop
def PG(X:Cx)(target:Expr)(t:TG):Prop:=
 ∀(pins:List (Addr×Obj)) (s:Shared) (σ:St) (H:Hp) (v:V) (u:Value) (Q:St->Hp->Prop),Inv X pins σ H s->b8 v u->t v σ H Q->
  wpAny (model X.prog X.w) X.A (assign target X.env u) (fun _ s'=>∃σ' H',Inv X pins σ' H' s'/\Q σ' H') X.xe s
def PGs(X:Cx)(ts:List Expr)(t:TGs):Prop:=
 ∀(pins:List (Addr×Obj)) (s:Shared) (σ:St) (H:Hp) (vs:List V) (us:List Value) (Q:St->Hp->Prop),Inv X pins σ H s->aY vs us->t vs σ H Q->
  wpAny (model X.prog X.w) X.A (assignInOrder ((assignEach ts X.env).map (·.2)) us) (fun _ s'=>∃σ' H',Inv X pins σ' H' s'/\Q σ' H') X.xe s
abbrev BU:=V->V->V->Hp->(Hp->Prop)->Prop
def Gd(X:Cx)(t:BU):Prop:=
 ∀(pins:List (Addr×Obj)) (s:Shared) (σ:St) (H:Hp) (o i v:V) (ov iv u:Value) (Q:Hp->Prop),Inv X pins σ H s->b8 o ov->b8 i iv->b8 v u->t o i v H Q->
  wpAny (model X.prog X.w) X.A (setItem ov iv u) (fun _ s'=>∃H',Inv X pins σ H' s'/\Q H') X.xe s
abbrev TIp:=V->V->Hp->VK->Prop
def PIp(X:Cx)(op:Operator)(t:TIp):Prop:=
 ∀(pins:List (Addr×Obj)) (s:Shared) (σ:St) (H:Hp) (x y:V) (v u:Value) (Q:VK),Inv X pins σ H s->b8 x v->b8 y u->t x y H Q->
  wpAny (model X.prog X.w) X.A (inplaceOp op v u) (EP X pins σ Q) X.xe s
section
variable{X:Cx}{pos:Pos}
def fU(i:Nat):TG:=fun v σ H Q=>Q (σ.set i (some v)) H
theorem aH{i:Nat}{x:Str}(hN:X.N.Nodup)(hi:X.N[i]?=some x)(hx:Loc X.env.scope x)(hf:X.fn x=true\/X.env.scope.names.lookup x=some .local:=by first | exact .inl rfl | exact .inr rfl | assumption):PG X (.Name x pos) (fU i):=by
 intro pins s σ H v u Q I r h;exact wpAny_assign_Name (mF I hN hi hx r (fun s' I'=>⟨_,H,I',h⟩) hf)
def Fw:TGs:=fun vs σ H Q=>vs=[]/\Q σ H
def rT(t:TG)(u:TGs):TGs:=fun vs σ H Q=>∃v r,vs=v::r/\t v σ H fun σ' H'=>u r σ' H' Q
theorem eR:PGs X [] Fw:=by
 intro pins s σ H vs us Q I r h;obtain⟨e,h⟩:=h;subst e;cases r;exact assignInOrder_nil ⟨σ,H,I,h⟩
theorem ba{e:Expr}{es:List Expr}{t:TG}{u:TGs}(h1:PG X e t)(h2:PGs X es u)
  (hs:(assignEach (e::es) X.env).map (·.2)=assign e X.env::(assignEach es X.env).map (·.2):=by rfl):PGs X (e::es) (rT t u):=by
 intro pins s σ H vs us Q I r h;obtain⟨v,vr,e1,h⟩:=h;subst e1;cases r with
 |cons r rr=>
  rw[hs];refine assignInOrder_cons (thn (h1 pins s σ H _ _ _ I r h) fun _ s1 ⟨σ1,H1,I1,q1⟩=>?_)
  exact h2 pins s1 σ1 H1 _ _ Q I1 rr q1
def Ft(K:PySem.W.Frag)(n:Nat)(t:TGs):TG:=fun v σ H Q=>∃a xs,v=.ref a/\SqT K H a xs/\xs.length=n/\t xs σ H Q
theorem fM{es:List Expr}{k:Nat}{t:TGs}{n:Nat}(hc:X.calm=true)(h:PGs X es t)
  (hn:(assignEach es X.env).length=n:=by rfl) (hst:(assignEach es X.env).findIdx? (·.1)=none:=by rfl):PG X (.Tuple es k pos) (Ft X.K n t):=by
 intro pins s σ H v u Q I r hw;obtain⟨a,xs,e1,hq,hl,hw⟩:=hw;subst e1;cases r;obtain⟨its,rv,ht,hz⟩:=I.tuple hq;refine assign_Tuple_tuple (I.ok.hd hc) ht (by simp[hn,<-hl,rv.length]) hst fun h' hx=>?_
 have I1:Inv X pins σ H { s with heap:=h' }:=I.kept (t':=s.toks) fun b o e=>hx b o (Nat.ne_of_lt (Heap.lt_size e)) e
 exact h pins _ σ H xs _ Q I1 (by simpa using rv) hw
def J1(to ti:TE)(t:BU):TG:=fun v σ H Q=>to σ H fun o H1=>ti σ H1 fun i H2=>t o i v H2 fun H3=>Q σ H3
theorem uZ{o i:Expr}{to ti:TE}{t:BU}(ho:PE X o to)(hi:PE X i ti)(hs:Gd X t)
  (ha:∀v,assign (.Subscript o i pos) X.env v=(do
   let ov<-holding [v] (eval o X.env)
   let iv<-holding [v,ov] (eval i X.env)
   standAt pos
   holding [v,ov,iv] (setItem ov iv v)
   release [v,ov,iv] []):=by intro _;rfl):PG X (.Subscript o i pos) (J1 to ti t):=by
 intro pins s σ H v u Q I r h;rw[ha];refine wpAny_bind (wpAny_holding (thn (ho pins s σ H _ I h) fun ov s1 ⟨x,H1,I1,r1,q1⟩=>?_))
 refine wpAny_bind (wpAny_holding (thn (hi pins s1 σ H1 _ I1 q1) fun iv s2 ⟨y,H2,I2,r2,q2⟩=>?_))
 refine wpAny_bind (wpAny_standAt (wpAny_bind (wpAny_holding (thn (hs pins s2 σ H2 x y v ov iv u _ I2 r1 r2 r q2) fun _ s3 ⟨H3,I3,q3⟩=>?_))))
 exact wpAny_release ⟨σ,H3,I3,q3⟩
def Bo(te:TE)(g:TG):TS:=fun D σ H=>te σ H fun x H1=>g x σ H1 D.nx
theorem uQ{tg e:Expr}{te:TE}{g:TG}(he:PE X e te)(hg:PG X tg g)(hs:swapsWithSole [tg] e pos.line X.env=pure false:=by rfl)(hw:swappedStores [tg] e X.env=pure none:=by rfl)
  (h1:(assignEach [tg] X.env).map (·.2)=[assign tg X.env]:=by rfl):PS X (.Assign [tg] e pos) (Bo te g):=by
 intro pins s σ H D I h;refine wpAny_Assign_stores (thn (he pins s σ H _ I h) fun v s1 ⟨x,H1,I1,r1,q1⟩=>?_) hs hw
 rw[h1];exact thn (hg pins s1 σ H1 x v _ I1 r1 q1) fun _ s2 q=>q
theorem ax{i:Nat}{x:Str}{e:Expr}{te:TE}{pos':Pos}(hN:X.N.Nodup)(hi:X.N[i]?=some x)(hx:Loc X.env.scope x)(he:PE X e te)(hs:swapsWith e (some (.Name x pos')) pos.line X.env=pure false:=by rfl)(hf:X.fn x=true\/X.env.scope.names.lookup x=some .local:=by first | exact .inl rfl | exact .inr rfl | assumption) :
  PS X (.Assign [.Name x pos'] e pos) (Bo te (fU i)):=by
 intro pins s σ H D I h;refine wpAny_Assign_Name (thn (he pins s σ H _ I h) fun v s1 ⟨y,H1,I1,r1,q1⟩=>?_) hs
 exact mF I1 hN hi hx r1 (fun s2 I2=>⟨_,H1,I2,q1⟩) hf
def IX(i:Nat)(te:TE)(ti:TIp):TS:=fun D σ H=>∃x,σ[i]?=some (some x)/\te σ H fun y H1=>ti x y H1 fun z H2=>D.nx (σ.set i (some z)) H2
theorem vt{i:Nat}{x:Str}{e:Expr}{te:TE}{op:Operator}{ti:TIp}{pos':Pos}(hN:X.N.Nodup)(hi:X.N[i]?=some x)(hx:Loc X.env.scope x)(he:PE X e te)(ho:PIp X op ti)(hf:X.fn x=true\/X.env.scope.names.lookup x=some .local:=by first | exact .inl rfl | exact .inr rfl | assumption) :
  PS X (.AugAssign (.Name x pos') op e pos) (IX i te ti):=by
 intro pins s σ H D I h;obtain⟨v,e1,h⟩:=h;obtain⟨m,hn,hl⟩:=I.loc;have vis:Vis X.env.scope x:=by rcases hx with k | k;exact .inl k;exact .inr (.inl k)
 obtain⟨u,r,l⟩:=hl i x v hi e1 vis;refine wpAny_AugAssign_Name ?_;have go:wpAny (model X.prog X.w) X.A (eval e X.env) (fun w s₂=>wpAny (model X.prog X.w) X.A (inplaceOp op u w) (fun r s₃=>wpAny (model X.prog X.w) X.A (storeName X.env x r) (fun _=>SP X pins D .next) X.xe s₃) X.xe s₂) X.xe s:=by
  refine thn (he pins s σ H _ I h) fun w s1 ⟨y,H1,I1,r1,q1⟩=>?_
  refine thn (ho pins s1 σ H1 v y u w _ I1 r r1 q1) fun z s2 ⟨zv,H2,I2,r2,q2⟩=>?_
  exact mF I2 hN hi hx r2 (fun s3 I3=>⟨_,H2,I3,q2⟩) hf
 rcases l with⟨hk,hm⟩ | ⟨hk,c,hc,hcell⟩
 ·exact wpAny_loadName_local I.ok.kind hk hn hm go
 ·rcases hk with hk | hk
  ·exact wpAny_loadName_cell I.ok.kind hk hc hcell go
  ·rcases hx with k | k
   ·have:X.env.scope.names.lookup x=some .free:=hk;rw[k] at this;cases this
   ·have:X.env.scope.names.lookup x=some .free:=hk;rw[k] at this;cases this
def HD(to ti te:TE)(tget:V->V->Hp->VK->Prop)(tip:TIp)(tset:BU):TS:=fun D σ H=>to σ H fun o H1=>ti σ H1 fun i H2=>tget o i H2 fun x H3=>te σ H3 fun y H4=>tip x y H4 fun z H5=>tset o i z H5 fun H6=>D.nx σ H6
def Ia(X:Cx)(t:V->V->Hp->VK->Prop):Prop:=
 ∀(pins:List (Addr×Obj)) (s:Shared) (σ:St) (H:Hp) (o i:V) (ov iv:Value) (Q:VK),Inv X pins σ H s->b8 o ov->b8 i iv->t o i H Q->
  wpAny (model X.prog X.w) X.A (getItem ov iv) (EP X pins σ Q) X.xe s
theorem rK{o i e:Expr}{to ti te:TE}{tget:V->V->Hp->VK->Prop}{tip:TIp}{tset:BU}{op:Operator}{tpos:Pos}(ho:PE X o to)(hi:PE X i ti)(hg:Ia X tget)(he:PE X e te)(hp:PIp X op tip)(hs:Gd X tset)
  (ha:∀ov iv new,augStore i ov iv new=(do holding [new,ov,iv] (setItem ov iv new);release [new,ov,iv] [];pure .next):=by intros;rfl):PS X (.AugAssign (.Subscript o i tpos) op e pos) (HD to ti te tget tip tset):=by
 intro pins s σ H D I h;refine wpAny_AugAssign_SubscriptAny (thn (ho pins s σ H _ I h) fun ov s1 ⟨x1,H1,I1,r1,q1⟩=>?_) ha
 refine thn (hi pins s1 σ H1 _ I1 q1) fun iv s2 ⟨x2,H2,I2,r2,q2⟩=>?_
 refine thn (hg pins s2 σ H2 x1 x2 ov iv _ I2 r1 r2 q2) fun old s3 ⟨x3,H3,I3,r3,q3⟩=>?_
 refine thn (he pins s3 σ H3 _ I3 q3) fun v s4 ⟨x4,H4,I4,r4,q4⟩=>?_
 refine thn (hp pins s4 σ H4 x3 x4 old v _ I4 r3 r4 q4) fun new s5 ⟨x5,H5,I5,r5,q5⟩=>?_
 exact thn (hs pins s5 σ H5 x1 x2 x5 ov iv new _ I5 r1 r2 r5 q5) fun _ s6 ⟨H6,I6,q6⟩=>⟨σ,H6,I6,q6⟩
def ipI(f:Int->Int->Int):TIp:=fun x y H Q=>∃i j,x=.int i/\y=.int j/\Q (.int (f i j)) H
theorem nN:PIp X .Add (ipI fun i j=>i+j):=by
 intro pins s σ H x y v u Q I r1 r2 h;obtain⟨i,j,e1,e2,q⟩:=h;subst e1;subst e2;obtain⟨t,rfl⟩:=r1;obtain⟨t',rfl⟩:=r2;exact iadd_int ⟨.int _,H,I.tok _,⟨_,rfl⟩,q⟩
theorem GA:PIp X .Sub (ipI fun i j=>i-j):=by
 intro pins s σ H x y v u Q I r1 r2 h;obtain⟨i,j,e1,e2,q⟩:=h;subst e1;subst e2;obtain⟨t,rfl⟩:=r1;obtain⟨t',rfl⟩:=r2;exact isub_int ⟨.int _,H,I.tok _,⟨_,rfl⟩,q⟩
def GY(c:TT)(tb:TS):TS:=fun D σ H=>∃W:Nat->St->Hp->Prop,(∃m,W m σ H)/\∀m σ H,W m σ H->
 c σ H fun b H1=>if b=true then ∃N:St->Hp->Prop,(∀σ' H',N σ' H'->∃m',m'<m/\W m' σ' H')/\tb { D with nx:=N,ct:=N,bk:=D.nx } σ H1 else D.nx σ H1
theorem ot{c:Expr}{body:List Stmt}{tc:TT}{tb:TS}(hp:PassesOwn (model X.prog X.w) X.A X.env X.xe)(hc:PT X c tc)(hb:PSs X body tb):PS X (.While c body [] pos) (GY tc tb):=by
 intro pins s σ H D I h;obtain⟨W,⟨m0,w0⟩,turn⟩:=h;refine wpAny_While (codeAny_whileLoop (fun n s'=>∃σ' H',Inv X pins σ' H' s'/\W n σ' H') ?_ m0 ⟨σ,H,I,w0⟩)
 rintro n s1 ⟨σ1,H1,I1,w1⟩;refine wpAny_passesOwn hp (thn (hc pins s1 σ1 H1 _ I1 (turn n σ1 H1 w1)) fun b s2 ⟨H2,I2,q2⟩=>?_)
 cases b with
 |true=>
  obtain⟨N,hN,q2⟩:=q2;rw[if_pos rfl];refine wpAny_passesOwn hp (thn (hb pins s2 σ1 H2 _ I2 q2) fun f s3 q3=>?_)
  cases f with
  |next=>
   obtain⟨σ3,H3,I3,n3⟩:=q3;obtain⟨m',hm,w3⟩:=hN σ3 H3 n3;exact⟨m',hm,σ3,H3,I3,w3⟩
  |cont=>
   obtain⟨σ3,H3,I3,n3⟩:=q3;obtain⟨m',hm,w3⟩:=hN σ3 H3 n3;exact⟨m',hm,σ3,H3,I3,w3⟩
  |brk=>exact q3
  |ret v=>exact q3
 |false=>
  rw[if_neg Bool.false_ne_true];exact wpAny_execs_nil ⟨σ1,H2,I2,q2⟩
end
structure It where
 go:Nat->Hp->Prop
 yld:Nat->Hp->V->Hp->Prop
 stop:Nat->Hp->Prop
def lQ(X:Cx)(pins:List (Addr×Obj))(H:Hp)(b:Addr):Prop:=
 H b=none/\b≠X.env.locals/\b ∉ X.fs/\(b∈X.ex\/X.s_0.heap.objs.size<=b)/\(∀x c,X.env.cells.lookup x=some c->c≠b)/\∀p∈X.pn++pins,p.1≠b
theorem Inv.fpOk{X:Cx}{pins:List (Addr×Obj)}{σ:St}{H H':Hp}{s:Shared}{b:Addr}(I:Inv X pins σ H s)(hb:s.heap.objs.size<=b)(hn:H' b=none):lQ X pins H' b:=by
 refine⟨hn,Nat.ne_of_gt (Nat.lt_of_lt_of_le I.lt hb),I.nofs hb,.inr (Nat.le_trans I.sz hb),fun x c e z=>?_,fun p hp z=>?_⟩
 ·obtain⟨v,q⟩:=I.cell x c e;exact absurd (Nat.lt_of_lt_of_le q.lt (by rw[z];exact hb)) (Nat.lt_irrefl _)
 ·exact absurd (Nat.lt_of_lt_of_le (Heap.lt_size (I.pin p hp).1) (by rw[z];exact hb)) (Nat.lt_irrefl _)
structure oO(P:Program)(w:World)(K:PySem.W.Frag)(tg:Expr)(J:It)(fp:List Addr)(it:Addr)(tn:Nat->Heap->Prop):Prop where
 mem:it∈fp
 obj:∀i h,tn i h->∀b∈fp,∃o,h.get? b=some o/\∀v,o.data≠.cell v
 keep:∀i h h',tn i h->(∀b∈fp,∀o,h.get? b=some o->h'.get? b=some o)->tn i h'
 item:∀(X:Cx),X.prog=P->X.w=w->X.K=K->X.calm=true->∀(i:Nat) (pins:List (Addr×Obj)) (s:Shared) (σ:St) (H:Hp) (E:Value->Shared->Prop),Inv X pins σ H s->(∀b∈fp,lQ X pins H b)->tn i s.heap->J.go i H->
  wpAny (model P w) X.A (pyNext (.ref it)) (fun r s1=>∃u,r=some u/\
   wpAny (model P w) X.A (letOwnedTupleGo tg (.ref it) u) (fun _ s2=>∃x H',Inv X pins σ H' s2/\b8 x u/\J.yld i H x H'/\tn (i+1) s2.heap/\∀b∈fp,H' b=none) E s1) E s
 done:∀(X:Cx),X.prog=P->X.w=w->X.K=K->X.calm=true->∀(i:Nat) (pins:List (Addr×Obj)) (s:Shared) (σ:St) (H:Hp) (E:Value->Shared->Prop),Inv X pins σ H s->(∀b∈fp,lQ X pins H b)->tn i s.heap->J.stop i H->
  wpAny (model P w) X.A (pyNext (.ref it)) (fun r s1=>r=none/\Inv X pins σ H s1) E s
 self:∀(A:Around) (i:Nat) (s:Shared) (Q:Value->Shared->Prop) (E:Value->Shared->Prop),tn i s.heap->Q (.ref it) s->wpAny (model P w) A (pyIter (.ref it)) Q E s
abbrev TI:=St->Hp->(It->Hp->Prop)->Prop
def PIE(X:Cx)(pins:List (Addr×Obj))(σ:St)(tg:Expr)(R:It->Hp->Prop)(itv:Value)(s2:Shared):Prop:=
 ∃(it:Addr) (fp:List Addr) (tn:Nat->Heap->Prop) (J:It) (H':Hp),itv=.ref it/\Inv X pins σ H' s2/\oO X.prog X.w X.K tg J fp it tn/\tn 0 s2.heap/\(∀b∈fp,lQ X pins H' b)/\R J H'
def PI(X:Cx)(tg iter:Expr)(wi:TI):Prop:=
 ∀(pins:List (Addr×Obj)) (s:Shared) (σ:St) (H:Hp) (R:It->Hp->Prop),Inv X pins σ H s->wi σ H R->
  wpAny (model X.prog X.w) X.A (eval iter X.env) (fun v s1=>wpAny (model X.prog X.w) X.A (pyIter v) (PIE X pins σ tg R) X.xe s1) X.xe s
theorem oV{M:Model}{A:Around}{E:Value->Shared->Prop}{s:Shared}{tg:Expr}{it:Addr}{u:Value}{o:Obj}{n:String}{vs:Array Value}{Q:Unit->Shared->Prop}(ho:s.heap.get? it=some o)(hc:o.cls=.type n)(hd:o.data=.fields vs)
  (hn:["enumerate", "zip", "dict_itemiterator", "dict_reverseitemiterator", "odict_iterator", "itertools.zip_longest", "itertools.pairwise"].contains n=false) (hQ:Q () s):wpAny M A (letOwnedTupleGo tg (.ref it) u) Q E s:=by
 unfold letOwnedTupleGo;cases tg<;>first
  |exact wpAny_pure hQ
  |(cases u<;>first
    |exact wpAny_pure hQ
    |(refine wpAny_bind (wpAny_load ho ?_)
      rw[hc,hd];show wpAny M A (if(["enumerate", "zip", "dict_itemiterator", "dict_reverseitemiterator", "odict_iterator", "itertools.zip_longest", "itertools.pairwise"].contains n&&vs[0]?==some (rawInt _))=true then _ else _) Q E s
      rw[if_neg (by intro h;rw[hn,Bool.false_and] at h;cases h)]
      exact wpAny_pure hQ))
noncomputable def Itl(K:PySem.W.Frag)(a:Addr):It:=
 ⟨fun i H=>∃xs x,SqL K H a xs/\xs[i]?=some x,fun i H x H'=>H'=H/\∀xs,SqL K H a xs->xs[i]?=some x,fun i H=>∃xs,SqL K H a xs/\xs.length<=i⟩
noncomputable def Itt(K:PySem.W.Frag)(a:Addr):It:=
 ⟨fun i H=>∃xs x,SqT K H a xs/\xs[i]?=some x,fun i H x H'=>H'=H/\∀xs,SqT K H a xs->xs[i]?=some x,fun i H=>∃xs,SqT K H a xs/\xs.length<=i⟩
noncomputable def Itr(lo:Int)(n:Nat):It:=⟨fun i _=>i<n,fun i H x H'=>H'=H/\x=.int (lo+i),fun i _=>n<=i⟩
theorem yI{P:Program}{w:World}{K:PySem.W.Frag}{tg:Expr}(a it:Addr):oO P w K tg (Itl K a) [it] it (fun i h=>h.IsListIter it a i) where
 mem:=by simp
 obj:=fun i h st b hb=>by
  have e:b=it:=by simpa using hb
  subst e;obtain⟨o,e,c,d⟩:=st;exact⟨o,e,fun v z=>by rw[d] at z;cases z⟩
 keep:=fun i h h' st k=>st.at fun o e=>k it (by simp) o e
 item:=by
  intro X hP hw hK hc i pins s σ H E I hf st hg;subst hP hw hK;obtain⟨xs,x,hq,hx⟩:=hg;obtain⟨its,rv,p,hz⟩:=I.list hq;obtain⟨u,hu,ru⟩:=rv.get hx;obtain⟨f0,f1,f2,f3,f4,f5⟩:=hf it (by simp)
  refine wpAny_pyNext_list_item st p.isList (x:=u) (by simpa using hu) fun h' st' sb=>?_
  have I1:Inv X pins σ H { s with heap:=h' }:=I.turned (t':=s.toks) (fun b o hb e=>(sb.2 b hb).trans e) f0 f1 f3 f4 f5
  obtain⟨o,e,c,d⟩:=id st';exact⟨u,rfl,oV (s:={ s with heap:=h' }) e c d (by decide) ⟨x,H,I1,ru,⟨rfl,fun ys hy=>by rw[I.list_inj hy hq];exact hx⟩,st',fun b hb=>(hf b hb).1⟩⟩
 done:=by
  intro X hP hw hK hc i pins s σ H E I hf st hg;subst hP hw hK;obtain⟨xs,hq,hx⟩:=hg;obtain⟨its,rv,p,hz⟩:=I.list hq;obtain⟨f0,f1,f2,f3,f4,f5⟩:=hf it (by simp)
  have hl:=rv.length;exact wpAny_pyNext_list_end (I.ok.hd hc) st p.isList (by simp;omega) fun h' eb=>⟨rfl,I.turned (t':=s.toks) (fun b o hb e=>eb b o hb e) f0 f1 f3 f4 f5⟩
 self:=fun _ _ _ _ _ st h=>wpAny_pyIter_listiter st h
theorem vU{P:Program}{w:World}{K:PySem.W.Frag}{tg:Expr}(a it:Addr):oO P w K tg (Itt K a) [it] it (fun i h=>h.IsTupleIter it a i) where
 mem:=by simp
 obj:=fun i h st b hb=>by
  have e:b=it:=by simpa using hb
  subst e;obtain⟨o,e,c,d⟩:=st;exact⟨o,e,fun v z=>by rw[d] at z;cases z⟩
 keep:=fun i h h' st k=>st.at fun o e=>k it (by simp) o e
 item:=by
  intro X hP hw hK hc i pins s σ H E I hf st hg;subst hP hw hK;obtain⟨xs,x,hq,hx⟩:=hg;obtain⟨its,rv,p,hz⟩:=I.tuple hq;obtain⟨u,hu,ru⟩:=rv.get hx;obtain⟨f0,f1,f2,f3,f4,f5⟩:=hf it (by simp)
  refine wpAny_pyNext_tuple_item st (show s.heap.IsTuple a its.toArray from p) (x:=u) (by simpa using hu) fun h' st' sb=>?_
  have I1:Inv X pins σ H { s with heap:=h' }:=I.turned (t':=s.toks) (fun b o hb e=>(sb.2 b hb).trans e) f0 f1 f3 f4 f5
  obtain⟨o,e,c,d⟩:=id st';exact⟨u,rfl,oV (s:={ s with heap:=h' }) e c d (by decide) ⟨x,H,I1,ru,⟨rfl,fun ys hy=>by rw[I.tuple_inj hy hq];exact hx⟩,st',fun b hb=>(hf b hb).1⟩⟩
 done:=by
  intro X hP hw hK hc i pins s σ H E I hf st hg;subst hP hw hK;obtain⟨xs,hq,hx⟩:=hg;obtain⟨its,rv,p,hz⟩:=I.tuple hq;obtain⟨f0,f1,f2,f3,f4,f5⟩:=hf it (by simp)
  have hl:=rv.length;exact wpAny_pyNext_tuple_end (I.ok.hd hc) st (show s.heap.IsTuple a its.toArray from p) (by simp;omega) fun h' eb=>⟨rfl,I.turned (t':=s.toks) (fun b o hb e=>eb b o hb e) f0 f1 f3 f4 f5⟩
 self:=fun _ _ _ _ _ st h=>wpAny_pyIter_tupleiter st h
theorem vk{P:Program}{w:World}{K:PySem.W.Frag}{tg:Expr}(it:Addr)(lo:Int)(n:Nat):oO P w K tg (Itr lo n) [it] it (fun i h=>IsRangeIter h it (lo+(i:Nat) * 1) ((n:Int)-(i:Nat)) 1) where
 mem:=by simp
 obj:=fun i h st b hb=>by
  have e:b=it:=by simpa using hb
  subst e;exact⟨_,st,fun v z=>by
   have z':Data.fields _=Data.cell v:=z;cases z'⟩
 keep:=fun i h h' st k=>k it (by simp) _ st
 item:=by
  intro X hP hw hK hc i pins s σ H E I hf st hg;subst hP hw hK;obtain⟨f0,f1,f2,f3,f4,f5⟩:=hf it (by simp)
  have W:=Walks.range (prog:=X.prog) (w:=X.w) (I.ok.hd hc) it lo 1 n;refine W.item i s _ _ hg st fun v h' tk hv st' kk=>?_
  obtain⟨t,rfl⟩:=hv;have I1:Inv X pins σ H { s with heap:=h',toks:=tk }:=I.turned (fun b o hb e=>kk b o (by simpa using hb) e) f0 f1 f3 f4 f5
  refine⟨_,rfl,oV (s:={ s with heap:=h',toks:=tk }) (n := "range_iterator") st' rfl rfl (by decide) ⟨.int (lo+i),H,I1,⟨t,?_⟩,⟨rfl,rfl⟩,st',fun b hb=>(hf b hb).1⟩⟩
  rw[Int.mul_one]
 done:=by
  intro X hP hw hK hc i pins s σ H E I hf st hg;subst hP hw hK;obtain⟨f0,f1,f2,f3,f4,f5⟩:=hf it (by simp)
  exact wpAny_pyNext_range_end (I.ok.hd hc) st (by have:n<=i:=hg;omega) fun h' eb=>⟨rfl,I.turned (t':=s.toks) (fun b o hb e=>eb b o hb e) f0 f1 f3 f4 f5⟩
 self:=fun _ _ _ _ _ st h=>wpAny_pyIter_rangeiter st h
end L2
namespace L2
open PySem PySem.Spec PyProof.Rows
section
variable{X:Cx}{tg:Expr}
def Ic(K:PySem.W.Frag)(tl:TE):TI:=fun σ H R=>tl σ H fun x H1=>∃a,x=.ref a/\(∃xs,SqL K H1 a xs)/\R (Itl K a) H1
def IP(K:PySem.W.Frag)(tl:TE):TI:=fun σ H R=>tl σ H fun x H1=>∃a,x=.ref a/\(∃xs,SqT K H1 a xs)/\R (Itt K a) H1
theorem bu{l:Expr}{tl:TE}(hl:PE X l tl):PI X tg l (Ic X.K tl):=by
 intro pins s σ H R I h;refine thn (hl pins s σ H _ I h) fun v s1 ⟨x,H1,I1,r1,q1⟩=>?_
 obtain⟨a,e,⟨xs,hq⟩,q⟩:=q1;subst e;cases r1;obtain⟨its,rv,p,hz⟩:=I1.list hq;refine wpAny_pyIter_list p.isList ?_;refine⟨s1.heap.objs.size,[s1.heap.objs.size],_,_,H1,rfl,I1.kept (t':=s1.toks) fun b o e=>Heap.get?_push_of_some _ e,yI a _,⟨_,Heap.get?_push_size _ rfl,rfl,rfl⟩,fun b hb=>?_,q⟩
 have e:b=s1.heap.objs.size:=by simpa using hb
 subst e;exact I1.fpOk (Nat.le_refl _) (I1.hok.fresh (Nat.le_refl _))
theorem B5{l:Expr}{tl:TE}(hl:PE X l tl):PI X tg l (IP X.K tl):=by
 intro pins s σ H R I h;refine thn (hl pins s σ H _ I h) fun v s1 ⟨x,H1,I1,r1,q1⟩=>?_
 obtain⟨a,e,⟨xs,hq⟩,q⟩:=q1;subst e;cases r1;obtain⟨its,rv,p,hz⟩:=I1.tuple hq;refine wpAny_pyIter_tuple (show s1.heap.IsTuple a its.toArray from p) ?_
 refine⟨s1.heap.objs.size,[s1.heap.objs.size],_,_,H1,rfl,I1.kept (t':=s1.toks) fun b o e=>Heap.get?_push_of_some _ e,vU a _,⟨_,Heap.get?_push_size _ rfl,rfl,rfl⟩,fun b hb=>?_,q⟩
 have e:b=s1.heap.objs.size:=by simpa using hb
 subst e;exact I1.fpOk (Nat.le_refl _) (I1.hok.fresh (Nat.le_refl _))
theorem tH{pins:List (Addr×Obj)}{σ:St}{H:Hp}{s:Shared}{R:It->Hp->Prop}{E:Value->Shared->Prop}{lo hi:Int}{t u v:Tok}{tk:Nat}(I:Inv X pins σ H s)(h1:-(2 ^ 62)<=lo)(h2:lo<2 ^ 62)(h3:-(2 ^ 62)<=hi)(h4:hi<2 ^ 62)
  (q:R (Itr lo (hi-lo).toNat) H):wpAny (model X.prog X.w) X.A (pyIter (.ref s.heap.objs.size)) (PIE X pins σ tg R) E { s with heap:=s.heap.push { cls:=.type "range",data:=.fields #[.int lo t,.int hi u,.int 1 v] },toks:=tk }:=by
 refine wpAny_pyIter_range (IsRange.new ..) (small_one h1 h2 h3 h4) ?_;have I1:Inv X pins σ H { s with heap:=s.heap.push { cls:=.type "range",data:=.fields #[.int lo t,.int hi u,.int 1 v] },toks:=tk }:=I.kept fun b o e=>Heap.get?_push_of_some _ e
 refine⟨(s.heap.push { cls:=.type "range",data:=.fields #[.int lo t,.int hi u,.int 1 v] }).objs.size,[(s.heap.push { cls:=.type "range",data:=.fields #[.int lo t,.int hi u,.int 1 v] }).objs.size],_,_,H,rfl,
  I1.kept (t':=tk) fun b o e=>Heap.get?_push_of_some _ e,vk _ lo (hi-lo).toNat,?_,fun b hb=>?_,q⟩
 ·have e1:lo+((0:Nat):Int) * 1=lo:=by simp
  have e2:(((hi-lo).toNat:Nat):Int)-((0:Nat):Int)=Builtin.Range.rangeSize lo hi 1:=by rw[rangeSize_one];split<;>omega
  show IsRangeIter _ _ (lo+((0:Nat):Int) * 1) ((((hi-lo).toNat:Nat):Int)-((0:Nat):Int)) 1;rw[e1,e2];exact Heap.get?_push_size _ rfl
 ·have e:b=(s.heap.push { cls:=.type "range",data:=.fields #[.int lo t,.int hi u,.int 1 v] }).objs.size:=by simpa using hb
  subst e;exact I1.fpOk (Nat.le_refl _) (I1.hok.fresh (Nat.le_refl _))
def HB(ta:TA):TI:=fun σ H R=>ta σ H fun vs H1=>∃j:Int,vs=[.int j]/\-(2 ^ 62)<=j/\j<2 ^ 62/\R (Itr 0 j.toNat) H1
def HU(ta:TA):TI:=fun σ H R=>ta σ H fun vs H1=>∃i j:Int,vs=[.int i,.int j]/\(-(2 ^ 62)<=i/\i<2 ^ 62/\-(2 ^ 62)<=j/\j<2 ^ 62)/\R (Itr i (j-i).toNat) H1
theorem pB{a:Expr}{ta:TA}{p pos:Pos}(hg:Gl X "range")(hm:X.mg "range" = none)(ha:PA X [a] ta)(hs:starEach [a] X.env=[(false,eval a X.env)]:=by rfl):PI X tg (.Call (.Name "range" p) [a] [] pos) (HB ta):=by
 intro pins s σ H R I h;refine Call_ (iY I hg hm boot_range (PyProof.Rows.callWith_type1 (thn (ha pos pins s σ H _ I h) fun us s1 ⟨vs,H1,I1,r1,q1⟩=>?_) hs rfl))
 obtain⟨j,e,q1,q2,q⟩:=q1;subst e;cases r1 with
 |cons r rr=>
  cases rr;obtain⟨t,rfl⟩:=r;exact call_range_1 (tH I1 (by omega) (by omega) q1 q2 (by simpa using q))
theorem pS{a b:Expr}{ta:TA}{p pos:Pos}(hg:Gl X "range")(hm:X.mg "range" = none)(ha:PA X [a,b] ta)(hs:starEach [a,b] X.env=[(false,eval a X.env),(false,eval b X.env)]:=by rfl)(hs2:starEach [b] X.env=[(false,eval b X.env)]:=by rfl) :
  PI X tg (.Call (.Name "range" p) [a,b] [] pos) (HU ta):=by
 intro pins s σ H R I h;refine Call_ (iY I hg hm boot_range (PyProof.Rows.callWith_type1 (thn (ha pos pins s σ H _ I h) fun us s1 ⟨vs,H1,I1,r1,q1⟩=>?_) (by rw[hs,hs2]) (by rw[hs2];rfl)))
 obtain⟨i,j,e,⟨q1,q2,q3,q4⟩,q⟩:=q1;subst e;cases r1 with
 |cons r rr=>
  cases rr with
  |cons r' rr=>
   cases rr;obtain⟨t,rfl⟩:=r;obtain⟨t',rfl⟩:=r';exact call_range_2 (tH I1 q1 q2 q3 q4 q)
def Je(wi:TI)(g:TG)(tb:TS):TS:=fun D σ H=>wi σ H fun J H1=>∃W:Nat->Nat->St->Hp->Prop,(∃m,W 0 m σ H1)/\∀i m σ H,W i m σ H->
 (J.stop i H/\D.nx σ H)\/(J.go i H/\∃N:St->Hp->Prop,(∀σ' H',N σ' H'->∃m',m'<m/\W (i+1) m' σ' H')/\∀x H',J.yld i H x H'->g x σ H' fun σ2 H2=>tb { D with nx:=N,ct:=N,bk:=D.nx } σ2 H2)
noncomputable def oq(fp:List Addr)(h:Heap):List (Addr×Obj):=fp.filterMap fun b=>(h.get? b).map fun o=>(b,o)
theorem jy{fp:List Addr}{h:Heap}{b:Addr}{o:Obj}(hb:b∈fp)(e:h.get? b=some o):(b,o)∈oq fp h:=List.mem_filterMap.mpr ⟨b,hb,by rw[e];rfl⟩
theorem yO{fp:List Addr}{h:Heap}{p:Addr×Obj}(hp:p∈oq fp h):p.1∈fp/\h.get? p.1=some p.2:=by
 obtain⟨b,hb,e⟩:=List.mem_filterMap.mp hp;cases q:h.get? b with
 |none=>rw[q] at e;cases e
 |some o=>
  rw[q] at e;have e':(b,o)=p:=Option.some.inj e;subst e';exact⟨hb,q⟩
theorem Inv.pinned{pins:List (Addr×Obj)}{σ:St}{H:Hp}{s:Shared}{fp:List Addr}(I:Inv X pins σ H s)(hf:∀b∈fp,lQ X pins H b)(ho:∀b∈fp,∃o,s.heap.get? b=some o/\∀v,o.data≠.cell v):Inv X (pins++oq fp s.heap) σ H s:=
 I.pins_of fun p hp=>(List.mem_append.mp hp).elim (fun z=>I.pin p (List.mem_append_right _ z)) fun z=>by
  obtain⟨hb,e⟩:=yO z;obtain⟨f0,f1,f2,_⟩:=hf p.1 hb;obtain⟨o,e',d⟩:=ho p.1 hb;rw[e] at e';cases e';exact⟨e,f0,f1,f2,d⟩
theorem Inv.unpinned{pins pl:List (Addr×Obj)}{σ:St}{H:Hp}{s:Shared}(I:Inv X (pins++pl) σ H s):Inv X pins σ H s:=I.pins_of fun p hp=>I.pin p (List.mem_append_right _ (List.mem_append_left _ hp))
theorem bM{iter:Expr}{body:List Stmt}{wi:TI}{g:TG}{tb:TS}{pos:Pos}(hp:PassesOwn (model X.prog X.w) X.A X.env X.xe)(hc:X.calm=true)(hi:PI X tg iter wi)(hg:PG X tg g)(hb:PSs X body tb)
  (hs:∀x,foldedSetIterable iter X.env x=pure x:=by intro _;rfl):PS X (.For tg iter body [] pos) (Je wi g tb):=by
 intro pins s σ H D I h;refine wpAny_For (thn (hi pins s σ H _ I h) fun v s1 h1=>thn h1 fun itv s2 h2=>?_) hs
 obtain⟨it,fp,tn,J,H2,e,I2,T,st2,f2,W,⟨m0,w0⟩,turn⟩:=h2;subst e;have stat:∀{H':Hp},(∀b∈fp,H' b=none)->∀b∈fp,lQ X pins H' b:=fun hn b hb=>⟨hn b hb,(f2 b hb).2⟩
 refine codeAny_forLoop_any (fun n s'=>∃i σ' H',Inv X pins σ' H' s'/\tn i s'.heap/\(∀b∈fp,H' b=none)/\W i n σ' H') ?_ m0 ⟨0,σ,H2,I2,st2,fun b hb=>(f2 b hb).1,w0⟩
 rintro n s3 ⟨i,σ3,H3,I3,st3,fr3,w3⟩;rcases turn i n σ3 H3 w3 with⟨stop,qn⟩ | ⟨go,N,hN,step⟩
 ·refine wpAny_passesOwn hp (thn (T.done X rfl rfl rfl hc i pins s3 σ3 H3 X.xe I3 (stat fr3) st3 stop) fun r s4 ⟨hr,I4⟩=>?_)
  subst hr;exact wpAny_execs_nil ⟨σ3,H3,I4,qn⟩
 ·refine wpAny_passesOwn hp (thn (T.item X rfl rfl rfl hc i pins s3 σ3 H3 X.xe I3 (stat fr3) st3 go) fun r s4 ⟨u,hr,h4⟩=>?_)
  subst hr;refine wpAny_passesOwn hp (thn h4 fun _ s5 ⟨x,H5,I5,r5,y5,st5,fr5⟩=>?_)
  have I5':=I5.pinned (stat fr5) (T.obj _ _ st5);refine wpAny_passesOwn hp (thn (hg _ s5 σ3 H5 x u _ I5' r5 (step x H5 y5)) fun _ s6 ⟨σ6,H6,I6,q6⟩=>?_)
  refine wpAny_passesOwn hp (thn (hb _ s6 σ6 H6 _ I6 q6) fun f s7 q7=>?_)
  have again:∀{σ7:St} {H7:Hp},Inv X (pins++oq fp s5.heap) σ7 H7 s7->N σ7 H7->∃m,m<n/\∃i σ' H',Inv X pins σ' H' s7/\tn i s7.heap/\(∀b∈fp,H' b=none)/\W i m σ' H':=fun {σ7 H7} I7 n7=>by
   obtain⟨m',hm,w7⟩:=hN σ7 H7 n7;refine⟨m',hm,i+1,σ7,H7,I7.unpinned,T.keep _ _ _ st5 fun b hb o e=>(I7.pin (b,o) (List.mem_append_right _ (List.mem_append_right _ (jy hb e)))).1,fun b hb=>?_,w7⟩
   obtain⟨o,e,d⟩:=T.obj _ _ st5 b hb;exact(I7.pin (b,o) (List.mem_append_right _ (List.mem_append_right _ (jy hb e)))).2.1
  cases f with
  |next=>obtain⟨σ7,H7,I7,n7⟩:=q7;exact again I7 n7
  |cont=>obtain⟨σ7,H7,I7,n7⟩:=q7;exact again I7 n7
  |brk=>obtain⟨σ7,H7,I7,q7⟩:=q7;exact⟨σ7,H7,I7.unpinned,q7⟩
  |ret v=>obtain⟨x7,σ7,H7,I7,r7,q7⟩:=q7;exact⟨x7,σ7,H7,I7.unpinned,r7,q7⟩
end
theorem d4{K:PySem.W.Frag}{a:Addr}{xs:List V}{g:TG}{tb:TS}{D:jM}{σ:St}{H:Hp}(Pv:Nat->St->Hp->Prop)(h0:Pv 0 σ H)(hl:∀i σ H,i<=xs.length->Pv i σ H->SqL K H a xs)
  (hs:∀i x σ H,xs[i]?=some x->Pv i σ H->g x σ H fun σ2 H2=>tb { D with nx:=Pv (i+1),ct:=Pv (i+1),bk:=D.nx } σ2 H2) (hd:∀σ H,Pv xs.length σ H->D.nx σ H) :
  ∃W:Nat->Nat->St->Hp->Prop,(∃m,W 0 m σ H)/\∀i m σ H,W i m σ H->
   ((Itl K a).stop i H/\D.nx σ H)\/((Itl K a).go i H/\∃N:St->Hp->Prop,(∀σ' H',N σ' H'->∃m',m'<m/\W (i+1) m' σ' H')/\∀x H',(Itl K a).yld i H x H'->g x σ H' fun σ2 H2=>tb { D with nx:=N,ct:=N,bk:=D.nx } σ2 H2):=by
 refine⟨fun i m σ H=>m=xs.length-i/\i<=xs.length/\Pv i σ H,⟨xs.length,by simp,Nat.zero_le _,h0⟩,?_⟩
 rintro i m σ H ⟨rfl,hi,p⟩;have q:=hl i σ H hi p;by_cases hlt:i<xs.length
 ·refine .inr ⟨⟨xs,xs[i],q,by simp[hlt]⟩,Pv (i+1),fun σ' H' p'=>⟨xs.length-(i+1),by omega,rfl,hlt,p'⟩,fun x H' y=>?_⟩
  obtain⟨e,y⟩:=y;subst e;exact hs i x σ _ (y xs q) p
 ·have e:i=xs.length:=by omega
  subst e;exact .inl ⟨⟨xs,q,Nat.le_refl _⟩,hd σ H p⟩
theorem C8{K:PySem.W.Frag}{a:Addr}{xs:List V}{g:TG}{tb:TS}{D:jM}{σ:St}{H:Hp}(Pv:Nat->St->Hp->Prop)(h0:Pv 0 σ H)(hl:∀i σ H,i<=xs.length->Pv i σ H->SqT K H a xs)
  (hs:∀i x σ H,xs[i]?=some x->Pv i σ H->g x σ H fun σ2 H2=>tb { D with nx:=Pv (i+1),ct:=Pv (i+1),bk:=D.nx } σ2 H2) (hd:∀σ H,Pv xs.length σ H->D.nx σ H) :
  ∃W:Nat->Nat->St->Hp->Prop,(∃m,W 0 m σ H)/\∀i m σ H,W i m σ H->
   ((Itt K a).stop i H/\D.nx σ H)\/((Itt K a).go i H/\∃N:St->Hp->Prop,(∀σ' H',N σ' H'->∃m',m'<m/\W (i+1) m' σ' H')/\∀x H',(Itt K a).yld i H x H'->g x σ H' fun σ2 H2=>tb { D with nx:=N,ct:=N,bk:=D.nx } σ2 H2):=by
 refine⟨fun i m σ H=>m=xs.length-i/\i<=xs.length/\Pv i σ H,⟨xs.length,by simp,Nat.zero_le _,h0⟩,?_⟩
 rintro i m σ H ⟨rfl,hi,p⟩;have q:=hl i σ H hi p;by_cases hlt:i<xs.length
 ·refine .inr ⟨⟨xs,xs[i],q,by simp[hlt]⟩,Pv (i+1),fun σ' H' p'=>⟨xs.length-(i+1),by omega,rfl,hlt,p'⟩,fun x H' y=>?_⟩
  obtain⟨e,y⟩:=y;subst e;exact hs i x σ _ (y xs q) p
 ·have e:i=xs.length:=by omega
  subst e;exact .inl ⟨⟨xs,q,Nat.le_refl _⟩,hd σ H p⟩
theorem pR{lo:Int}{n:Nat}{g:TG}{tb:TS}{D:jM}{σ:St}{H:Hp}(Pv:Nat->St->Hp->Prop)(h0:Pv 0 σ H)
  (hs:∀i σ H,i<n->Pv i σ H->g (.int (lo+i)) σ H fun σ2 H2=>tb { D with nx:=Pv (i+1),ct:=Pv (i+1),bk:=D.nx } σ2 H2) (hd:∀σ H,Pv n σ H->D.nx σ H) :
  ∃W:Nat->Nat->St->Hp->Prop,(∃m,W 0 m σ H)/\∀i m σ H,W i m σ H->
   ((Itr lo n).stop i H/\D.nx σ H)\/((Itr lo n).go i H/\∃N:St->Hp->Prop,(∀σ' H',N σ' H'->∃m',m'<m/\W (i+1) m' σ' H')/\∀x H',(Itr lo n).yld i H x H'->g x σ H' fun σ2 H2=>tb { D with nx:=N,ct:=N,bk:=D.nx } σ2 H2):=by
 refine⟨fun i m σ H=>m=n-i/\i<=n/\Pv i σ H,⟨n,by simp,Nat.zero_le _,h0⟩,?_⟩
 rintro i m σ H ⟨rfl,hi,p⟩;by_cases hlt:i<n
 ·refine .inr ⟨hlt,Pv (i+1),fun σ' H' p'=>⟨n-(i+1),by omega,rfl,hlt,p'⟩,fun x H' y=>?_⟩
  obtain⟨e,y⟩:=y;subst e y;exact hs i σ _ hlt p
 ·have e:i=n:=by omega
  subst e;exact .inl ⟨Nat.le_refl _,hd σ H p⟩
end L2
namespace L2
open PySem PySem.Spec PyProof.Rows
abbrev R2:=V->V->Hp->VK->Prop
def OpR(X:Cx)(f:Value->Value->Sem Value)(r:R2):Prop:=
 ∀(pins:List (Addr×Obj)) (s:Shared) (σ:St) (H:Hp) (x y:V) (v u:Value) (Q:VK),Inv X pins σ H s->b8 x v->b8 y u->r x y H Q->
  wpAny (model X.prog X.w) X.A (f v u) (EP X pins σ Q) X.xe s
def UnR(X:Cx)(f:Value->Sem Value)(r:V->Hp->VK->Prop):Prop:=
 ∀(pins:List (Addr×Obj)) (s:Shared) (σ:St) (H:Hp) (x:V) (v:Value) (Q:VK),Inv X pins σ H s->b8 x v->r x H Q->
  wpAny (model X.prog X.w) X.A (f v) (EP X pins σ Q) X.xe s
def gI(X:Cx)(f:Value)(r:List V->Hp->VK->Prop):Prop:=
 ∀(pins:List (Addr×Obj)) (s:Shared) (σ:St) (H:Hp) (xs:List V) (us:List Value) (Q:VK),Inv X pins σ H s->aY xs us->r xs H Q->
  wpAny (model X.prog X.w) X.A (call f us) (EP X pins σ Q) X.xe s
def IQ(X:Cx)(r:V->Hp->(Bool->Hp->Prop)->Prop):Prop:=
 ∀(pins:List (Addr×Obj)) (s:Shared) (σ:St) (H:Hp) (x:V) (v:Value) (Q:Bool->Hp->Prop),Inv X pins σ H s->b8 x v->r x H Q->
  wpAny (model X.prog X.w) X.A (truthy v) (TP X pins σ Q) X.xe s
def tOp(r:R2)(ta tb:TE):TE:=fun σ H Q=>ta σ H fun x H1=>tb σ H1 fun y H2=>r x y H2 Q
def tUn(r:V->Hp->VK->Prop)(ta:TE):TE:=fun σ H Q=>ta σ H fun x H1=>r x H1 Q
def rI(C:Int->Int->Prop)(g:Int->Int->V):R2:=fun x y H Q=>∃i j,x=.int i/\y=.int j/\C i j/\Q (g i j) H
def rI0(g:Int->Int->V):R2:=fun x y H Q=>∃i j,x=.int i/\y=.int j/\Q (g i j) H
def rU(g:Int->V):V->Hp->VK->Prop:=fun x H Q=>∃i,x=.int i/\Q (g i) H
section
variable{X:Cx}{a b c:Expr}{ta tb tc:TE}{pos:Pos}
theorem Gf(ha:PE X a ta)(hb:PE X b tb){pins:List (Addr×Obj)}{s:Shared}{σ:St}{H:Hp}{R:V->V->Hp->Prop}(I:Inv X pins σ H s)
  (h:ta σ H fun x H1=>tb σ H1 fun y H2=>R x y H2) {Q:Value->Shared->Prop} {f:Value->Value->Sem Value}
  (hf:∀v u s2 x y H2,Inv X pins σ H2 s2->b8 x v->b8 y u->R x y H2->wpAny (model X.prog X.w) X.A (f v u) Q X.xe s2) :
  wpAny (model X.prog X.w) X.A (eval a X.env) (fun v s₁=>wpAny (model X.prog X.w) X.A (eval b X.env) (fun u s₂=>wpAny (model X.prog X.w) X.A (f v u) Q X.xe s₂) X.xe s₁) X.xe s:=by
 refine thn (ha pins s σ H _ I h) fun v s1 ⟨x,H1,I1,r1,q1⟩=>?_
 refine thn (hb pins s1 σ H1 _ I1 q1) fun u s2 ⟨y,H2,I2,r2,q2⟩=>?_
 exact hf v u s2 x y H2 I2 r1 r2 q2
theorem aQ{op:Operator}{r:R2}(ho:OpR X (binaryOp op) r)(ha:PE X a ta)(hb:PE X b tb):PE X (.BinOp a op b pos) (tOp r ta tb):=by
 intro pins s σ H Q I h;exact wpAny_BinOp (Gf ha hb I h fun v u s2 x y H2 I2 rx ry q=>ho pins s2 σ H2 x y v u Q I2 rx ry q)
theorem i7{op:UnaryOp}{r:V->Hp->VK->Prop}(ho:UnR X (unaryOp op) r)(ha:PE X a ta):PE X (.UnaryOp op a pos) (tUn r ta):=by
 intro pins s σ H Q I h;exact UnaryOp_ (thn (ha pins s σ H _ I h) fun v s1 ⟨x,H1,I1,r1,q1⟩=>ho pins s1 σ H1 x v Q I1 r1 q1)
theorem opI{f:Value->Value->Sem Value}{C:Int->Int->Prop}{g:Int->Int->Int}
  (rule:∀(i j:Int) (t u:Tok) (s:Shared) (Q:Value->Shared->Prop) (E:Value->Shared->Prop),C i j->Q (.int (g i j) s.toks) { s with toks:=s.toks+1 }->wpAny (model X.prog X.w) X.A (f (.int i t) (.int j u)) Q E s) :
  OpR X f (rI C fun i j=>.int (g i j)):=by
 intro pins s σ H x y v u Q I rx ry h;obtain⟨i,j,rfl,rfl,hc,q⟩:=h;obtain⟨t,rfl⟩:=rx;obtain⟨t',rfl⟩:=ry;exact rule i j t t' s _ _ hc ⟨.int (g i j),H,I.tok _,⟨_,rfl⟩,q⟩
theorem Cb{f:Value->Value->Sem Value}{g:Int->Int->Int}
  (rule:∀(i j:Int) (t u:Tok) (s:Shared) (Q:Value->Shared->Prop) (E:Value->Shared->Prop),Q (.int (g i j) s.toks) { s with toks:=s.toks+1 }->wpAny (model X.prog X.w) X.A (f (.int i t) (.int j u)) Q E s) :
  OpR X f (rI0 fun i j=>.int (g i j)):=by
 intro pins s σ H x y v u Q I rx ry h;obtain⟨i,j,rfl,rfl,q⟩:=h;obtain⟨t,rfl⟩:=rx;obtain⟨t',rfl⟩:=ry;exact rule i j t t' s _ _ ⟨.int (g i j),H,I.tok _,⟨_,rfl⟩,q⟩
theorem Cc{f:Value->Value->Sem Value}{g:Int->Int->Bool}
  (rule:∀(i j:Int) (t u:Tok) (s:Shared) (Q:Value->Shared->Prop) (E:Value->Shared->Prop),Q (.bool (g i j)) s->wpAny (model X.prog X.w) X.A (f (.int i t) (.int j u)) Q E s) :
  OpR X f (rI0 fun i j=>.bl (g i j)):=by
 intro pins s σ H x y v u Q I rx ry h;obtain⟨i,j,rfl,rfl,q⟩:=h;obtain⟨t,rfl⟩:=rx;obtain⟨t',rfl⟩:=ry;exact rule i j t t' s _ _ ⟨.bl (g i j),H,I,rfl,q⟩
def Ja(i j:Int):Prop:=0<j/\j<1073741824
def J2(i j:Int):Prop:=0<=j/\j<=1000000/\i.natAbs<2 ^ 64
def Fh(i j:Int):Prop:=(-(2 ^ 64)<i/\i<2 ^ 64)\/(-(2 ^ 64)<j/\j<2 ^ 64)
theorem Fh.ok{i j:Int}(h:Fh i j):IntMulOk i j:=by
 rcases h with⟨h1,h2⟩ | ⟨h1,h2⟩
 ·exact .of_left (intBits_le_64 h1 h2)
 ·exact .of_right (intBits_le_64 h1 h2)
theorem two_pow_nn(k:Nat):(0:Int)<=2 ^ k:=by
 rw[two_pow_cast];exact Int.natCast_nonneg _
theorem c8:OpR X (binaryOp .Add) (rI0 fun i j=>.int (i+j)):=Cb fun _ _ _ _ _ _ _ q=>add_int q
theorem fi:OpR X (binaryOp .Sub) (rI0 fun i j=>.int (i-j)):=Cb fun _ _ _ _ _ _ _ q=>sub_int q
theorem gu:OpR X (binaryOp .Mult) (rI Fh fun i j=>.int (i * j)):=opI fun _ _ _ _ _ _ _ hc q=>mul_int q hc.ok
theorem CV:OpR X (binaryOp .FloorDiv) (rI Ja fun i j=>.int (i / j)):=opI fun i j _ _ _ _ _ hc q=>by
 have h1:(0:Int)<j:=hc.1;have h2:j<1073741824:=hc.2;exact floordiv_int (by omega) (by rw[Int.fdiv_eq_ediv_of_nonneg i (by omega)];exact q) (.inl (PyProof.noPylong_small (by omega)))
theorem G0:OpR X (binaryOp .Mod) (rI (fun _ j=>0<j) fun i j=>.int (i % j)):=opI fun i j _ _ _ _ _ hc q=>by
 have h1:(0:Int)<j:=hc;exact mod_int' (by omega) (by rw[Int.fmod_eq_emod_of_nonneg i (by omega)];exact q)
theorem Gj:OpR X (binaryOp .LShift) (rI J2 fun i j=>.int (i * 2 ^ j.toNat)):=opI fun _ _ _ _ _ _ _ hc q=>lshift_int_small hc.1 hc.2.1 hc.2.2 q
theorem G5:OpR X (binaryOp .RShift) (rI (fun _ j=>0<=j) fun i j=>.int (i / 2 ^ j.toNat)):=opI fun i j _ _ _ _ _ hc q=>
 rshift_int hc (by rw[Int.fdiv_eq_ediv_of_nonneg i (two_pow_nn _)];exact q)
theorem vi:OpR X (binaryOp .BitAnd) (rI0 fun i j=>.int (Builtin.bitAnd i j)):=Cb fun _ _ _ _ _ _ _ q=>and_int q
theorem zE:OpR X (binaryOp .BitOr) (rI0 fun i j=>.int (Builtin.bitOr i j)):=Cb fun _ _ _ _ _ _ _ q=>or_int q
theorem unI{f:Value->Sem Value}{g:Int->Int}
  (rule:∀(i:Int) (t:Tok) (s:Shared) (Q:Value->Shared->Prop) (E:Value->Shared->Prop),Q (.int (g i) s.toks) { s with toks:=s.toks+1 }->wpAny (model X.prog X.w) X.A (f (.int i t)) Q E s) :
  UnR X f (rU fun i=>.int (g i)):=by
 intro pins s σ H x v Q I rx h;obtain⟨i,rfl,q⟩:=h;obtain⟨t,rfl⟩:=rx;exact rule i t s _ _ ⟨.int (g i),H,I.tok _,⟨_,rfl⟩,q⟩
theorem fk:UnR X (unaryOp .USub) (rU fun i=>.int (-i)):=unI fun _ _ _ _ _ q=>neg_int q
end
noncomputable def Ih:V->V->Bool
 |.non,.non=>true | .non,.int _=>true | .int _,.non=>true | .non,.bl _=>true | .bl _,.non=>true | .non,.str _=>true | .str _,.non=>true
 |.int _,.int _=>true | .bl _,.bl _=>true | .str _,.str _=>true | .byt _,.byt _=>true
 |.int _,.str _=>true | .str _,.int _=>true | .bl _,.str _=>true | .str _,.bl _=>true
 |_,_=>false
def rEq:R2:=fun x y H Q=>Ih x y=true/\Q (.bl (decide (x=y))) H
def rNe:R2:=fun x y H Q=>Ih x y=true/\Q (.bl (!decide (x=y))) H
theorem gk{i j:Int}:decide (V.int i=V.int j)=(i==j):=by
 rw[Bool.eq_iff_iff];simp
theorem AH{i j:Bool}:decide (V.bl i=V.bl j)=(i==j):=by
 rw[Bool.eq_iff_iff];simp
theorem xQ{i j:Str}:decide (V.str i=V.str j)=(i==j):=by
 rw[Bool.eq_iff_iff];simp
theorem xD{i j:Array UInt8}:decide (V.byt i=V.byt j)=(i.toList==j.toList):=by
 rw[Bool.eq_iff_iff];cases i;cases j;simp
section
variable{X:Cx}{a b c:Expr}{ta tb tc:TE}{pos:Pos}
theorem bA{pins:List (Addr×Obj)}{σ:St}{H:Hp}{s:Shared}{Q:VK}{k k':Bool}(I:Inv X pins σ H s)(q:Q (.bl k) H)(e:k=k'):EP X pins σ Q (.bool k') s:=by
 subst e;exact⟨.bl k,H,I,rfl,q⟩
theorem bY:OpR X (compareOp .Eq) rEq:=by
 intro pins s σ H x y v u Q I rx ry h;obtain⟨hs,q⟩:=h;cases x with
 |non=>
  cases rx;cases y with
  |non=>cases ry;exact PySem.EqNone.eq_none_none (bA I q (by simp))
  |bl j=>cases ry;exact PySem.EqNone.eq_none_bool (bA I q (by simp))
  |int j=>obtain⟨t',rfl⟩:=ry;exact PySem.EqNone.eq_none_int (bA I q (by simp))
  |str j=>obtain⟨t',rfl⟩:=ry;exact PySem.EqNone.eq_none_str (bA I q (by simp))
  |_=>exact absurd (show false=true from hs) Bool.false_ne_true
 |bl i=>
  cases rx;cases y with
  |non=>cases ry;exact PySem.EqNone.eq_bool_none (bA I q (by simp))
  |bl j=>cases ry;exact eq_bool (bA I q AH)
  |str j=>obtain⟨t',rfl⟩:=ry;exact PySem.EqMixed.eq_bool_str (bA I q (by simp))
  |_=>exact absurd (show false=true from hs) Bool.false_ne_true
 |int i=>
  obtain⟨t,rfl⟩:=rx;cases y with
  |non=>cases ry;exact PySem.EqNone.eq_int_none (bA I q (by simp))
  |int j=>obtain⟨t',rfl⟩:=ry;exact eq_int (bA I q gk)
  |str j=>obtain⟨t',rfl⟩:=ry;exact PySem.EqMixed.eq_int_str (bA I q (by simp))
  |_=>exact absurd (show false=true from hs) Bool.false_ne_true
 |str i=>
  obtain⟨t,rfl⟩:=rx;cases y with
  |non=>cases ry;exact PySem.EqNone.eq_str_none (bA I q (by simp))
  |bl j=>cases ry;exact PySem.EqMixed.eq_str_bool (bA I q (by simp))
  |int j=>obtain⟨t',rfl⟩:=ry;exact PySem.EqMixed.eq_str_int (bA I q (by simp))
  |str j=>obtain⟨t',rfl⟩:=ry;exact eq_str (bA I q xQ)
  |_=>exact absurd (show false=true from hs) Bool.false_ne_true
 |byt i=>
  obtain⟨t,rfl⟩:=rx;cases y with
  |byt j=>obtain⟨t',rfl⟩:=ry;exact PySem.W.eq_bytes (bA I q xD)
  |_=>exact absurd (show false=true from hs) Bool.false_ne_true
 |_=>cases y<;>exact absurd (show false=true from hs) Bool.false_ne_true
theorem ue:OpR X (compareOp .NotEq) rNe:=by
 intro pins s σ H x y v u Q I rx ry h;obtain⟨hs,q⟩:=h;cases x with
 |non=>
  cases rx;cases y with
  |non=>cases ry;exact PySem.EqNone.ne_none_none (bA I q (by simp))
  |bl j=>cases ry;exact PySem.EqNone.ne_none_bool (bA I q (by simp))
  |int j=>obtain⟨t',rfl⟩:=ry;exact PySem.EqNone.ne_none_int (bA I q (by simp))
  |str j=>obtain⟨t',rfl⟩:=ry;exact PySem.EqNone.ne_none_str (bA I q (by simp))
  |_=>exact absurd (show false=true from hs) Bool.false_ne_true
 |bl i=>
  cases rx;cases y with
  |non=>cases ry;exact PySem.EqNone.ne_bool_none (bA I q (by simp))
  |bl j=>cases ry;exact ne_bool (bA I q (congrArg not AH))
  |str j=>obtain⟨t',rfl⟩:=ry;exact PySem.EqMixed.ne_bool_str (bA I q (by simp))
  |_=>exact absurd (show false=true from hs) Bool.false_ne_true
 |int i=>
  obtain⟨t,rfl⟩:=rx;cases y with
  |non=>cases ry;exact PySem.EqNone.ne_int_none (bA I q (by simp))
  |int j=>obtain⟨t',rfl⟩:=ry;exact ne_int (bA I q (congrArg not gk))
  |str j=>obtain⟨t',rfl⟩:=ry;exact PySem.EqMixed.ne_int_str (bA I q (by simp))
  |_=>exact absurd (show false=true from hs) Bool.false_ne_true
 |str i=>
  obtain⟨t,rfl⟩:=rx;cases y with
  |non=>cases ry;exact PySem.EqNone.ne_str_none (bA I q (by simp))
  |bl j=>cases ry;exact PySem.EqMixed.ne_str_bool (bA I q (by simp))
  |int j=>obtain⟨t',rfl⟩:=ry;exact PySem.EqMixed.ne_str_int (bA I q (by simp))
  |str j=>obtain⟨t',rfl⟩:=ry;exact ne_str (bA I q (congrArg not xQ))
  |_=>exact absurd (show false=true from hs) Bool.false_ne_true
 |byt i=>
  obtain⟨t,rfl⟩:=rx;cases y with
  |byt j=>obtain⟨t',rfl⟩:=ry;exact PySem.W.ne_bytes (bA I q (congrArg not xD))
  |_=>exact absurd (show false=true from hs) Bool.false_ne_true
 |_=>cases y<;>exact absurd (show false=true from hs) Bool.false_ne_true
theorem jY:OpR X (compareOp .Lt) (rI0 fun i j=>.bl (decide (i<j))):=Cc fun _ _ _ _ _ _ _ q=>lt_int q
theorem fH:OpR X (compareOp .LtE) (rI0 fun i j=>.bl (decide (i<=j))):=Cc fun _ _ _ _ _ _ _ q=>le_int q
theorem iU:OpR X (compareOp .Gt) (rI0 fun i j=>.bl (decide (j<i))):=Cc fun _ _ _ _ _ _ _ q=>gt_int q
theorem EY:OpR X (compareOp .GtE) (rI0 fun i j=>.bl (decide (j<=i))):=Cc fun _ _ _ _ _ _ _ q=>ge_int q
theorem iV:OpR X (compareOp .Is) (fun x y H Q=>y=.non/\Q (.bl (decide (x=.non))) H):=by
 intro pins s σ H x y v u Q I rx ry h;obtain⟨rfl,q⟩:=h;cases ry;refine is_none_gen (bA I q ?_);cases x<;>first
  |(cases rx;rfl)
  |(obtain⟨t,rfl⟩:=rx;rfl)
theorem wt:OpR X (compareOp .IsNot) (fun x y H Q=>y=.non/\Q (.bl (!decide (x=.non))) H):=by
 intro pins s σ H x y v u Q I rx ry h;obtain⟨rfl,q⟩:=h;cases ry;refine isnot_none_gen (bA I q ?_);cases x<;>first
  |(cases rx;rfl)
  |(obtain⟨t,rfl⟩:=rx;rfl)
theorem aJ(b:Expr){op:CmpOp}(h:op≠.In:=by decide)(h2:op≠.NotIn:=by decide):behindInMarks op b=false:=by
 have e1:(op==CmpOp.In)=false:=by cases op<;>first | rfl | exact absurd rfl h
 have e2:(op==CmpOp.NotIn)=false:=by cases op<;>first | rfl | exact absurd rfl h2
 cases b<;>simp[behindInMarks,e1,e2]
theorem e7{op:CmpOp}{r:R2}(ho:OpR X (compareOp op) r)(ha:PE X a ta)(hb:PE X b tb)(hm:behindInMarks op b=false):PE X (.Compare a [op] [b] pos) (tOp r ta tb):=by
 intro pins s σ H Q I h;exact wpAny_Compare1 (Gf ha hb I h fun v u s2 x y H2 I2 rx ry q=>ho pins s2 σ H2 x y v u Q I2 rx ry q) hm
def dM(t:TE):TT:=fun σ H Q=>t σ H fun x H'=>∃k,x=.bl k/\Q k H'
theorem aB{op:CmpOp}{r:R2}(ho:OpR X (compareOp op) r)(ha:PE X a ta)(hb:PE X b tb)(hm:behindInMarks op b=false):PT X (.Compare a [op] [b] pos) (dM (tOp r ta tb)):=by
 intro pins s σ H Q I h;refine wpAny_isTrue_Compare1 (thn (ha pins s σ H _ I h) fun v s1 ⟨x,H1,I1,r1,q1⟩=>thn (hb pins s1 σ H1 _ I1 q1) fun u s2 ⟨y,H2,I2,r2,q2⟩=>
  thn (ho pins s2 σ H2 x y v u _ I2 r1 r2 q2) fun c s3 ⟨z,H3,I3,r3,k,e,q3⟩=>?_) hm
 subst e;cases r3;exact wpAny_truthy_bool ⟨H3,I3,q3⟩
def kG(r r':R2)(ta tb tc:TE):TE:=fun σ H Q=>ta σ H fun x H1=>tb σ H1 fun y H2=>r x y H2 fun z H3=>∃k,z=.bl k/\
 (if k=true then tc σ H3 fun w' H4=>r' y w' H4 Q else Q (.bl false) H3)
theorem tD{op op':CmpOp}{r r':R2}(ho:OpR X (compareOp op) r)(ho':OpR X (compareOp op') r')(ha:PE X a ta)(hb:PE X b tb)(hc:PE X c tc)
  (hm:lastMarks [op,op'] [b,c]=false:=by with_unfolding_all rfl):PE X (.Compare a [op,op'] [b,c] pos) (kG r r' ta tb tc):=by
 intro pins s σ H Q I h;refine Compare_chain (thn (ha pins s σ H _ I h) fun v s1 ⟨x,H1,I1,r1,q1⟩=>chain_link (thn (hb pins s1 σ H1 _ I1 q1) fun u s2 ⟨y,H2,I2,r2,q2⟩=>
  thn (ho pins s2 σ H2 x y v u _ I2 r1 r2 q2) fun d s3 ⟨z,H3,I3,r3,k,e,q3⟩=>?_)) hm
 subst e;cases r3;refine wpAny_truthy_bool ?_;cases k with
 |false=>exact ite_ff ⟨.bl false,H3,I3,rfl,q3⟩
 |true=>exact ite_tt (chain_last (thn (hc pins s3 σ H3 _ I3 q3) fun w' s4 ⟨z',H4,I4,r4,q4⟩=>ho' pins s4 σ H4 y z' u w' Q I4 r2 r4 q4))
theorem jW{op op':CmpOp}{r r':R2}(ho:OpR X (compareOp op) r)(ho':OpR X (compareOp op') r')(ha:PE X a ta)(hb:PE X b tb)(hc:PE X c tc)
  (hm:lastMarks [op,op'] [b,c]=false:=by with_unfolding_all rfl):PT X (.Compare a [op,op'] [b,c] pos) (dM (kG r r' ta tb tc)):=by
 intro pins s σ H Q I h;refine isTrue_chain (thn (ha pins s σ H _ I h) fun v s1 ⟨x,H1,I1,r1,q1⟩=>test_link (thn (hb pins s1 σ H1 _ I1 q1) fun u s2 ⟨y,H2,I2,r2,q2⟩=>
  thn (ho pins s2 σ H2 x y v u _ I2 r1 r2 q2) fun d s3 ⟨z,H3,I3,r3,k,e,q3⟩=>?_)) hm
 subst e;cases r3;refine wpAny_truthy_bool ?_;cases k with
 |false=>
  obtain⟨k',e',q'⟩:=q3;cases e';exact ite_ff ⟨H3,I3,q'⟩
 |true=>
  refine ite_tt (test_last (thn (hc pins s3 σ H3 _ I3 q3) fun w' s4 ⟨z',H4,I4,r4,q4⟩=>thn (ho' pins s4 σ H4 y z' u w' _ I4 r2 r4 q4) fun d' s5 ⟨z2,H5,I5,r5,k2,e2,q5⟩=>?_))
  subst e2;cases r5;exact wpAny_truthy_bool ⟨H5,I5,q5⟩
def zR(K:PySem.W.Frag)(x:V)(H:Hp)(k:Bool):Prop:=
 match x with
 |.non=>k=false
 |.bl b=>k=b
 |.int i=>k=(i != 0)
 |.str y=>y.length<=sizeLine/\k=((y.length:Int) != 0)
 |.byt y=>y.size<=sizeLine/\k=((y.size:Int) != 0)
 |.ref p=>(∃xs,SqL K H p xs/\k=!xs.isEmpty)\/(∃xs,SqT K H p xs/\k=!xs.isEmpty)\/∃kvs,H p=some (.dK kvs)/\k=!kvs.isEmpty
 |_=>False
theorem vS{κ:Type}{kvs:List (κ×V)}{vs:List (κ×Value)}(r:KV kvs vs):(!vs.isEmpty)=!kvs.isEmpty:=by
 cases r<;>rfl
theorem nB{xs:List V}{its:List Value}(r:aY xs its):(!its.toArray.isEmpty)=!xs.isEmpty:=by
 cases r<;>simp
theorem jG:(sizeLine:Nat)<2 ^ 63:=by rw[sizeLine_eq];decide
theorem Ht:IQ X (fun x H Q=>∃k,zR X.K x H k/\Q k H):=by
 intro pins s σ H x v Q I rx h;obtain⟨k,e,q⟩:=h;have hl:=jG;have hs:sizeLine=16777216:=sizeLine_eq;cases x with
 |non=>
  cases rx;have e':k=false:=e;subst e';exact truthy_none ⟨H,I,q⟩
 |bl b=>
  cases rx;have e':k=b:=e;subst e';exact wpAny_truthy_bool ⟨H,I,q⟩
 |int i=>
  obtain⟨t,rfl⟩:=rx;have e':k=(i != 0):=e;subst e';exact PySem.P.truthy_int ⟨H,I,q⟩
 |str y=>
  obtain⟨t,rfl⟩:=rx;obtain⟨hy,e'⟩:y.length<=sizeLine/\k=((y.length:Int) != 0):=e;subst e';exact PySem.P.truthy_str (by omega) ⟨H,I.tok _,q⟩
 |byt y=>
  obtain⟨t,rfl⟩:=rx;obtain⟨hy,e'⟩:y.size<=sizeLine/\k=((y.size:Int) != 0):=e;subst e';exact PySem.W.truthy_bytes (by omega) ⟨H,I.tok _,q⟩
 |ref p=>
  cases rx;have e':(∃xs,SqL X.K H p xs/\k=!xs.isEmpty)\/(∃xs,SqT X.K H p xs/\k=!xs.isEmpty)\/∃kvs,H p=some (.dK kvs)/\k=!kvs.isEmpty:=e;rcases e' with⟨xs,hx,e'⟩ | ⟨xs,hx,e'⟩ | ⟨kvs,hx,e'⟩
  ·subst e';obtain⟨its,r,pl,hz⟩:=I.list hx;have hlen:=r.length;exact wpAny_truthy_list pl.isList (by simp only[List.size_toArray];omega) ⟨H,I.tok _,by rw[nB r];exact q⟩
  ·subst e';obtain⟨its,r,pl,hz⟩:=I.tuple hx;have hlen:=r.length;exact truthy_tuple pl (by simp only[List.size_toArray];omega) ⟨H,I.tok _,by rw[nB r];exact q⟩
  ·subst e';obtain⟨hz,hS,vs,r,m⟩:kvs.length<=sizeLine/\(p==sysModules)=false/\∃vs,KV kvs vs/\s.heap.DictOf (bw X.prog X.w) p vs:=I.hok p _ hx;have hlen:kvs.length=vs.length:=Paired.length r;exact wpAny_truthy_dict hS m (by omega) ⟨H,I.tok _,by rw[vS r];exact q⟩
 |_=>exact(show False from e).elim
theorem dY(ha:PE X a ta)(he:∀whole,isTrue a X.env whole=(do let v<-whole;standAt a.pos;holding [v] (truthy v))) :
  PT X a (fun σ H Q=>ta σ H fun x H'=>∃k,zR X.K x H' k/\Q k H'):=by
 intro pins s σ H Q I h;exact isTrue_plain (thn (ha pins s σ H _ I h) fun v s1 ⟨x,H1,I1,r1,q1⟩=>Ht pins s1 σ H1 x v Q I1 r1 q1) (he _)
theorem v9:OpR X (binaryOp .Add) (fun x y H Q=>∃i j,x=.str i/\y=.str j/\i.length+j.length<=sizeLine/\Q (.str (i++j)) H):=by
 intro pins s σ H x y v u Q I rx ry h;obtain⟨i,j,rfl,rfl,hz,q⟩:=h;obtain⟨t,rfl⟩:=rx;obtain⟨t',rfl⟩:=ry;exact add_str (fun t' tk=>⟨.str (i++j),H,I.tok _,⟨_,rfl⟩,q⟩) hz
theorem pP{x:V}{us:List Value}(r:aY [x] us):∃u,us=[u]/\b8 x u:=by
 cases r with
 |cons r1 r2=>cases r2;exact⟨_,rfl,r1⟩
theorem IC{x y:V}{us:List Value}(r:aY [x,y] us):∃u w',us=[u,w']/\b8 x u/\b8 y w':=by
 cases r with
 |cons r1 r2=>
  cases r2 with
  |cons r3 r4=>cases r4;exact⟨_,_,rfl,r1,r3⟩
theorem sU:gI X (.builtin "abs") (fun xs H Q=>∃i,xs=[.int i]/\Q (.int (if i<0 then -i else i)) H):=by
 intro pins s σ H xs us Q I r h;obtain⟨i,rfl,q⟩:=h;obtain⟨u,rfl,t,rfl⟩:=pP r;exact call_abs_int fun u tk=>⟨.int (if i<0 then -i else i),H,I.tok _,⟨_,rfl⟩,q⟩
theorem qY:gI X (.type "str") (fun xs H Q=>∃i,xs=[.int i]/\i.natAbs.log2<1920/\Q (.str (toString i)) H):=by
 intro pins s σ H xs us Q I r h;obtain⟨i,rfl,hz,q⟩:=h;obtain⟨u,rfl,t,rfl⟩:=pP r;exact PySem.P.str_of_int hz ⟨.str _,H,I.tok _,⟨_,rfl⟩,q⟩
theorem tp:gI X (.builtin "ord") (fun xs H Q=>∃x,xs=[.str x]/\x.length=1/\Q (.int (x.cps.getD 0 0:Nat)) H):=by
 intro pins s σ H xs us Q I r h;obtain⟨x,rfl,hz,q⟩:=h;obtain⟨u,rfl,t,rfl⟩:=pP r;exact ord_of_one hz ⟨.int _,H,I.tok _,⟨_,rfl⟩,q⟩
end
end L2
namespace L2
open PySem PySem.Spec PyProof.Rows
structure uS(h:Heap)(x dx C:Addr)(mA:Str->Option Value):Prop where
 obj:h.get? x=some (PySem.W.instObj C dx)
 ns:h.Ns1 dx mA
 ne:dx≠x
theorem yx{h:Heap}{dx:Addr}{mA:Str->Option Value}(n:h.Ns1 dx mA):∃od,h.get? dx=some od/\∀name,PySem.W.lookIn name od=some (mA name):=by
 obtain⟨o,es,ep,ho,hd,hk,_,hm⟩:=n;refine⟨o,ho,fun name=>?_⟩
 have e:=hm name;unfold nsFind findBy at e;rw[<-Array.find?_toList] at e;unfold PySem.W.lookIn;rw[hd];dsimp only;split
 ·rename_i y q
  rw[q] at e;exact congrArg some e
 ·rename_i q
  rw[q] at e;have a:es.toList.any (·.refKey)=false:=by
   rw[List.any_eq_false];intro y hy;obtain⟨z,t,hkey⟩:=hk y (Array.mem_toList_iff.mp hy);simp[DictEntry.refKey,hkey]
  have a':¬es.toList.any (·.refKey)=true:=by rw[a];exact Bool.false_ne_true
  rw[if_neg a'];exact congrArg some e
theorem uS.look{h:Heap}{x dx C:Addr}{mA:Str->Option Value}(I:uS h x dx C mA):∃od,PySem.W.InstAt h x (PySem.W.instObj C dx) C (some od)/\∀name,PySem.W.lookIn name od=some (mA name):=
 let ⟨od,ho,hl⟩:=yx I.ns
 ⟨od,⟨I.obj,rfl,rfl,ho⟩,hl⟩
section
variable{prog:Program}{w:World}{A:Around}{E:Value->Shared->Prop}{s:Shared}{K:PySem.W.Frag}{x dx C f:Addr}{mA:Str->Option Value}{name:Str}{v:Value}
theorem D7{expr:Bool}{Q:Value->Shared->Prop}(X:K.In s.heap)(I:uS s.heap x dx C mA)(hg:PySem.W.plainGet K C name=true)(hh:PySem.W.hasDictIn K C=true)
  (ha:PySem.W.findIn K (.ref C) name=some none) (hv:mA name=some v) (hv':PySem.W.handedIn v=true) (h:Q v { s with toks:=s.toks+1 }) :
  wpAny (model prog w) A (getAttr (.ref x) name expr) Q E s:=by
 obtain⟨od,J,hl⟩:=I.look;exact PySem.W.get_value X J (PySem.W.plainGet_of hg).1 (PySem.W.findObj_own hh ha rfl (by rw[hl,hv])) hv' h
theorem AF{pl:Sem Bool}{Q:Value×List Value->Shared->Prop}(X:K.In s.heap)(I:uS s.heap x dx C mA)(hg:PySem.W.plainGet K C name=true)
  (hf:PySem.W.findIn K (.ref C) name=some (some (.ref f))) (ht:PySem.W.isFn K (.ref f)=true) (hv:mA name=none) (h:Q (.ref f,[.ref x]) s) :
  wpAny (model prog w) A (getMethod (.ref x) name pl) Q E s:=by
 obtain⟨od,J,hl⟩:=I.look;exact PySem.W.method_fn X J (PySem.W.plainGet_of hg).1 (PySem.W.plainGet_of hg).2 hf (beq_iff_eq.mp ht) (by show(PySem.W.lookIn name od).map (·.isSome)=some false;rw[hl,hv];rfl) h
theorem C7{ns:List Str}{Q:Unit->Shared->Prop}(X:K.In s.heap)(I:uS s.heap x dx C mA)
  (hs:PySem.W.findIn K (.ref C) "__setattr__" = some (some (.builtin "object.__setattr__"))) (hp:PySem.W.plainOver K C=true) (ht:PySem.W.takerIn K C name=some none) (hh:PySem.W.hasDictIn K C=true)
  (hw:PySem.Within mA ns) (hsz:ns.length<=sizeLine)
  (h:∀h',uS h' x dx C (fun y=>if y=name then some v else mA y)->Heap.SameBut dx s.heap h'->Q () { s with heap:=h',toks:=s.toks+2 }) :
  wpAny (model prog w) A (setAttr (.ref x) name v) Q E s:=by
 obtain⟨od,J,hl⟩:=I.look;refine PySem.W.set_plain X J hs (PySem.W.osa_open (s:={ s with toks:=s.toks+1 }) (r:=none) X J hp ht fun b=>?_)
 obtain⟨cd,hc,hd'⟩:=PySem.W.any_some hh;have hx:s.heap.get? x=some ⟨.ref C,some dx,.plain,#[]⟩:=I.obj;refine wpAny_bind (wpAny_pure (wpAny_bind (wpAny_bind (wpAny_loadPart hx (wpAny_bind (PySem.W.Looks.here (s:={ s with toks:=s.toks+1 }) (PySem.W.looks_clsIn X hc) ?_))))))
 rw[hd'];refine wpAny_pure (a:=some dx) (wpAny_bind (wpAny_pure (wpAny_bind ?_)));refine wpAny_nsSet1 (s:={ s with toks:=s.toks+1 }) I.ns fun h' hn2 hs2=>?_
 obtain⟨oD,esD,epD,hoD,hdD,hcD⟩:=hn2.count (PySem.Within.cons name v hw);refine wpAny_bind (wpAny_lookBehind hoD (by rw[hdD];exact pastItsLine_dict (Nat.le_trans hcD (by rw[List.length_cons];omega))) ?_)
 exact wpAny_pure (h _ ⟨(hs2.2 _ (Ne.symm I.ne)).trans I.obj,hn2,I.ne⟩ hs2)
theorem Ap{R:Result->Shared->Prop}{vs:List Value}{kw:List (Str×Value)}(X:K.In s.heap)(hm:PySem.W.makesIn K C=true)
  (hi:PySem.W.findIn K (.ref C) "__init__" = some (some (.ref f))) (hf:PySem.W.typeIn K (.ref f)=some (.type "function"))
  (h:codeAny (model prog w) (A.under (.builtin "type.__call__" ⟨.ref C::vs,kw⟩)) (.call (.ref f) ⟨.ref (s.heap.objs.size+1)::vs,kw⟩) (PySem.W.InitBack (s.heap.objs.size+1) R)
   { s with heap:=(s.heap.push PySem.W.emptyDict).push (PySem.W.instObj C s.heap.objs.size) }) :
  codeAny (model prog w) A (.call (.ref C) ⟨vs,kw⟩) R s:=by
 obtain⟨hh,g,d,t,os⟩:=s;exact PySem.W.make_core (PySem.W.makes_of X hm) (PySem.W.looks_findIn X hi) (fun self=>PySem.W.bind_fn X self hf) (.inl rfl) h
end
noncomputable def ja(f:Str)(v:V):List (Str×V)->List (Str×V)
 |[]=>[(f,v)]
 |(g,x)::r=>if g=f then(g,v)::r else(g,x)::ja f v r
theorem lI(f g:Str)(v:V):∀fs:List (Str×V),(ja f v fs).lookup g=if g=f then some v else fs.lookup g
 |[]=>by
  show List.lookup g [(f,v)]=_;by_cases h:g=f
  ·have hb:(g==f)=true:=beq_iff_eq.mpr h;simp only[List.lookup,hb,if_pos h]
  ·have hb:(g==f)=false:=beq_eq_false_iff_ne.mpr h;simp only[List.lookup,hb,if_neg h]
 |(k,x)::r=>by
  have ih:=lI f g v r;rw[show ja f v ((k,x)::r)=(if k=f then(k,v)::r else(k,x)::ja f v r) from rfl]
  by_cases hk:k=f
  ·rw[if_pos hk];by_cases h:g=k
   ·have hb:(g==k)=true:=beq_iff_eq.mpr h;simp only[List.lookup,hb,if_pos (h.trans hk)]
   ·have hb:(g==k)=false:=beq_eq_false_iff_ne.mpr h;simp only[List.lookup,hb,if_neg (fun e:g=f=>h (e.trans hk.symm))]
  ·rw[if_neg hk];by_cases h:g=k
   ·have hb:(g==k)=true:=beq_iff_eq.mpr h;simp only[List.lookup,hb,if_neg (fun e:g=f=>hk (h.symm.trans e))]
   ·have hb:(g==k)=false:=beq_eq_false_iff_ne.mpr h;simp only[List.lookup,hb];exact ih
theorem kR(f:Str)(v:V):∀fs:List (Str×V),f∈(ja f v fs).map (·.1)/\∀g,g∈fs.map (·.1)->g∈(ja f v fs).map (·.1)
 |[]=>⟨by simp[ja],fun g h=>by simp at h⟩
 |(k,x)::r=>by
  obtain⟨i1,i2⟩:=kR f v r;rw[show ja f v ((k,x)::r)=(if k=f then(k,v)::r else(k,x)::ja f v r) from rfl]
  by_cases hk:k=f
  ·rw[if_pos hk];subst hk;exact⟨by simp,fun g h=>by simpa using h⟩
  ·rw[if_neg hk];refine⟨?_,fun g h=>?_⟩
   ·rw[List.map_cons];exact List.mem_cons_of_mem _ i1
   ·rw[List.map_cons] at h ⊢;rcases List.mem_cons.mp h with e | e
    ·exact List.mem_cons.mpr (.inl e)
    ·exact List.mem_cons_of_mem _ (i2 g e)
theorem lE(f:Str)(v:V):∀fs:List (Str×V),(ja f v fs).length<=fs.length+1
 |[]=>by simp[ja]
 |(k,x)::r=>by
  have ih:=lE f v r;rw[show ja f v ((k,x)::r)=(if k=f then(k,v)::r else(k,x)::ja f v r) from rfl]
  by_cases hk:k=f
  ·rw[if_pos hk,List.length_cons,List.length_cons];omega
  ·rw[if_neg hk,List.length_cons,List.length_cons];omega
theorem g8.some_of{v:V}{o:Option Value}(r:g8 (some v) o):∃u,o=some u/\b8 v u:=by
 cases o with
 |none=>exact(show False from r).elim
 |some u=>exact⟨u,rfl,r⟩
theorem g8.none_of{o:Option Value}(r:g8 none o):o=none:=by
 cases o with
 |none=>rfl
 |some u=>exact(show False from r).elim
theorem yp{v:V}{u:Value}(r:b8 v u):PySem.W.handedIn u=true:=by
 cases v with
 |non=>cases (show u=Value.none from r);rfl
 |bl b=>cases (show u=Value.bool b from r);rfl
 |int i=>obtain⟨t,e⟩:=(show ∃t,u=Value.int i t from r);cases e;rfl
 |str x=>obtain⟨t,e⟩:=(show ∃t,u=Value.str x t from r);cases e;rfl
 |byt b=>obtain⟨t,e⟩:=(show ∃t,u=Value.bytes b t from r);cases e;rfl
 |flt b=>obtain⟨t,e⟩:=(show ∃t,u=Value.float b t from r);cases e;rfl
 |ref a=>cases (show u=Value.ref a from r);rfl
 |ty n=>cases (show u=Value.type n from r);rfl
section
variable{P:Program}{w:World}{H H':Hp}{h h':Heap}{a C dx:Addr}{fs fs':List (Str×V)}
theorem rG(hok:HOk P w H h)(e:H a=some (.ins C dx fs)):∃mA,uS h a dx C mA/\(∀f,g8 (fs.lookup f) (mA f))/\PySem.Within mA (fs.map (·.1))/\fs.length<=1000/\H dx=some (.own a):=by
 obtain⟨d,z,ne,ob,mA,n,r,q⟩:=(show d7 P w H h a (.ins C dx fs) from hok a _ e)
 exact⟨mA,⟨ob,n,ne⟩,r,q,z,d⟩
end
structure Cls(K:PySem.W.Frag)(C:Addr):Prop where
 pg:PySem.W.plainGet K C Str.empty=true
 hd:PySem.W.hasDictIn K C=true
 po:PySem.W.plainOver K C=true
 sa:PySem.W.findIn K (.ref C) "__setattr__" = some (some (.builtin "object.__setattr__"))
theorem Cls.get{K:PySem.W.Frag}{C:Addr}(c:Cls K C)(f:Str):PySem.W.plainGet K C f=true:=c.pg
def aE(K:PySem.W.Frag)(C:Addr)(f:Str):Prop:=PySem.W.findIn K (.ref C) f=some none
theorem aE.taker{K:PySem.W.Frag}{C:Addr}{f:Str}(n:aE K C f):PySem.W.takerIn K C f=some none:=by
 unfold PySem.W.takerIn;rw[show PySem.W.findIn K (.ref C) f=some none from n]
 rfl
structure yf(K:PySem.W.Frag)(C:Addr)(m:Str)(f:Addr):Prop where
 at_:PySem.W.findIn K (.ref C) m=some (some (.ref f))
 fn:PySem.W.isFn K (.ref f)=true
 kp:PySem.W.keepIn K (.ref f)=true
section
variable{X:Cx}{pins:List (Addr×Obj)}{σ:St}{H:Hp}{s:Shared}{a C dx:Addr}{fs:List (Str×V)}{f:Str}{v:V}{A:Around}{E:Value->Shared->Prop}
theorem vK{b:Bool}{Q:Value->Shared->Prop}(I:Inv X pins σ H s)(e:H a=some (.ins C dx fs))(c:Cls X.K C)(n:aE X.K C f)(l:fs.lookup f=some v)
  (h:∀u s',Inv X pins σ H s'->b8 v u->Q u s'):wpAny (model X.prog X.w) A (getAttr (.ref a) f b) Q E s:=by
 obtain⟨mA,O,r,_,_,_⟩:=rG I.hok e;obtain⟨u,hu,ru⟩:=g8.some_of (v:=v) (o:=mA f) (by rw[<-l];exact r f)
 exact D7 I.kIn O (c.get f) c.hd n hu (yp ru) (h u _ (I.tok _) ru)
theorem jn{m:Str}{g:Addr}{pl:Sem Bool}{Q:Value×List Value->Shared->Prop}(I:Inv X pins σ H s)(e:H a=some (.ins C dx fs))(c:Cls X.K C)(k:yf X.K C m g)(l:fs.lookup m=none)
  (h:Q (.ref g,[.ref a]) s):wpAny (model X.prog X.w) A (getMethod (.ref a) m pl) Q E s:=by
 obtain⟨mA,O,r,_,_,_⟩:=rG I.hok e;have hn:mA m=none:=g8.none_of (by rw[<-l];exact r m)
 exact AF I.kIn O (c.get m) k.at_ k.fn hn h
theorem vI{y:V}{u:Value}{Q:Unit->Shared->Prop}(I:Inv X pins σ H s)(e:H a=some (.ins C dx fs))(c:Cls X.K C)(n:aE X.K C f)(hl:fs.length<1000)(ry:b8 y u)
  (h:∀s',Inv X pins σ (upd H a (.ins C dx (ja f y fs))) s'->Q () s'):wpAny (model X.prog X.w) A (setAttr (.ref a) f u) Q E s:=by
 obtain⟨mA,O,r,wi,_,ho⟩:=rG I.hok e;have hz:(fs.map (·.1)).length<=sizeLine:=by rw[List.length_map,sizeLine_eq];omega
 refine C7 I.kIn O c.sa c.po n.taker c.hd wi hz fun h' O' sb=>h _ ?_
 have hd:∃o,h'.get? dx=some o:=let ⟨o,_,_,e',_⟩:=O'.ns;⟨o,e'⟩;refine I.write (x:=a) (e:=dx) (by rw[e];exact True.intro) (.inr ho) (fun b q hb z=>(sb.2 b hb).trans z) hd ?_
 refine⟨by rw[af O.ne];exact ho,?_,O.ne,O'.obj,_,O'.ns,fun g=>?_,fun g hg=>?_⟩
 ·have:=lE f y fs;omega
 ·show g8 ((ja f y fs).lookup g) (if g=f then some u else mA g)
  rw[lI];by_cases q:g=f
  ·rw[if_pos q,if_pos q];exact ry
  ·rw[if_neg q,if_neg q];exact r g
 ·by_cases q:g=f
  ·rw[q];exact(kR f y fs).1
  ·refine(kR f y fs).2 g (wi g fun z=>hg ?_)
   show(if g=f then some u else mA g)=none
   rw[if_neg q];exact z
theorem Inv.made(I:Inv X pins σ H s):Inv X pins σ (upd (upd H s.heap.objs.size (.own (s.heap.objs.size+1))) (s.heap.objs.size+1) (.ins C s.heap.objs.size []))
  { s with heap:=(s.heap.push PySem.W.emptyDict).push (PySem.W.instObj C s.heap.objs.size) }:=by
 have e1:(s.heap.push PySem.W.emptyDict).get? s.heap.objs.size=some PySem.W.emptyDict:=Heap.get?_push_size s.heap rfl;have e2:((s.heap.push PySem.W.emptyDict).push (PySem.W.instObj C s.heap.objs.size)).get? (s.heap.objs.size+1)=some (PySem.W.instObj C s.heap.objs.size):=by
  have:=Heap.get?_push_size (s.heap.push PySem.W.emptyDict) (o:=PySem.W.instObj C s.heap.objs.size) rfl
  rwa [Heap.size_push] at this
 have e3:(s.heap.push PySem.W.emptyDict).Ns s.heap.objs.size (fun _=>none):=⟨PySem.W.emptyDict,#[],_,e1,rfl,(fun e he=>absurd he (by simp)),fun _=>rfl⟩
 have I1:=I.laid (a:=s.heap.objs.size) (o:=.own (s.heap.objs.size+1)) (h':=s.heap.push PySem.W.emptyDict) (t':=s.toks) (fun b u q=>Heap.get?_push_of_some _ q) (Nat.le_refl _) ⟨_,e1⟩
 refine I1.laid (a:=s.heap.objs.size+1) (o:=.ins C s.heap.objs.size []) (t':=s.toks) (fun b u q=>Heap.get?_push_of_some _ q) (Nat.le_of_eq (Heap.size_push _ _)) ?_
 have ne:s.heap.objs.size≠s.heap.objs.size+1:=Nat.ne_of_lt (Nat.lt_succ_self _);refine⟨by rw[af ne,a7],Nat.zero_le _,ne,e2,fun _=>none,(Heap.Ns1.of_empty e3).at fun o q=>Heap.get?_push_of_some _ q,fun _=>True.intro,fun y hy=>absurd rfl hy⟩
theorem Er{prog:Program}{w:World}{env:Env}{e:Expr}{f:Str}{pos:Pos}{s:Shared}{Q:Value->Shared->Prop}(hb:attributeBase e f env (eval e env)=eval e env)
  (h:wpAny (model prog w) A (eval e env) (fun o s₁=>wpAny (model prog w) A (getAttr o f true) Q E s₁) E s):wpAny (model prog w) A (eval (.Attribute e f pos) env) Q E s:=
 Attribute_any_ h (by rw[arm_eval_Attribute,hb])
end
def lO(K:PySem.W.Frag)(ta:TE)(f:Str):TE:=fun σ H Q=>ta σ H fun x H1=>∃a C dx fs v,x=.ref a/\H1 a=some (.ins C dx fs)/\Cls K C/\aE K C f/\fs.lookup f=some v/\Q v H1
def Jm(K:PySem.W.Frag)(ta tv:TE)(f:Str):TS:=fun D σ H=>tv σ H fun y H1=>ta σ H1 fun x H2=>∃a C dx fs,x=.ref a/\H2 a=some (.ins C dx fs)/\Cls K C/\aE K C f/\fs.length<1000/\
 D.nx σ (upd H2 a (.ins C dx (ja f y fs)))
section
variable{X:Cx}{o e value:Expr}{f:Str}{pos pos' tpos:Pos}{ta tv:TE}
theorem aI(he:PE X e ta)(hb:attributeBase e f X.env (eval e X.env)=eval e X.env):PE X (.Attribute e f pos) (lO X.K ta f):=by
 intro pins s σ H Q I h;refine Er hb (thn (he pins s σ H _ I h) fun u s1 ⟨x,H1,I1,rx,a,C,dx,fs,v,ex,ea,c,n,l,q⟩=>?_)
 subst ex;obtain rfl:u=Value.ref a:=rx;exact vK I1 ea c n l fun u' s2 I2 ru=>⟨v,H1,I2,ru,q⟩
theorem c7(ha:PE X o ta)(hv:PE X value tv)(hs:swapsWith value (some (.Attribute o f pos')) pos.line X.env=pure false):PS X (.Assign [.Attribute o f pos'] value pos) (Jm X.K ta tv f):=by
 intro pins s σ H D I h;refine plainObj_wpAny_Assign_Attribute (thn (hv pins s σ H _ I h) fun u s1 ⟨y,H1,I1,ry,q⟩=>thn (ha pins s1 σ H1 _ I1 q) fun ov s2 ⟨x,H2,I2,rx,a,C,dx,fs,ex,ea,c,n,l,q2⟩=>?_) hs
 subst ex;obtain rfl:ov=Value.ref a:=rx;exact vI I2 ea c n l ry fun s3 I3=>⟨σ,_,I3,q2⟩
theorem EM{pl:Sem Bool}{m:Str}{apos:Pos}{args:List Expr}{pins:List (Addr×Obj)}{s:Shared}{σ:St}{H:Hp}{Q:Value->Shared->Prop}{te:TE}(he:PE X e te)(I:Inv X pins σ H s)
  (h:te σ H fun x H1=>∃a C dx fs g,x=.ref a/\H1 a=some (.ins C dx fs)/\Cls X.K C/\yf X.K C m g/\fs.lookup m=none/\
   ∀s1,Inv X pins σ H1 s1->wpAny (model X.prog X.w) X.A (callWith pos (.ref g) [.ref a] (backTo pos (starEach args X.env)) (backToKw pos (keywordEach [] X.env))) Q X.xe s1)
  (ht:eval (.Call (.Attribute e m apos) args [] pos) X.env=(do
   let ov<-eval e X.env
   standAt apos.atName
   let (f,first)<-holding [ov] (getMethod ov m pl)
   callWith pos f first (backTo pos (starEach args X.env)) (backToKw pos (keywordEach [] X.env)))) :
  wpAny (model X.prog X.w) X.A (eval (.Call (.Attribute e m apos) args [] pos) X.env) Q X.xe s:=by
 refine PySem.W.methodCall_KW (pl:=pl) (thn (he pins s σ H _ I h) fun u s1 ⟨x,H1,I1,rx,a,C,dx,fs,g,ex,ea,c,k,l,q⟩=>?_) ht
 subst ex;obtain rfl:u=Value.ref a:=rx;exact jn I1 ea c k l (q s1 I1)
end
end L2
namespace L2
open PySem PySem.Spec PyProof.Rows
structure Room(k:Nat)(A:Around):Prop where
 hd:A.handled=none
 dp:A.depth+3 * k+5<recursionLimit
 un:A.units+16 * k+200<cLine
theorem Room.mono{j k:Nat}{A:Around}(r:Room k A)(h:j<=k):Room j A:=⟨r.hd,by have:=r.dp;omega,by have:=r.un;omega⟩
theorem Room.deeper{k:Nat}{A:Around}(r:Room (k+1) A)(env:Env):Room k (A.deeper env):=
 ⟨r.hd,by have:=r.dp;show A.depth+1+3 * k+5<_;omega,by have:=r.un;show A.units+3+16 * k+200<_;omega⟩
theorem vL{A:Around}{C:Addr}{us:List Value}{kw:List (Str×Value)}:(A.under (.builtin "type.__call__" ⟨.ref C::us,kw⟩)).depth=A.depth+1:=by
 first | rfl | simp[Around.under,Code.weight,Code.isCreation,Code.isGuard,Code.isCaller,Code.frames,Code.isFrame,guardIds]
theorem vP{A:Around}{C:Addr}{us:List Value}{kw:List (Str×Value)}:(A.under (.builtin "type.__call__" ⟨.ref C::us,kw⟩)).units=A.units+1:=by
 first | rfl | simp[Around.under,Code.cUnits,Code.frames,Code.isFrame]
theorem Room.make{k:Nat}{A:Around}(r:Room (k+1) A)(C:Addr)(us:List Value)(kw:List (Str×Value)):Room k (A.under (.builtin "type.__call__" ⟨.ref C::us,kw⟩)):=
 ⟨r.hd,by have:=r.dp;rw[vL];omega,by have:=r.un;rw[vP];omega⟩
theorem Room.depth{k:Nat}{A:Around}(r:Room k A):A.depth<recursionLimit:=by have:=r.dp;omega
theorem Room.units{k:Nat}{A:Around}(r:Room k A):A.units+64<cLine:=by have:=r.un;omega
def jz:TA:=fun _ H Q=>Q [] H
def gC(ta:TE)(tr:TA):TA:=fun σ H Q=>ta σ H fun x H1=>tr σ H1 fun xs H2=>Q (x::xs) H2
section
variable{X:Cx}{e:Expr}{es:List Expr}{te:TE}{t:TA}{pos:Pos}
theorem a5:PA X [] jz:=fun _ _ _ _ H Q I h=>Calls.spliced_nil ⟨[],H,I,.nil,h⟩
theorem a0(ha:PE X e te)(hr:PA X es t)(hs:starEach (e::es) X.env=(false,eval e X.env)::starEach es X.env:=by rfl):PA X (e::es) (gC te t):=by
 intro pos pins s σ H Q I h;rw[hs];show wpAny _ _ (spliced ((false,eval e X.env)::backTo pos (starEach es X.env))) _ _ s;refine Calls.spliced_cons (thn (ha pins s σ H _ I h) fun u s1 ⟨x,H1,I1,r1,q1⟩=>?_)
 exact thn (hr pos pins s1 σ H1 _ I1 q1) fun us s2 ⟨xs,H2,I2,r2,q2⟩=>⟨x::xs,H2,I2,.cons r1 r2,q2⟩
def uk(t:TA):TE:=fun σ H Q=>t σ H fun xs H1=>xs.length<=sizeLine/\∀p,H1 p=none->Q (.ref p) (upd H1 p (.tup xs))
def Iq(t:TA):TE:=fun σ H Q=>t σ H fun xs H1=>xs.length<=sizeLine/\∀p,H1 p=none->Q (.ref p) (upd H1 p (.lst xs))
theorem bc{x1}(h:PA X es t):PE X (.Tuple es x1 pos) (uk t):=by
 intro pins s σ H Q I hq;refine wpAny_Tuple_spliced (thn (h pos pins s σ H _ I hq) fun us s1 ⟨xs,H1,I1,r,z,q⟩=>⟨by rw[<-r.length];exact z,?_⟩)
 have hf:H1 s1.heap.objs.size=none:=I1.hok.fresh (Nat.le_refl _);refine⟨.ref s1.heap.objs.size,upd H1 s1.heap.objs.size (.tup xs),I1.laid (t':=s1.toks) (fun b u e=>Heap.get?_push_of_some _ e) (Nat.le_refl _) ?_,rfl,q _ hf⟩
 exact⟨z,us,r,⟨_,Heap.get?_push_size _ rfl,rfl,_,rfl⟩⟩
theorem b9(h:PA X es t):PE X (.List es pos) (Iq t):=by
 intro pins s σ H Q I hq;refine wpAny_List_spliced (thn (h pos pins s σ H _ I hq) fun us s1 ⟨xs,H1,I1,r,z,q⟩=>⟨by rw[<-r.length];exact z,?_⟩)
 have hf:H1 s1.heap.objs.size=none:=I1.hok.fresh (Nat.le_refl _);refine⟨.ref s1.heap.objs.size,upd H1 s1.heap.objs.size (.lst xs),I1.laid (t':=s1.toks) (fun b u e=>Heap.get?_push_of_some _ e) (Nat.le_refl _) ?_,rfl,q _ hf⟩
 exact⟨z,us,0,r,Heap.get?_push_size _ rfl⟩
end
abbrev Sp:=List V->Hp->VK->XK->Prop
abbrev CXT:=List Env->Hp->Shared->XK->Value->Shared->Prop
structure vO(P:Program)(w:World)(K:PySem.W.Frag)(mg:Str->Option Value)(base:Heap)(A:Around)(outer:List Env)(s:Shared)(H:Hp):Prop where
 frames:A.frames=some outer
 mod:Mod K mg base
 bs:∀b o,base.get? b=some o->s.heap.get? b=some o/\H b=none
 bsz:base.objs.size<=s.heap.objs.size
 funs:s.heap.FunFrames base outer
 frf:∀b∈frs outer,H b=none
 hok:HOk P w H s.heap
 bare:AllBare s.gens
def CE(outer:List Env)(P:Program)(w:World)(H:Hp)(s:Shared)(Q:VK)(u:Value)(s':Shared):Prop:=
 ∃v H',s'.os=s.os/\AllBare s'.gens/\Un (frs outer) [] H H' s.heap s'.heap/\HOk P w H' s'.heap/\b8 v u/\Q v H'
def CR(CX:CXT)(outer:List Env)(P:Program)(w:World)(H:Hp)(s:Shared)(Q:VK)(E:XK)(r:Result)(s':Shared):Prop:=
 match r with
 |.ok (.ret u)=>CE outer P w H s Q u s'
 |.ok _=>False
 |.error e=>CX outer H s E e s'
structure aT(P:Program)(w:World)(K:PySem.W.Frag)(mg:Str->Option Value)(base:Heap)(CX:CXT)(k:Nat)(f:Addr)(fd:FuncData)(ps:List Str)(sp:Sp):Prop where
 len:∀vs H Q E,sp vs H Q E->vs.length=ps.length
 run:∀(A:Around) (outer:List Env) (s:Shared) (H:Hp) (args:Args) (us:List Value) (vs:List V) (Q:VK) (E:XK),Room k A->vO P w K mg base A outer s H->BindsTo s fd args (ps.zip us)->aY vs us->sp vs H Q E->
  codeAny (model P w) A (.call (.ref f) args) (CR CX outer P w H s Q E) s
theorem vO.make{P:Program}{w:World}{K:PySem.W.Frag}{mg:Str->Option Value}{base:Heap}{A:Around}{outer:List Env}{s:Shared}{H:Hp}(e:vO P w K mg base A outer s H)(C:Addr)(us:List Value)(kw:List (Str×Value)) :
  vO P w K mg base (A.under (.builtin "type.__call__" ⟨.ref C::us,kw⟩)) outer s H:=⟨by first | exact e.frames | (simpa [Around.under,Code.envs,Code.isFrame,pushEnvs] using e.frames),e.mod,e.bs,e.bsz,e.funs,e.frf,e.hok,e.bare⟩
section
variable{X:Cx}{pins:List (Addr×Obj)}{σ:St}{H:Hp}{s s':Shared}
theorem Inv.env0(I:Inv X pins σ H s):vO X.prog X.w X.K X.mg X.base X.A X.stack s H:=
 ⟨I.ok.frames,I.ok.mod,I.bs,Nat.le_trans I.ok.bsz I.sz,I.stack,I.stkFree,I.hok,I.bare⟩
theorem Inv.after{Q:VK}{u:Value}(I:Inv X pins σ H s)(h:CE X.stack X.prog X.w H s Q u s'):EP X pins σ Q u s':=by
 obtain⟨v,H',os,bare,un,hok,r,q⟩:=h;obtain⟨hh,g,d,t,os'⟩:=s';obtain rfl:os'=s.os:=os;exact⟨v,H',I.call (h':=hh) (g':=g) (d':=d) (t':=t) (ch:=[]) un hok bare (fun b z=>absurd z (by simp)),r,q⟩
end
def p9(sp:Sp)(dvs:List V)(E:XK)(t:TA):TE:=fun σ H Q=>t σ H fun vs H1=>sp (vs++dvs) H1 Q E
def ES(C:Addr)(m:Str)(sp:Sp)(dvs:List V)(E:XK)(ta:TE)(t:TA):TE:=fun σ H Q=>ta σ H fun x H1=>∃a dx fs,x=.ref a/\H1 a=some (.ins C dx fs)/\fs.lookup m=none/\
 t σ H1 fun vs H2=>sp (x::(vs++dvs)) H2 Q E
def Ad(C:Addr)(sp:Sp)(dvs:List V)(E:XK)(t:TA):TE:=fun σ H Q=>t σ H fun vs H1=>∀x dx,H1 x=none->H1 dx=none->dx≠x->
 sp (.ref x::(vs++dvs)) (upd (upd H1 dx (.own x)) x (.ins C dx [])) (fun v H2=>v=.non/\Q (.ref x) H2) E
def gx(K:PySem.W.Frag)(fd:FuncData)(ps:List Str)(ds:List Value):Prop:=
 ∀(s:Shared) (us:List Value),K.In s.heap->(us++ds).length=ps.length->BindsTo s fd ⟨us,[]⟩ (ps.zip (us++ds))
theorem gx.all{K:PySem.W.Frag}{fd:FuncData}{ps:List Str}(h:∀us:List Value,us.length=ps.length->bindArgs fd ⟨us,[]⟩=pure (ps.zip us)):gx K fd ps []:=fun s us _ hl=>by
 rw[List.append_nil] at hl ⊢;exact .of_eq (h us hl)
def iw(CX:CXT)(X:Cx)(E:XK):Prop:=∀(pins:List (Addr×Obj)) (σ:St) (H:Hp) (s:Shared) (e:Value) (s':Shared),Inv X pins σ H s->CX X.stack H s E e s'->X.xe e s'
section
variable{X:Cx}{CX:CXT}{k:Nat}{f C:Addr}{fd:FuncData}{ps:List Str}{sp:Sp}{dvs:List V}{ds:List Value}{E:XK}{x m:Str}{p pos apos:Pos}{e o:Expr}{es:List Expr}{ta:TE}{t:TA}
theorem qo{pins:List (Addr×Obj)}{σ:St}{H:Hp}{s:Shared}{Q:VK}{us:List Value}{vs:List V}(F:aT X.prog X.w X.K X.mg X.base CX k f fd ps sp)(hr:Room k X.A)(hb:gx X.K fd ps ds)(hd:aY dvs ds)(hx:iw CX X E)
  (I:Inv X pins σ H s) (r:aY vs us) (h:sp (vs++dvs) H Q E):wpAny (model X.prog X.w) X.A (call (.ref f) us) (EP X pins σ Q) X.xe s:=by
 have r2:aY (vs++dvs) (us++ds):=r.append hd;have hl:(us++ds).length=ps.length:=by rw[<-r2.length];exact F.len _ _ _ _ h
 refine wpAny_call (codeAny_mono (F.run X.A X.stack s H ⟨us,[]⟩ (us++ds) (vs++dvs) Q E hr I.env0 (hb s us I.kIn hl) r2 h) fun r s' hq=>?_)
 cases r with
 |error e=>exact hx pins σ H s e s' I hq
 |ok fl=>
  cases fl with
  |ret u=>exact I.after hq
  |next=>exact False.elim hq
  |brk=>exact False.elim hq
  |cont=>exact False.elim hq
theorem BZ(F:aT X.prog X.w X.K X.mg X.base CX k f fd ps sp)(hr:Room k X.A)(hg:Gl X x)(hm:X.mg x=some (.ref f))(hk:PySem.W.keepIn X.K (.ref f)=true)(hb:gx X.K fd ps ds)(hd:aY dvs ds)(hx:iw CX X E)
  (ha:PA X (e::es) t) (hdb:(x==("__debug__" : Str))=false:=by decide) (he:starEach (e::es) X.env=(false,eval e X.env)::starEach es X.env:=by rfl) (hpl:(backTo pos (starEach es X.env)).any (·.1)=false:=by rfl) :
  PE X (.Call (.Name x p) (e::es) [] pos) (p9 sp dvs E t):=by
 intro pins s σ H Q I h;refine wpAny_Call_Name_kw (lU I hg hm ?_ hdb);refine PySem.W.callWith_K (h₀:=X.base) I.ok.mod.kin hk (thn (ha pos pins s σ H _ I h) fun us s1 ⟨vs,H1,I1,r,q⟩=>⟨I1.kIn,?_⟩) he hpl
 exact qo F hr hb hd hx I1 r q
theorem Br(F:aT X.prog X.w X.K X.mg X.base CX k f fd ps sp)(hr:Room k X.A)(hg:Gl X x)(hm:X.mg x=some (.ref f))(hk:PySem.W.keepIn X.K (.ref f)=true)(hb:gx X.K fd ps ds)(hd:aY dvs ds)(hx:iw CX X E)
  (hdb:(x==("__debug__" : Str))=false:=by decide):PE X (.Call (.Name x p) [] [] pos) (p9 sp dvs E jz):=by
 intro pins s σ H Q I h;refine wpAny_Call_Name_kw (lU I hg hm ?_ hdb);exact PySem.W.callWith_K0 I.kIn hk (qo (us:=[]) F hr hb hd hx I .nil h)
theorem cJ{pl:Sem Bool}(he:PE X o ta)(c:Cls X.K C)(hm:yf X.K C m f)(F:aT X.prog X.w X.K X.mg X.base CX k f fd ps sp)(hr:Room k X.A)(hb:gx X.K fd ps ds)(hd:aY dvs ds)(hx:iw CX X E)(ha:PA X (e::es) t)
  (hst:starEach (e::es) X.env=(false,eval e X.env)::starEach es X.env:=by rfl) (hpl:(backTo pos (starEach es X.env)).any (·.1)=false:=by rfl)
  (ht:eval (.Call (.Attribute o m apos) (e::es) [] pos) X.env=(do
   let ov<-eval o X.env
   standAt apos.atName
   let (f,first)<-holding [ov] (getMethod ov m pl)
   callWith pos f first (backTo pos (starEach (e::es) X.env)) (backToKw pos (keywordEach [] X.env))):=by rfl) :
  PE X (.Call (.Attribute o m apos) (e::es) [] pos) (ES C m sp dvs E ta t):=by
 intro pins s σ H Q I h;refine PySem.W.methodCall_KW (pl:=pl) (thn (he pins s σ H _ I h) fun u s1 ⟨x,H1,I1,rx,a,dx,fs,ex,ea,l,q⟩=>?_) ht
 subst ex;obtain rfl:u=Value.ref a:=rx;refine jn I1 ea c hm l ?_;refine PySem.W.callWith_K (first:=[.ref a]) (h₀:=X.base) I.ok.mod.kin hm.kp (thn (ha pos pins s1 σ H1 _ I1 q) fun us s2 ⟨vs,H2,I2,r,q2⟩=>⟨I2.kIn,?_⟩) hst hpl
 exact qo (us:=.ref a::us) (vs:=.ref a::vs) F hr hb hd hx I2 (.cons rfl r) q2
theorem zV{pl:Sem Bool}(he:PE X o ta)(c:Cls X.K C)(hm:yf X.K C m f)(F:aT X.prog X.w X.K X.mg X.base CX k f fd ps sp)(hr:Room k X.A)(hb:gx X.K fd ps ds)(hd:aY dvs ds)(hx:iw CX X E)
  (ht:eval (.Call (.Attribute o m apos) [] [] pos) X.env=(do
   let ov<-eval o X.env
   standAt apos.atName
   let (f,first)<-holding [ov] (getMethod ov m pl)
   callWith pos f first (backTo pos (starEach [] X.env)) (backToKw pos (keywordEach [] X.env))):=by rfl) :
  PE X (.Call (.Attribute o m apos) [] [] pos) (ES C m sp dvs E ta jz):=by
 intro pins s σ H Q I h;refine PySem.W.methodCall_KW (pl:=pl) (thn (he pins s σ H _ I h) fun u s1 ⟨x,H1,I1,rx,a,dx,fs,ex,ea,l,q⟩=>?_) ht
 subst ex;obtain rfl:u=Value.ref a:=rx;refine jn I1 ea c hm l ?_;exact PySem.W.callWith_K0 (first:=[.ref a]) I1.kIn hm.kp (qo (us:=[.ref a]) (vs:=[.ref a]) F hr hb hd hx I1 (.cons rfl .nil) q)
structure Mk(K:PySem.W.Frag)(C f:Addr):Prop where
 makes:PySem.W.makesIn K C=true
 init:PySem.W.findIn K (.ref C) "__init__" = some (some (.ref f))
 fn:PySem.W.isFn K (.ref f)=true
 kp:PySem.W.keepIn K (.ref C)=true
theorem BM{pins:List (Addr×Obj)}{σ:St}{H:Hp}{s:Shared}{Q:VK}{us:List Value}{vs:List V}(M:Mk X.K C f)(F:aT X.prog X.w X.K X.mg X.base CX k f fd ps sp)(hr:Room (k+1) X.A)(hb:gx X.K fd ps ds)(hd:aY dvs ds)
  (hx:iw CX X E) (I:Inv X pins σ H s) (r:aY vs us)
  (h:∀x dx,H x=none->H dx=none->dx≠x->sp (.ref x::(vs++dvs)) (upd (upd H dx (.own x)) x (.ins C dx [])) (fun v H2=>v=.non/\Q (.ref x) H2) E) :
  wpAny (model X.prog X.w) X.A (call (.ref C) us) (EP X pins σ Q) X.xe s:=by
 have hq:=h (s.heap.objs.size+1) s.heap.objs.size (I.hok.fresh (Nat.le_succ _)) (I.hok.fresh (Nat.le_refl _)) (Nat.ne_of_lt (Nat.lt_succ_self _));have I2:=Inv.made (C:=C) I;have r2:aY (V.ref (s.heap.objs.size+1)::(vs++dvs)) (Value.ref (s.heap.objs.size+1)::(us++ds)):=.cons rfl (r.append hd);have hl:(Value.ref (s.heap.objs.size+1)::us++ds).length=ps.length:=by
  have e:=r2.length;rw[F.len _ _ _ _ hq] at e;exact e.symm
 refine wpAny_call (Ap (f:=f) I.kIn M.makes M.init (beq_iff_eq.mp M.fn) (codeAny_mono (F.run _ X.stack _ _ ⟨Value.ref (s.heap.objs.size+1)::us,[]⟩ (Value.ref (s.heap.objs.size+1)::(us++ds)) _ _ E (hr.make C us [])
  (I2.env0.make C us []) (hb _ (Value.ref (s.heap.objs.size+1)::us) I2.kIn hl) r2 hq) fun r s' hq'=>?_))
 cases r with
 |error e=>exact hx pins σ _ _ e s' I2 hq'
 |ok fl=>
  cases fl with
  |ret u=>
   obtain⟨v,H',I3,rv,ev,q3⟩:=I2.after hq';subst ev;exact⟨rv,⟨V.ref (s.heap.objs.size+1),H',I3,rfl,q3⟩⟩
  |next=>exact False.elim hq'
  |brk=>exact False.elim hq'
  |cont=>exact False.elim hq'
theorem Eo(M:Mk X.K C f)(F:aT X.prog X.w X.K X.mg X.base CX k f fd ps sp)(hr:Room (k+1) X.A)(hg:Gl X x)(hm:X.mg x=some (.ref C))(hb:gx X.K fd ps ds)(hd:aY dvs ds)(hx:iw CX X E)
  (ha:PA X (e::es) t) (hdb:(x==("__debug__" : Str))=false:=by decide) (he:starEach (e::es) X.env=(false,eval e X.env)::starEach es X.env:=by rfl) (hpl:(backTo pos (starEach es X.env)).any (·.1)=false:=by rfl) :
  PE X (.Call (.Name x p) (e::es) [] pos) (Ad C sp dvs E t):=by
 intro pins s σ H Q I h;refine wpAny_Call_Name_kw (lU I hg hm ?_ hdb);refine PySem.W.callWith_K (h₀:=X.base) I.ok.mod.kin M.kp (thn (ha pos pins s σ H _ I h) fun us s1 ⟨vs,H1,I1,r,q⟩=>⟨I1.kIn,?_⟩) he hpl
 exact BM M F hr hb hd hx I1 r q
end
structure au(N P:List Str)(sc:Scope):Prop where
 kind:sc.kind=.function
 co:sc.isCoroutine=false
 gen:sc.isGenerator=false
 nd:N.Nodup
 pre:N.take P.length=P
 par:∀x∈P,sc.names.lookup x=some .local\/sc.names.lookup x=some .cell
 nofree:∀y∈sc.names,y.2≠.free
theorem pE{kindOf:Str->Option NameKind}{x:Str}:∀{binds:List (Str×Value)}{m:Str->Option Value},(∀v,(x,v) ∉ binds)->bindL kindOf binds m x=m x
 |[],_,_=>rfl
 |(n,v)::r,m,h=>by
  unfold bindL;rw[pE fun w hw=>h w (List.mem_cons_of_mem _ hw)]
  split
  ·have:x≠n:=by rintro rfl;exact h v List.mem_cons_self
   simp[this]
  ·rfl
theorem oZ{kindOf:Str->Option NameKind}{x:Str}:∀{binds:List (Str×Value)}{m:Str->Option Value},(∀v,(x,v) ∉ binds)->bindC kindOf binds m x=m x
 |[],_,_=>rfl
 |(n,v)::r,m,h=>by
  unfold bindC;rw[oZ fun w hw=>h w (List.mem_cons_of_mem _ hw)]
  split
  ·rfl
  ·have:x≠n:=by rintro rfl;exact h v List.mem_cons_self
   simp[this]
theorem qa{kindOf:Str->Option NameKind}{x:Str}{v:Value}:∀{P:List Str}{vs:List Value}{i:Nat}{m:Str->Option Value},P.Nodup->P[i]?=some x->vs[i]?=some v->kindOf x=some .local->
  bindL kindOf (P.zip vs) m x=some v
 |[],_,_,_,_,h,_,_=>by simp at h
 |_::_,[],_,_,_,_,h,_=>by simp at h
 |p::P,w::vs,0,m,nd,h1,h2,hk=>by
  simp at h1 h2;subst h1;subst h2;show bindL kindOf ((p,w)::P.zip vs) m p=_;unfold bindL;rw[pE fun v hv=>(List.nodup_cons.mp nd).1 (List.of_mem_zip hv).1,if_pos hk]
  simp
 |p::P,w::vs,i+1,m,nd,h1,h2,hk=>by
  show bindL kindOf ((p,w)::P.zip vs) m x=_;unfold bindL;exact qa (i:=i) (List.nodup_cons.mp nd).2 (by simpa using h1) (by simpa using h2) hk
theorem qf{kindOf:Str->Option NameKind}{x:Str}{v:Value}:∀{P:List Str}{vs:List Value}{i:Nat}{m:Str->Option Value},P.Nodup->P[i]?=some x->vs[i]?=some v->kindOf x≠some .local->
  bindC kindOf (P.zip vs) m x=some v
 |[],_,_,_,_,h,_,_=>by simp at h
 |_::_,[],_,_,_,_,h,_=>by simp at h
 |p::P,w::vs,0,m,nd,h1,h2,hk=>by
  simp at h1 h2;subst h1;subst h2;show bindC kindOf ((p,w)::P.zip vs) m p=_;unfold bindC;rw[oZ fun v hv=>(List.nodup_cons.mp nd).1 (List.of_mem_zip hv).1,if_neg hk]
  simp
 |p::P,w::vs,i+1,m,nd,h1,h2,hk=>by
  show bindC kindOf ((p,w)::P.zip vs) m x=_;unfold bindC;exact qf (i:=i) (List.nodup_cons.mp nd).2 (by simpa using h1) (by simpa using h2) hk
noncomputable def lC(N:List Str)(vs:List V):St:=vs.map some++List.replicate (N.length-vs.length) none
noncomputable def yV(CX:CXT)(P:Program)(w:World)(K:PySem.W.Frag)(mg:Str->Option Value)(base:Heap)(N:List Str)(qual:Str)(scope:Scope)(f:Addr)(cd:Value)(A:Around)(outer:List Env)(s:Shared)(H:Hp)(E:XK):Cx where
 prog:=P
 w:=w
 K:=K
 mg:=mg
 base:=base
 A:=A.deeper (envOfC qual scope s.heap.objs.size f cd)
 N:=N
 s_0:=s
 H_0:=H
 env:=envOfC qual scope s.heap.objs.size f cd
 outer:=outer
 stack:=envOfC qual scope s.heap.objs.size f cd::outer
 ex:=[]
 calm:=true
 fn:=fun _=>true
 pn:=[]
 xe:=fun e s'=>wpAny (model P w) (A.deeper (envOfC qual scope s.heap.objs.size f cd)) (leaving (envOfC qual scope s.heap.objs.size f cd) e) (fun _ s''=>CX outer H s E e s'') (fun e' s''=>CX outer H s E e' s'') s'
theorem rY{sc:Scope}{n:Nat}{x:Str}(h:sc.names.lookup x=some .cell):∃c,(cellsFrom n sc.names []).lookup x=some c:=by
 have q:=PySem.W.cellsFrom_some sc.names n [] (.inl h);exact Option.isSome_iff_exists.mp q
theorem zd{CX:CXT}{P:Program}{w:World}{K:PySem.W.Frag}{mg:Str->Option Value}{base:Heap}{N ps:List Str}{qual:Str}{scope:Scope}{f:Addr}{cd:Value}{A:Around}{outer:List Env}{s s1:Shared}{H:Hp}{E:XK}{us:List Value}{vs:List V}
  (S:au N ps scope) (hd:A.handled=none) (e0:vO P w K mg base A outer s H) (hl:vs.length=ps.length) (r:aY vs us)
  (x:InCallC s s.heap.objs.size (bindL (envOfC qual scope s.heap.objs.size f cd).kindOf (ps.zip us) fun _=>none) (cellsFrom (s.heap.objs.size+1) scope.names []) (bindC (envOfC qual scope s.heap.objs.size f cd).kindOf (ps.zip us) fun _=>none) s1) :
  Inv (yV CX P w K mg base N qual scope f cd A outer s H E) [] (lC N vs) H s1:=by
 have hpl:ps.length<=N.length:=by have:=congrArg List.length S.pre;rw[List.length_take] at this;omega
 obtain⟨h1,tk,rfl,hk⟩:=x.done;have noA:∀b:Addr,b ∉ (yV CX P w K mg base N qual scope f cd A outer s H E).ex:=fun b z=>absurd (show b∈([]:List Addr) from z) (by simp)
 refine⟨⟨e0.mod,S.kind,rfl,rfl,Nat.le_refl _,fun y z c h1 h2=>?_,fun y hy=>?_,fun y c _ h=>?_,fun _=>hd,Around.frames_deeper e0.frames,.inr ⟨rfl,rfl⟩,fun b z=>absurd z (noA b),e0.bs,e0.bsz,fun b _ _=>noA b,fun b z=>absurd z (noA b),e0.funs,e0.frf⟩,
  rfl,e0.bare,Un.kept hk,⟨_,x.toInCall.ns,fun i y v h1 h2 h3=>?_⟩,fun y c h=>⟨_,x.cell y c h⟩,e0.hok.fresh (Nat.le_refl _),fun y c h=>?_,fun p hp=>absurd (show p∈([]:List (Addr×Obj)) from hp) (by simp),e0.hok.kept hk,?_⟩
 ·exact name_of_addr x.apart (PySem.mem_of_lookup h1) (PySem.mem_of_lookup h2)
 ·have hy:scope.names.lookup y=some .cell\/scope.names.lookup y=some .free:=hy;rcases hy with hy | hy
  ·exact rY hy
  ·exact absurd rfl (S.nofree _ (PySem.mem_of_lookup hy))
 ·exact Nat.le_of_lt (x.above y c (PySem.mem_of_lookup h))
 ·have hi:i<vs.length:=by
   unfold lC at h2;by_cases hi:i<vs.length
   ·exact hi
   ·rw[List.getElem?_append_right (by simpa using hi)] at h2
    rw[List.getElem?_replicate] at h2;split at h2<;>cases h2
  have ha:vs[i]?=some v:=by
   unfold lC at h2;rw[List.getElem?_append_left (by simpa using hi),List.getElem?_map] at h2
   cases e:vs[i]? with
   |none=>rw[e] at h2;cases h2
   |some a=>rw[e] at h2;cases h2;rfl
  obtain⟨u,hu,rv⟩:=r.get ha;have hp:ps[i]?=some y:=by
   rw[<-S.pre,List.getElem?_take_of_lt (by omega)];exact h1
  have ndP:ps.Nodup:=by rw[<-S.pre];exact S.nd.sublist (List.take_sublist _ _)
  refine⟨u,rv,?_⟩;rcases S.par y (List.mem_of_getElem? hp) with k | k
  ·exact .inl ⟨k,qa ndP hp hu k⟩
  ·obtain⟨c,e⟩:=rY (n:=s.heap.objs.size+1) k;refine .inr ⟨.inl k,c,e,?_⟩;have q:=x.cell y c e;rw[qf ndP hp hu (by show scope.names.lookup y≠_;rw[k];decide)] at q
   exact q
 ·exact e0.hok.fresh (Nat.le_of_lt (x.above y c (PySem.mem_of_lookup h)))
 ·unfold lC;show _=N.length;rw[List.length_append,List.length_map,List.length_replicate];omega
theorem IF{CX:CXT}{P:Program}{w:World}{K:PySem.W.Frag}{mg:Str->Option Value}{base:Heap}{k:Nat}{f:Addr}{name qual:Str}{params:Arguments}{body:List Stmt}{scope:Scope}{dV kV doc pm cdv ct oc:Value}{an od:Option Addr}
  {osl:Array (Option Value)} {N ps:List Str} {sp:Sp} (lk:K.lookup f=some ⟨oc,od,.func (PySem.W.fnOf name qual params body scope dV kV doc pm an cdv ct),osl⟩) (hcd:PySem.W.codeIn K cdv qual=true) (S:au N ps scope)
  (len:∀vs H Q E,sp vs H Q E->vs.length=ps.length)
  (hbody:∀(A:Around) (outer:List Env) (s:Shared) (H:Hp) (vs:List V) (Q:VK) (E:XK),Room k (A.deeper (envOfC qual scope s.heap.objs.size f cdv))->sp vs H Q E->
   ∃t,PSs (yV CX P w K mg base N qual scope f cdv A outer s H E) body t/\t { nx:=fun _ H'=>Q .non H',rt:=Q } (lC N vs) H) :
  aT P w K mg base CX (k+1) f (PySem.W.fnOf name qual params body scope dV kV doc pm an cdv ct) ps sp:=by
 refine⟨len,fun A outer s H args us vs Q E hr e0 hb r hsp=>?_⟩
 have hl:=len _ _ _ _ hsp;have KX:K.In s.heap:=e0.mod.kin.keeps fun b o e=>(e0.bs b o e).1
 have lim:s.heap.NoLimit:=e0.mod.nolimit.keeps fun b o e=>(e0.bs b o e).1
 have hkind:∀y∈ps.zip us,scope.names.lookup y.1=some .local\/(scope.names.lookup y.1=some .cell/\((cellsFrom (s.heap.objs.size+1) scope.names []).lookup y.1).isSome=true):=fun⟨n,v⟩ hy=>by
  rcases S.par n (List.of_mem_zip hy).1 with q | q
  ·exact .inl q
  ·exact .inr ⟨q,PySem.W.cellsFrom_some _ _ _ (.inl q)⟩
 refine codeAny_call_function hr.depth (KX _ _ lk) rfl S.co S.gen rfl (PySem.W.codeRec_of KX hcd) (hb _ _ _ _ ?_);refine wpAny_newFunctionEnv_cells S.kind hkind fun env he s1 x=>?_
 subst he;refine⟨lim.keeps x.toInCall.keep,codeAny_func ?_⟩;obtain⟨t,ht,hq⟩:=hbody A outer s H vs Q E (hr.deeper _) hsp;have I:Inv (yV CX P w K mg base N qual scope f cdv A outer s H E) [] (lC N vs) H s1:=zd S hr.hd e0 hl r x;refine wpAny_mono (ht [] s1 (lC N vs) H _ I hq) (fun fl s' hs=>?_) fun e s' hs=>hs
 have fin:∀{σ':St} {H':Hp} {v:V} {u:Value},Inv (yV CX P w K mg base N qual scope f cdv A outer s H E) [] σ' H' s'->b8 v u->Q v H'->CE outer P w H s Q u s':=
  fun {σ' H' v u} J rv q=>⟨v,H',J.os,J.bare,J.base,J.hok,rv,q⟩
 cases fl with
 |ret u=>
  obtain⟨v,σ',H',J,rv,q⟩:=hs;exact fin J rv q
 |next=>
  obtain⟨σ',H',J,q⟩:=hs;exact fin (v:=V.non) (u:=Value.none) J rfl q
 |brk=>
  obtain⟨_,_,_,q⟩:=hs;exact False.elim q
 |cont=>
  obtain⟨_,_,_,q⟩:=hs;exact False.elim q
end L2
namespace L2
open PySem PySem.Spec PyProof.Rows
section
variable{X:Cx}{x:Str}{p pos:Pos}{e:Expr}{es:List Expr}{t:TA}{id T:String}{r:List V->Hp->VK->Prop}
def tCB(r:List V->Hp->VK->Prop)(t:TA):TE:=fun σ H Q=>t σ H fun vs H1=>r vs H1 Q
theorem b6(hc:gI X (.builtin id) r)(hg:Gl X x)(hm:X.mg x=none)(hv:bootBuiltins x=some (.builtin id))(ha:PA X (e::es) t)(hn:x ≠ "__name__" := by decide)(hdb:(x==("__debug__" : Str))=false:=by decide)
  (he:starEach (e::es) X.env=(false,eval e X.env)::starEach es X.env:=by rfl) (hpl:(backTo pos (starEach es X.env)).any (·.1)=false:=by rfl):PE X (.Call (.Name x p) (e::es) [] pos) (tCB r t):=by
 intro pins s σ H Q I h;refine wpAny_Call_Name_kw (iY I hg hm hv ?_ hn hdb);exact PyProof.Rows.callWith_builtin1 (thn (ha pos pins s σ H _ I h) fun us s1 ⟨vs,H1,I1,r1,q1⟩=>hc pins s1 σ H1 vs us Q I1 r1 q1) he hpl
theorem j9(hc:gI X (.type T) r)(hg:Gl X x)(hm:X.mg x=none)(hv:bootBuiltins x=some (.type T))(ha:PA X (e::es) t)(hn:x ≠ "__name__" := by decide)(hdb:(x==("__debug__" : Str))=false:=by decide)
  (he:starEach (e::es) X.env=(false,eval e X.env)::starEach es X.env:=by rfl) (hpl:(backTo pos (starEach es X.env)).any (·.1)=false:=by rfl):PE X (.Call (.Name x p) (e::es) [] pos) (tCB r t):=by
 intro pins s σ H Q I h;refine wpAny_Call_Name_kw (iY I hg hm hv ?_ hn hdb);exact PyProof.Rows.callWith_type1 (thn (ha pos pins s σ H _ I h) fun us s1 ⟨vs,H1,I1,r1,q1⟩=>hc pins s1 σ H1 vs us Q I1 r1 q1) he hpl
end
end L2
namespace HT
open PySem PyProof.Rows
section
variable{prog:Program}{w:World}{A:Around}{E:Value->Shared->Prop}{s:Shared}
noncomputable def sIx(n d:Nat):Option Int->Nat
 |none=>d
 |some v=>if v<0 then(v+(n:Int)).toNat else min v.toNat n
theorem sIx_none(n d:Nat):sIx n d none=d:=rfl
theorem sIx_nat(n d k:Nat):sIx n d (some (k:Int))=min k n:=by
 show(if(k:Int)<0 then((k:Int)+(n:Int)).toNat else min (k:Int).toNat n)=min k n
 rw[if_neg (by omega),Int.toNat_natCast]
end
end HT
namespace L2
open PySem PySem.Spec PyProof.Rows
abbrev TO:=St->Hp->(Option Int->Hp->Prop)->Prop
def PO(X:Cx)(e:Option Expr)(t:TO):Prop:=
 ∀(pins:List (Addr×Obj)) (s:Shared) (σ:St) (H:Hp) (Q:Option Int->Hp->Prop),Inv X pins σ H s->t σ H Q->
  wpAny (model X.prog X.w) X.A (evalPart e X.env) (fun u s'=>∃o H',Inv X pins σ H' s'/\IsPart u o/\Q o H') X.xe s
def C1:TO:=fun _ H Q=>Q none H
def HL(t:TE):TO:=fun σ H Q=>t σ H fun x H1=>∃i,x=.int i/\Q (some i) H1
section
variable{X:Cx}{e:Expr}{te:TE}{lo hi:Option Expr}{tl th:TO}{pos p2:Pos}
theorem rR:PO X none C1:=by
 intro pins s σ H Q I h;rw[evalPart_none];exact wpAny_pure ⟨none,H,I,.none,h⟩
theorem fD(h:PE X e te):PO X (some e) (HL te):=by
 intro pins s σ H Q I hw;rw[evalPart_some];refine thn (h pins s σ H _ I hw) fun u s1 ⟨x,H1,I1,r1,q1⟩=>?_
 obtain⟨i,rfl,q⟩:=q1;obtain⟨t,rfl⟩:=r1;exact⟨some i,H1,I1,.int i t,q⟩
def SlR(X:Cx)(r:V->Option Int->Option Int->Hp->VK->Prop):Prop:=
 ∀(pins:List (Addr×Obj)) (s:Shared) (σ:St) (H:Hp) (x:V) (v vl vu:Value) (lo hi:Option Int) (sl:Addr) (Q:VK),Inv X pins σ H s->b8 x v->s.heap.IsSliceOf sl vl vu .none->IsPart vl lo->IsPart vu hi->r x lo hi H Q->
  ∃T id,typeLookup (.type T) "__getitem__" = pure (some (.builtin id))/\s.TypeIs v T/\wpAny (model X.prog X.w) X.A (getItem v (.ref sl)) (EP X pins σ Q) X.xe s
def tSl(r:V->Option Int->Option Int->Hp->VK->Prop)(te:TE)(tl th:TO):TE:=fun σ H Q=>te σ H fun x H1=>tl σ H1 fun l H2=>th σ H2 fun u H3=>r x l u H3 Q
theorem gB{r:V->Option Int->Option Int->Hp->VK->Prop}(hr:SlR X r)(he:PE X e te)(hl:PO X lo tl)(hu:PO X hi th):PE X (.Subscript e (.Slice lo hi none p2) pos) (tSl r te tl th):=by
 intro pins s σ H Q I h;refine Subscript_ (thn (he pins s σ H _ I h) fun v s1 ⟨x,H1,I1,r1,q1⟩=>?_)
 refine wpAny_Slice (thn (hl pins s1 σ H1 _ I1 q1) fun vl s2 ⟨l,H2,I2,pl,q2⟩=>thn (hu pins s2 σ H2 _ I2 q2) fun vu s3 ⟨u,H3,I3,pu,q3⟩=>?_)
 rw[evalPart_none];refine wpAny_pure ?_;have I4:Inv X pins σ H3 { s3 with heap:=s3.heap.push { cls:=.type "slice",data:=.fields #[vl,vu,.none] } }:=I3.kept (t':=s3.toks) fun b ob q=>Heap.get?_push_of_some _ q
 obtain⟨T,id,hT,ht,hg⟩:=hr pins { s3 with heap:=s3.heap.push { cls:=.type "slice",data:=.fields #[vl,vu,.none] } } σ H3 x v vl vu l u s3.heap.objs.size Q I4 r1 (Heap.IsSliceOf.new ..) pl pu q3
 show wpAny (model X.prog X.w) X.A (subscriptTail e (.Slice lo hi none p2) v (.ref s3.heap.objs.size)) (EP X pins σ Q) X.xe { s3 with heap:=s3.heap.push { cls:=.type "slice",data:=.fields #[vl,vu,.none] } }
 exact tail_any (ops:=[.ref s3.heap.objs.size,v]) ht hT hg (by with_unfolding_all rfl)
def ic(xs:List V)(lo hi:Option Int):List V:=(xs.drop (HT.sIx xs.length 0 lo)).take (HT.sIx xs.length xs.length hi-HT.sIx xs.length 0 lo)
theorem tK(xs:List V)(lo hi:Option Int):(ic xs lo hi).length<=xs.length:=by
 unfold ic;rw[List.length_take,List.length_drop];omega
end
end L2
namespace L2
open PySem PySem.Spec PyProof.Rows
noncomputable def ixN(n:Nat)(i:Int):Option Nat:=if 0<=i then(if i<n then some i.toNat else none) else if -(n:Int)<=i then some (i+n).toNat else none
def atI{α:Type}(xs:List α)(i:Int):Option α:=(ixN xs.length i).bind fun j=>xs[j]?
theorem wy{n:Nat}{i:Int}{j:Nat}(h:ixN n i=some j):seqIndex? i n=some j/\j<n/\-(n:Int)<=i/\i<n:=by
 unfold ixN at h;by_cases h0:0<=i
 ·rw[if_pos h0] at h;by_cases h1:i<n
  ·rw[if_pos h1] at h;have e:i.toNat=j:=Option.some.inj h;exact⟨by rw[seqIndex_of h0 h1,e],by omega,by omega,h1⟩
  ·rw[if_neg h1] at h;cases h
 ·rw[if_neg h0] at h;by_cases h1:-(n:Int)<=i
  ·rw[if_pos h1] at h;have e:(i+n).toNat=j:=Option.some.inj h;exact⟨by rw[seqIndex_neg (by omega) h1,e],by omega,h1,by omega⟩
  ·rw[if_neg h1] at h;cases h
theorem qu{α:Type}{xs:List α}{i:Int}{v:α}(h:atI xs i=some v):∃j,seqIndex? i xs.length=some j/\xs[j]?=some v/\j<xs.length/\-(xs.length:Int)<=i/\i<xs.length:=by
 unfold atI at h;cases e:ixN xs.length i with
 |none=>rw[e] at h;cases h
 |some j=>
  rw[e] at h;obtain⟨h1,h2,h3,h4⟩:=wy e;exact⟨j,h1,h,h2,h3,h4⟩
theorem da{α:Type}{xs:List α}{j:Nat}{v:α}(h:xs[j]?=some v):atI xs (j:Int)=some v:=by
 have hj:j<xs.length:=(List.getElem?_eq_some_iff.mp h).1;have e:ixN xs.length (j:Int)=some j:=by
  unfold ixN;rw[if_pos (by omega),if_pos (by omega)];simp
 unfold atI;rw[e];exact h
theorem A3{α:Type}(xs:List α)(v:α):atI (xs++[v]) (-1)=some v:=by
 have hl:(xs++[v]).length=xs.length+1:=by simp
 have e:ixN (xs++[v]).length (-1)=some xs.length:=by
  unfold ixN;rw[hl,if_neg (by decide),if_pos (by omega)]
  congr 1;omega
 unfold atI;rw[e];show(xs++[v])[xs.length]?=some v;simp
def Ca(b:Expr):Prop:=∀o i,subscripted b false o i=operate [o,i] (getItem o i)
def IxR(X:Cx)(r:R2):Prop:=
 ∀(value slice:Expr) (pins:List (Addr×Obj)) (s:Shared) (σ:St) (H:Hp) (x y:V) (v u:Value) (Q:VK),Inv X pins σ H s->b8 x v->b8 y u->r x y H Q->
  subscripted slice false v u=operate [v,u] (getItem v u)->wpAny (model X.prog X.w) X.A (subscriptTail value slice v u) (EP X pins σ Q) X.xe s
def MtR(X:Cx)(id:String)(r:V->List V->Hp->VK->Prop):Prop:=
 ∀(pins:List (Addr×Obj)) (s:Shared) (σ:St) (H:Hp) (x:V) (xs:List V) (v:Value) (us:List Value) (Q:VK),Inv X pins σ H s->b8 x v->aY xs us->r x xs H Q->
  wpAny (model X.prog X.w) X.A (call (.builtin id) (v::us)) (EP X pins σ Q) X.xe s
section
variable{X:Cx}{a b:Expr}{ta tb:TE}{pos:Pos}
theorem bp{r:R2}(hr:IxR X r)(ha:PE X a ta)(hb:PE X b tb)(hs:Ca b):PE X (.Subscript a b pos) (tOp r ta tb):=by
 intro pins s σ H Q I h;exact Subscript_ (Gf ha hb I h fun v u s2 x y H2 I2 rx ry q=>hr a b pins s2 σ H2 x y v u Q I2 rx ry q (hs _ _))
def yz(K:PySem.W.Frag):R2:=fun x y H Q=>∃p xs i v,x=.ref p/\y=.int i/\SqL K H p xs/\atI xs i=some v/\Q v H
def G8(K:PySem.W.Frag):R2:=fun x y H Q=>∃p xs i v,x=.ref p/\y=.int i/\SqT K H p xs/\atI xs i=some v/\Q v H
theorem bK:IxR X (yz X.K):=by
 intro value slice pins s σ H x y v u Q I rx ry h hs;obtain⟨p,xs,i,z,rfl,rfl,hq,he,q⟩:=h;cases rx;obtain⟨t,rfl⟩:=ry;obtain⟨its,r,pl,hz⟩:=I.list hq;obtain⟨j,h1,h2,h3,h4,h5⟩:=qu he;obtain⟨w,ew,rw'⟩:=r.get h2;have hl:=r.length;have hn:=jG;have fin:EP X pins σ Q w s:=⟨z,H,I,rw',q⟩;by_cases h0:0<=i
 ·have hj:i.toNat=j:=by
   rw[seqIndex_of h0 h5] at h1;exact Option.some.inj h1
  exact item_listR pl.isList h0 (by omega) (by rw[hj];simpa using ew) fin hs
 ·have hj:(i+(its.toArray.size:Int)).toNat=j:=by
   rw[seqIndex_neg (by omega) h4] at h1
   rw[List.size_toArray,<-hl];exact Option.some.inj h1
  exact subscriptTail_builtinR (x:=w) pl.isList.typeIs slot_list_getitem.lookup
   (wpAny_getItem_list_neg (Q:=fun r s'=>r=w/\EP X pins σ Q r s') pl.isList (by omega) (by rw[List.size_toArray]<;>omega) (by omega) (by rw[hj];simpa using ew) ⟨rfl,fin⟩) hs
theorem cu:IxR X (G8 X.K):=by
 intro value slice pins s σ H x y v u Q I rx ry h hs;obtain⟨p,xs,i,z,rfl,rfl,hq,he,q⟩:=h;cases rx;obtain⟨t,rfl⟩:=ry;obtain⟨its,r,pl,hz⟩:=I.tuple hq;obtain⟨j,h1,h2,h3,h4,h5⟩:=qu he;obtain⟨w,ew,rw'⟩:=r.get h2;have hl:=r.length;have hn:=jG;have fin:EP X pins σ Q w s:=⟨z,H,I,rw',q⟩;exact subscriptTail_builtinR (x:=w) pl.typeIs slot_tuple_getitem.lookup
  (getItem_tuple (j:=j) (Q:=fun r s'=>r=w/\EP X pins σ Q r s') pl (by omega) (by omega) (by rw[List.size_toArray,<-hl];exact h1) (by simpa using ew) ⟨rfl,fin⟩) hs
theorem uJ(its:List Value)(n j:Nat)(u:Value):Obj.mapSeq (·.setIfInBounds j u) { cls:=.type "list",data:=.seq its.toArray n }={ cls:=.type "list",data:=.seq (its.set j u).toArray n }:=by
 simp[Obj.mapSeq]
theorem Inv.lst{pins:List (Addr×Obj)}{σ:St}{H:Hp}{s:Shared}{p:Addr}{xs:List V}(I:Inv X pins σ H s)(h:H p=some (.lst xs)) :
  ∃(its:List Value) (n:Nat),aY xs its/\s.heap.get? p=some { cls:=.type "list",data:=.seq its.toArray n }/\xs.length<=sizeLine:=by
 obtain⟨z,its,n,r,e⟩:=I.hok p _ h;exact⟨its,n,r,e,z⟩
theorem Inv.lstUpd{pins:List (Addr×Obj)}{σ:St}{H:Hp}{s:Shared}{p:Addr}{xs ys:List V}{its its':List Value}{n n':Nat}{f:Obj->Obj}(I:Inv X pins σ H s)(h:H p=some (.lst xs))
  (ho:s.heap.get? p=some { cls:=.type "list",data:=.seq its.toArray n }) (hf:f { cls:=.type "list",data:=.seq its.toArray n }={ cls:=.type "list",data:=.seq its'.toArray n' }) (r:aY ys its') (hz:ys.length<=sizeLine) (t:Nat) :
  Inv X pins σ (upd H p (.lst ys)) { s with heap:=s.heap.update p f,toks:=t }:=by
 have e:(s.heap.update p f).get? p=some { cls:=.type "list",data:=.seq its'.toArray n' }:=by
  rw[Heap.get?_update_self f ho (by rw[hf]<;>rfl),hf]
 refine I.write (x:=p) (e:=p) (by rw[h];trivial) (.inl rfl) (fun b u hb q=>(Heap.get?_update_other _ _ (Ne.symm hb)).trans q) ⟨_,e⟩ ?_
 exact⟨hz,its',n',r,e⟩
def Ii:V->V->V->Hp->(Hp->Prop)->Prop:=fun o i v H Q=>∃p xs k j,o=.ref p/\i=.int k/\H p=some (.lst xs)/\ixN xs.length k=some j/\Q (upd H p (.lst (xs.set j v)))
theorem gO:Gd X Ii:=by
 intro pins s σ H o i v ov iv u Q I ro ri rv h;obtain⟨p,xs,k,j,rfl,rfl,hp,hj,q⟩:=h;cases ro;obtain⟨t,rfl⟩:=ri;obtain⟨its,n,r,ho,hz⟩:=I.lst hp;obtain⟨h1,h2,h3,h4⟩:=wy hj;have hl:=r.length;have hn:=jG;have I':Inv X pins σ (upd H p (.lst (xs.set j v))) { s with heap:=s.heap.update p (Obj.mapSeq (·.setIfInBounds j u)) }:=
  I.lstUpd hp ho (uJ its n j u) (r.set rv j) (by rw[List.length_set];exact hz) s.toks
 by_cases h0:0<=k
 ·have hk:k.toNat=j:=by
   rw[seqIndex_of h0 h4] at h1;exact Option.some.inj h1
  exact PySem.W.ki_setAt ho h0 (by omega) (by rw[List.size_toArray,<-hl];exact h4) (by rw[hk];exact⟨_,I',q⟩)
 ·have hk:(k+(its.toArray.size:Int)).toNat=j:=by
   rw[seqIndex_neg (by omega) h3] at h1
   rw[List.size_toArray,<-hl];exact Option.some.inj h1
  exact PySem.W.ki_setBack ho (by omega) (by rw[List.size_toArray,<-hl];exact h3) (by omega) (by rw[hk];exact⟨_,I',q⟩)
theorem qx(lo hi:Option Int)(n:Nat):(sliceBounds lo hi none n).1=((HT.sIx n 0 lo:Nat):Int)/\(sliceBounds lo hi none n).2.1=((HT.sIx n n hi:Nat):Int)/\(sliceBounds lo hi none n).2.2=1:=by
 refine⟨?_,?_,rfl⟩
 ·cases lo with
  |none=>simp[sliceBounds,HT.sIx]
  |some i=>
   simp only[sliceBounds,HT.sIx,Option.getD_none,show(1:Int) > 0 by decide,if_true]
   by_cases h:i<0
   ·simp only[h,if_true]<;>omega
   ·simp only[h,if_false]<;>omega
 ·cases hi with
  |none=>simp[sliceBounds,HT.sIx]
  |some i=>
   simp only[sliceBounds,HT.sIx,Option.getD_none,show(1:Int) > 0 by decide,if_true]
   by_cases h:i<0
   ·simp only[h,if_true]<;>omega
   ·simp only[h,if_false]<;>omega
theorem oM(its:List Value)(lo hi:Option Int):slicePick its.toArray lo hi none=((its.drop (HT.sIx its.length 0 lo)).take (HT.sIx its.length its.length hi-HT.sIx its.length 0 lo)).toArray:=by
 obtain⟨h1,h2,h3⟩:=qx lo hi its.toArray.size;unfold slicePick;rw[h1,h2,h3];simp only[sliceRange_one,pick_run,List.size_toArray]<;>rfl
def IT(K:PySem.W.Frag):V->Option Int->Option Int->Hp->VK->Prop:=fun x lo hi H Q=>∃a xs,x=.ref a/\SqL K H a xs/\∀p,H p=none->Q (.ref p) (upd H p (.lst (ic xs lo hi)))
theorem iZ:SlR X (IT X.K):=by
 intro pins s σ H x v vl vu lo hi sl Q I rx hs pl pu h;obtain⟨a,xs,rfl,hx,q⟩:=h;cases rx;obtain⟨its,r,ht,hz⟩:=I.list hx;have hlen:=r.length;refine⟨"list",_,slot_list_getitem.lookup,ht.isList.typeIs,?_⟩;refine wpAny_getItem_list_slice ht.isList hs pl pu .none (by simp) ?_ (by rw[List.size_toArray]<;>omega)
 rw[oM,<-hlen];refine⟨.ref s.heap.objs.size,_,I.laid (t':=s.toks) (o:=.lst (ic xs lo hi)) (fun b ob q=>Heap.get?_push_of_some _ q) (Nat.le_refl _) ?_,rfl,q _ (I.hok.fresh (Nat.le_refl _))⟩
 exact⟨Nat.le_trans (tK xs lo hi) hz,_,0,(r.drop (HT.sIx xs.length 0 lo)).take (HT.sIx xs.length xs.length hi-HT.sIx xs.length 0 lo),Heap.get?_push_size _ rfl⟩
noncomputable def jK:V->Bool
 |.non=>true
 |.bl _=>true
 |.int _=>true
 |.str _=>true
 |_=>false
noncomputable def eqV:V->V->Bool
 |.non,.non=>true
 |.bl a,.bl b=>a==b
 |.bl a,.int b=>(if a then 1 else 0)==b
 |.int a,.bl b=>a==(if b then 1 else 0)
 |.int a,.int b=>a==b
 |.str a,.str b=>a==b
 |_,_=>false
theorem GW{A:Around}{s:Shared}{y x:V}{u v:Value}(ry:b8 y u)(rx:b8 x v)(fy:jK y=true)(fx:jK x=true):SeqAt.EqAt A s u v (eqV y x):=by
 cases y with
 |non=>
  cases ry;cases x with
  |non=>cases rx;exact SeqAt.EqAt.same _
  |bl b=>cases rx;exact SeqAt.EqAt.none_bool b
  |int b=>obtain⟨t,rfl⟩:=rx;exact SeqAt.EqAt.none_int b t
  |str b=>obtain⟨t,rfl⟩:=rx;exact SeqAt.EqAt.none_str b t
  |_=>exact absurd (show false=true from fx) Bool.false_ne_true
 |bl a=>
  cases ry;cases x with
  |non=>cases rx;exact SeqAt.EqAt.bool_none a
  |bl b=>cases rx;exact SeqAt.EqAt.bool_bool a b
  |int b=>obtain⟨t,rfl⟩:=rx;exact SeqAt.EqAt.bool_int a b t
  |str b=>obtain⟨t,rfl⟩:=rx;exact SeqAt.EqAt.bool_str a b t
  |_=>exact absurd (show false=true from fx) Bool.false_ne_true
 |int a=>
  obtain⟨t',rfl⟩:=ry;cases x with
  |non=>cases rx;exact SeqAt.EqAt.int_none a t'
  |bl b=>cases rx;exact SeqAt.EqAt.int_bool a t' b
  |int b=>obtain⟨t,rfl⟩:=rx;exact SeqAt.EqAt.int_int a t' b t
  |str b=>obtain⟨t,rfl⟩:=rx;exact SeqAt.EqAt.int_str a t' b t
  |_=>exact absurd (show false=true from fx) Bool.false_ne_true
 |str a=>
  obtain⟨t',rfl⟩:=ry;cases x with
  |non=>cases rx;exact SeqAt.EqAt.str_none a t'
  |bl b=>cases rx;exact SeqAt.EqAt.str_bool a t' b
  |int b=>obtain⟨t,rfl⟩:=rx;exact SeqAt.EqAt.str_int a t' b t
  |str b=>obtain⟨t,rfl⟩:=rx;exact SeqAt.EqAt.str_str a t' b t
  |_=>exact absurd (show false=true from fx) Bool.false_ne_true
 |_=>exact absurd (show false=true from fy) Bool.false_ne_true
def eqU(x:V)(u:Value):Bool:=match u with
 |.none=>eqV .non x
 |.bool b=>eqV (.bl b) x
 |.int i _=>eqV (.int i) x
 |.str z _=>eqV (.str z) x
 |_=>false
theorem Am{x y:V}{u:Value}(r:b8 y u)(f:jK y=true):eqU x u=eqV y x:=by
 cases y with
 |non=>cases r;rfl
 |bl b=>cases r;rfl
 |int i=>obtain⟨t,rfl⟩:=r;rfl
 |str z=>obtain⟨t,rfl⟩:=r;rfl
 |_=>exact absurd (show false=true from f) Bool.false_ne_true
theorem rS{x:V}:∀{xs:List V}{us:List Value},aY xs us->xs.all jK=true->us.any (eqU x)=xs.any fun y=>eqV y x
 |_,_,.nil,_=>rfl
 |y::xs,u::us,.cons r t,f=>by
  rw[List.all_cons,Bool.and_eq_true] at f;rw[List.any_cons,List.any_cons,Am r f.1,rS t f.2]
theorem oo{A:Around}{s:Shared}{x:V}{v:Value}(rx:b8 x v)(fx:jK x=true):∀{xs:List V}{us:List Value},aY xs us->xs.all jK=true->∀u∈us,SeqAt.EqAt A s u v (eqU x u)
 |_,_,.nil,_=>fun u hu=>by cases hu
 |y::xs,u::us,.cons r t,f=>fun u' hu=>by
  rw[List.all_cons,Bool.and_eq_true] at f;rcases List.mem_cons.mp hu with rfl | hu
  ·rw[Am r f.1];exact GW r rx f.1 fx
  ·exact oo rx fx t f.2 u' hu
def inV(x:V)(xs:List V):Bool:=xs.any fun y=>eqV y x
def rIn(K:PySem.W.Frag)(neg:Bool):R2:=fun x y H Q=>∃p xs,y=.ref p/\(SqL K H p xs\/SqT K H p xs)/\jK x=true/\xs.all jK=true/\Q (.bl (if neg then !inV x xs else inV x xs)) H
theorem yR:OpR X (compareOp .In) (rIn X.K false):=by
 intro pins s σ H x y v u Q I rx ry h;obtain⟨p,xs,rfl,hq,fx,fs,q⟩:=h;cases ry;rcases hq with hq | hq
 ·obtain⟨its,r,pl,hz⟩:=I.list hq;refine SeqAt.in_listAt (eqU x) pl.isList (fun w hw=>oo rx fx r fs w (by simpa using hw)) ⟨.bl _,H,I,rfl,?_⟩
  rw[show its.toArray.any (eqU x)=its.any (eqU x) by simp,rS r fs]
  exact q
 ·obtain⟨its,r,pl,hz⟩:=I.tuple hq;refine SeqAt.in_tupleAt (eqU x) pl (fun w hw=>oo rx fx r fs w (by simpa using hw)) ⟨.bl _,H,I,rfl,?_⟩
  rw[show its.toArray.any (eqU x)=its.any (eqU x) by simp,rS r fs]
  exact q
theorem aU:gI X (.builtin "len") (fun xs H Q=>∃p ys,xs=[.ref p]/\(SqL X.K H p ys\/SqT X.K H p ys)/\Q (.int ys.length) H):=by
 intro pins s σ H xs us Q I r h;obtain⟨p,ys,rfl,hq,q⟩:=h;obtain⟨u,rfl,rx⟩:=pP r;cases rx;have hn:=jG;rcases hq with hq | hq
 ·obtain⟨its,r',pl,hz⟩:=I.list hq;have hlen:=r'.length;exact Calls.call_len_list pl.isList (by simp only[List.size_toArray]<;>omega) ⟨.int ys.length,H,I.tok _,⟨s.toks+1,by rw[List.size_toArray,hlen]⟩,q⟩
 ·obtain⟨its,r',pl,hz⟩:=I.tuple hq;have hlen:=r'.length;exact len_tuple pl (by simp only[List.size_toArray]<;>omega) ⟨.int ys.length,H,I.tok _,⟨s.toks+1,by rw[List.size_toArray,hlen]⟩,q⟩
theorem ra:gI X (.builtin "len") (fun xs H Q=>∃z,xs=[.str z]/\z.length<=sizeLine/\Q (.int z.length) H):=by
 intro pins s σ H xs us Q I r h;obtain⟨z,rfl,hz,q⟩:=h;obtain⟨u,rfl,t,rfl⟩:=pP r;have hn:=jG;exact len_str (by omega) ⟨.int z.length,H,I.tok _,⟨_,rfl⟩,q⟩
def tyV(K:PySem.W.Frag)(T:String)(x:V)(H:Hp):Prop:=match x with
 |.str _=>T = "str"
 |.int _=>T = "int"
 |.ref p=>(T = "list" /\ ∃xs,SqL K H p xs)\/(T = "tuple" /\ ∃o,K.lookup p=some o/\o.cls=.type "tuple" /\ o.dict=none)\/
   (T = "dict" /\ ((∃kvs,H p=some (.dK kvs))\/∃kvs,H p=some (.dT kvs)))\/(T = "set" /\ ∃S n,H p=some (.set S n))
 |_=>False
theorem AJ{pins:List (Addr×Obj)}{σ:St}{H:Hp}{s:Shared}{T:String}{x:V}{v:Value}(I:Inv X pins σ H s)(r:b8 x v)(ty:tyV X.K T x H) :
  s.TypeIs v T/\∀a,v=.ref a->∃ob,s.heap.get? a=some ob/\ob.dict=none:=by
 cases x with
 |str z=>
  obtain⟨t,rfl⟩:=r;cases (show T = "str" from ty)
  exact⟨typeIs_str s z t,fun _ e=>nomatch e⟩
 |int i=>
  obtain⟨t,rfl⟩:=r;cases (show T = "int" from ty)
  exact⟨typeIs_int s i t,fun _ e=>nomatch e⟩
 |ref p=>
  cases r;rcases ty with⟨rfl,xs,hq⟩ | ⟨rfl,o,hk,hc,hd⟩ | ⟨rfl,hk⟩ | ⟨rfl,S,n,hk⟩
  ·obtain⟨its,_,pl,_⟩:=I.list hq;refine⟨pl.isList.typeIs,fun a e=>?_⟩
   cases e;obtain⟨o,n,e,c,hd,_⟩:=pl;exact⟨o,e,hd⟩
  ·refine⟨⟨o,I.kIn p o hk,hc⟩,fun a e=>?_⟩
   cases e;exact⟨o,I.kIn _ o hk,hd⟩
  ·have z:∃o,s.heap.get? p=some o/\o.ExactDict:=by
    rcases hk with⟨kvs,hk⟩ | ⟨kvs,hk⟩
    ·obtain⟨_,_,_,_,o,_,_,e,ex,_⟩:=I.hok p _ hk;exact⟨o,e,ex⟩
    ·obtain⟨_,_,_,_,o,_,_,e,ex,_⟩:=I.hok p _ hk;exact⟨o,e,ex⟩
   obtain⟨o,e,ex⟩:=z;refine⟨⟨o,e,ex.1⟩,fun a e2=>?_⟩
   cases e2;exact⟨o,e,ex.2.1⟩
  ·obtain⟨o,_,_,_,e,ex,_⟩:=I.hok p _ hk;refine⟨⟨o,e,ex.1⟩,fun a e2=>?_⟩
   cases e2;exact⟨o,e,ex.2.1⟩
 |_=>exact False.elim ty
def IM(K:PySem.W.Frag)(T:String)(r:V->List V->Hp->VK->Prop)(to:TE):TE:=fun σ H Q=>to σ H fun x H1=>tyV K T x H1/\r x [] H1 Q
def tBM(K:PySem.W.Frag)(T:String)(r:V->List V->Hp->VK->Prop)(to:TE)(t:TA):TE:=fun σ H Q=>to σ H fun x H1=>tyV K T x H1/\t σ H1 fun xs H2=>r x xs H2 Q
variable{o e:Expr}{es:List Expr}{to:TE}{t:TA}{name:Str}{apos cpos:Pos}{T id:String}{r:V->List V->Hp->VK->Prop}
theorem Hs(pa:PlainAttrs T)(slot:Slot T name id)(hty:typeOf (.builtin id)=pure (.type "method_descriptor"))(hm:MtR X id r)(ho:PE X o to)
  (hbase:attributeBase o name X.env (eval o X.env)=eval o X.env:=by rfl) (hline:(apos.endLine==cpos.line)=true:=by rfl):PE X (.Call (.Attribute o name apos) [] [] cpos) (IM X.K T r to):=by
 intro pins s σ H Q I h;refine wpAny_Call_method0_late hbase hline (thn (ho pins s σ H _ I h) fun v s1 ⟨x,H1,I1,r1,ty,q1⟩=>?_)
 obtain⟨h1,h2⟩:=AJ I1 r1 ty;exact⟨T,id,pa,slot,hty,h1,h2,Calls.callWith_builtin rfl (PySem.evalArgs_none (hm pins s1 σ H1 x [] v [] Q I1 r1 .nil q1))⟩
theorem d5(pa:PlainAttrs T)(slot:Slot T name id)(hty:typeOf (.builtin id)=pure (.type "method_descriptor"))(hm:MtR X id r)(ho:PE X o to)(ha:PA X (e::es) t)
  (hbase:attributeBase o name X.env (eval o X.env)=eval o X.env:=by rfl)
  (hfew:((backTo cpos (starEach (e::es) X.env)).all (fun x=>!x.1)&&(backToKw cpos (keywordEach [] X.env)).all (fun x=>x.1.isSome)
   && decide ((e::es).length+([]:List Keyword).length+(if([]:List Keyword).isEmpty then 0 else 1)<30))=true:=by rfl)
  (hline:(apos.endLine==cpos.line)=true:=by rfl) (hs:starEach (e::es) X.env=(false,eval e X.env)::starEach es X.env:=by rfl) (hplain:(backTo cpos (starEach es X.env)).any (·.1)=false:=by rfl) :
  PE X (.Call (.Attribute o name apos) (e::es) [] cpos) (tBM X.K T r to t):=by
 intro pins s σ H Q I h;refine wpAny_Call_method_late hbase hfew hline rfl (thn (ho pins s σ H _ I h) fun v s1 ⟨x,H1,I1,r1,ty,q1⟩=>?_)
 obtain⟨h1,h2⟩:=AJ I1 r1 ty;refine⟨T,id,pa,slot,hty,h1,h2,?_⟩;have hA:=ha cpos pins s1 σ H1 _ I1 q1;rw[hs] at hA ⊢;refine Calls.callWith_builtin (by show(false || (backTo cpos (starEach es X.env)).any (·.1))=false;rw[hplain]<;>rfl) (Calls.evalArgs_plain ?_)
 exact thn hA fun us s2 ⟨vs,H2,I2,r2,q2⟩=>hm pins s2 σ H2 x vs v us Q I2 r1 r2 q2
end
end L2
namespace L2
open PySem PySem.Spec PyProof.Rows
def MtM(X:Cx)(id:String)(r:V->List V->Hp->VK->Prop):Prop:=
 ∀(pins:List (Addr×Obj)) (s:Shared) (σ:St) (H:Hp) (x:V) (xs:List V) (v:Value) (us:List Value) (Q:VK),Inv X pins σ H s->b8 x v->aY xs us->r x xs H Q->
  wpAny (model X.prog X.w) X.A (call (.builtin id) (v::us)) (EP X pins σ Q) X.xe s
theorem aY.one:∀{x:V}{us:List Value},aY [x] us->∃u,us=[u]/\b8 x u
 |_,_,.cons r .nil=>⟨_,rfl,r⟩
theorem aY.zero:∀{us:List Value},aY [] us->us=[]
 |_,.nil=>rfl
theorem aY.rep{xs:List V}{us:List Value}(h:aY xs us):∀k:Nat,aY (List.replicate k xs).flatten (List.replicate k us).flatten
 |0=>.nil
 |k+1=>by
  rw[List.replicate_succ,List.replicate_succ,List.flatten_cons,List.flatten_cons];exact aY.append h (aY.rep h k)
theorem pD(its:List Value):∀(k:Nat) (acc:List Value),
  List.foldl (fun x1 x2=>x1++x2) acc.toArray (List.replicate k its.toArray)=(acc++(List.replicate k its).flatten).toArray
 |0,acc=>by simp
 |k+1,acc=>by
  have e:acc.toArray++its.toArray=(acc++its).toArray:=by simp
  have e2:(acc++its)++(List.replicate k its).flatten=acc++(List.replicate (k+1) its).flatten:=by
   rw[List.replicate_succ,List.flatten_cons,List.append_assoc]
  rw[<-e2,<-pD its k (acc++its),<-e,List.replicate_succ,List.foldl_cons]
section
variable{X:Cx}{pins:List (Addr×Obj)}{σ:St}{H:Hp}{s:Shared}{l b:Addr}{xs ys zs:List V}
theorem Inv.lset{its its':List Value}{n:Nat}{f:Array Value->Array Value}{t':Nat}(I:Inv X pins σ H s)(hH:H l=some (.lst xs))
  (e:s.heap.get? l=some { cls:=.type "list",data:=.seq its.toArray n }) (hf:f its.toArray=its'.toArray) (hv:aY ys its') (hz:ys.length<=sizeLine) :
  Inv X pins σ (upd H l (.lst ys)) { s with heap:=s.heap.update l (Obj.mapSeq f),toks:=t' }:=by
 have q:=PySem.IsL.update e f;rw[hf] at q;refine I.write (x:=l) (e:=l) (by rw[hH];exact trivial) (.inl rfl) (fun b' u hb hu=>(Heap.get?_update_other s.heap (Obj.mapSeq f) (Ne.symm hb)).trans hu) ⟨_,q⟩ ?_
 exact⟨hz,its',_,hv,q⟩
theorem Inv.lnew{its:List Value}{t':Nat}(I:Inv X pins σ H s)(hv:aY ys its)(hz:ys.length<=sizeLine) :
  Inv X pins σ (upd H s.heap.objs.size (.lst ys)) { s with heap:=s.heap.push { cls:=.type "list",data:=.seq its.toArray },toks:=t' }:=
 I.laid (fun _ _ q=>Heap.get?_push_of_some _ q) (Nat.le_refl _) ⟨hz,its,0,hv,Heap.get?_push_size _ rfl⟩
theorem Inv.fresh(I:Inv X pins σ H s):H s.heap.objs.size=none:=I.hok.fresh (Nat.le_refl _)
theorem Inv.lstM(I:Inv X pins σ H s)(hH:H l=some (.lst xs)):xs.length<=sizeLine/\∃(its:List Value) (n:Nat),aY xs its/\xs.length=its.length/\s.heap.get? l=some { cls:=.type "list",data:=.seq its.toArray n }:=by
 obtain⟨z,its,n,r,e⟩:=I.hok l _ hH;exact⟨z,its,n,r,r.length,e⟩
theorem ux{n:Nat}(h:n<=sizeLine):Builtin.List.listTooLong n=false:=by
 unfold Builtin.List.listTooLong;exact decide_eq_false (by omega)
end
section
variable{X:Cx}
def D9:V->List V->Hp->VK->Prop:=fun x vs H Q=>∃l xs y,x=.ref l/\vs=[y]/\H l=some (.lst xs)/\xs.length<sizeLine/\Q .non (upd H l (.lst (xs++[y])))
theorem bF:MtM X "list.append" D9:=by
 intro pins s σ H x vs v us Q I rx rv h;obtain⟨l,xs,y,rfl,rfl,hH,hz,q⟩:=h;cases rx;obtain⟨u,rfl,ru⟩:=rv.one;obtain⟨z,its,n,r,hl,e⟩:=I.lstM hH;refine call_meets F.slot_list_append ⟨_,e,rfl⟩ F.entry_list_append (F.args_list_append_2 _ _) (PySem.list_append l its.toArray n u (by rw[List.size_toArray];omega)) ⟨e,?_⟩
 refine⟨.non,_,I.lset (its':=its++[u]) hH e (by simp) (r.append (.cons ru .nil)) ?_,rfl,q⟩
 rw[List.length_append,List.length_singleton];omega
def Cp:V->List V->Hp->VK->Prop:=fun x vs H Q=>∃l b xs zs,x=.ref l/\vs=[.ref b]/\H l=some (.lst xs)/\H b=some (.lst zs)/\xs.length+zs.length<=sizeLine/\Q .non (upd H l (.lst (xs++zs)))
theorem dI:MtM X "list.extend" Cp:=by
 intro pins s σ H x vs v us Q I rx rv h;obtain⟨l,b,xs,zs,rfl,rfl,hH,hB,hz,q⟩:=h;cases rx;obtain⟨u,rfl,ru⟩:=rv.one;cases ru;obtain⟨z,its,n,r,hl,e⟩:=I.lstM hH;obtain⟨z2,its2,n2,r2,hl2,e2⟩:=I.lstM hB;have hsz:its.toArray.size+its2.toArray.size<=sizeLine:=by rw[List.size_toArray,List.size_toArray];omega
 have hlong:¬(!its.toArray.isEmpty&&Builtin.List.listTooLong (its.toArray.size+its2.toArray.size))=true:=by
  rw[ux hsz,Bool.and_false];exact Bool.false_ne_true
 refine call_meets F.slot_list_extend ⟨_,e,rfl⟩ F.entry_list_extend (F.args_list_extend_2 _ _)
  (AutoSeq1.list_extend_list_list_0 l its.toArray n b its2.toArray n2 hlong (by rw[List.size_toArray];omega) (by omega)) ⟨e,e2,?_⟩
 refine⟨.non,_,I.lset (its':=its++its2) hH e (by simp) (r.append r2) ?_,rfl,q⟩
 rw[List.length_append];omega
def J7:R2:=fun x y H Q=>∃l b xs zs,x=.ref l/\y=.ref b/\H l=some (.lst xs)/\H b=some (.lst zs)/\xs.length+zs.length<=sizeLine/\∀p,H p=none->Q (.ref p) (upd H p (.lst (xs++zs)))
theorem mX:OpR X (binaryOp .Add) J7:=by
 intro pins s σ H x y v u Q I rx ry h;obtain⟨l,b,xs,zs,rfl,rfl,hH,hB,hz,q⟩:=h;cases rx;cases ry;obtain⟨z,its,n,r,hl,e⟩:=I.lstM hH;obtain⟨z2,its2,n2,r2,hl2,e2⟩:=I.lstM hB;refine PySem.P.add_list e e2 ?_ (by rw[List.size_toArray,List.size_toArray];omega)
 have ea:its.toArray++its2.toArray=(its++its2).toArray:=by simp
 rw[ea];exact⟨.ref _,_,I.lnew (t':=s.toks) (r.append r2) (by rw[List.length_append];omega),rfl,q _ I.fresh⟩
def J6:R2:=fun x y H Q=>∃l k xs,x=.ref l/\y=.int k/\H l=some (.lst xs)/\-(2 ^ 63)<=k/\k<2 ^ 63/\xs.length * k.toNat<=sizeLine/\
 ∀p,H p=none->Q (.ref p) (upd H p (.lst (List.replicate k.toNat xs).flatten))
theorem C5{α:Type}(xs:List α)(k:Nat):(List.replicate k xs).flatten.length=k * xs.length:=by
 induction k with
 |zero=>simp
 |succ k ih=>rw[List.replicate_succ,List.flatten_cons,List.length_append,ih,Nat.succ_mul,Nat.add_comm]
theorem uL:OpR X (binaryOp .Mult) J6:=by
 intro pins s σ H x y v u Q I rx ry h;obtain⟨l,k,xs,rfl,rfl,hH,h1,h2,hz,q⟩:=h;cases rx;obtain⟨t,rfl⟩:=ry;obtain⟨z,its,n,r,hl,e⟩:=I.lstM hH;have hlen:its.toArray.size * k.toNat<=sizeLine:=by rw[List.size_toArray,<-hl];exact hz
 have hcap:¬its.toArray.size * k.toNat > (2 ^ 63-1) / 8:=by
  have:(sizeLine:Nat)<=(2 ^ 63-1) / 8:=by decide
  omega
 have hfit:¬(!Builtin.List.listFitsIndex k)=true:=by
  rw[fitsIndex_both h1 h2];exact Bool.false_ne_true
 have hlong:¬Builtin.List.listTooLong (its.toArray.size * k.toNat)=true:=by
  rw[ux hlen];exact Bool.false_ne_true
 have hnew:List.foldl (fun x1 x2=>x1++x2) #[] (List.replicate (if its.toArray.isEmpty=true then 0 else k.toNat) its.toArray)=(List.replicate k.toNat its).flatten.toArray:=by
  have f0:∀m:Nat,List.foldl (fun x1 x2=>x1++x2) #[] (List.replicate m its.toArray)=(List.replicate m its).flatten.toArray:=fun m=>by
   have:=pD its m [];rw[List.nil_append] at this;exact this
  rw[f0];cases its with
  |nil=>simp
  |cons a r'=>rw[if_neg (by simp)]
 refine wpAny_binaryOp_repeat_ref (T := "list") (U := "int") (by decide) ⟨_,e,rfl⟩ (fun s'=>typeIs_int s' k t) noFill_list_mul F.fills_int_mul F.slot_int_rmul repeat_list F.slot_int_index.lookup
  (call_meets F.slot_int_rmul (typeIs_int s k t) F.entry_int_rmul (F.args_int_rmul_2 _ _) (int___rmul___int_list k t l its.toArray n)
   ⟨e,rfl,⟨_,e,rfl⟩,call_meets F.slot_list_mul ⟨_,e,rfl⟩ F.entry_list_mul (F.args_list_mul_2 _ _) (AutoListH.list___mul___list_int_3 l its.toArray n k t hfit hcap hlong) ⟨e,?_⟩⟩)
 rw[hnew];exact⟨.ref _,_,I.lnew (t':=s.toks) (r.rep k.toNat) (by rw[C5,Nat.mul_comm];exact hz),rfl,q _ I.fresh⟩
end
end L2
namespace L2
open PySem PySem.Spec PyProof.Rows
theorem aY.ints:∀{ns:List Int}{us:List Value},aY (ns.map V.int) us->IntsAre us ns
 |[],us,h=>by
  rw[List.map_nil] at h;cases h;exact IntsAre.nil
 |n::ns,us,h=>by
  rw[List.map_cons] at h;cases h with
  |cons r t=>
   obtain⟨k,rfl⟩:=r;exact IntsAre.cons n k (aY.ints t)
theorem aY.bls:∀{bs:List Bool}{us:List Value},aY (bs.map V.bl) us->us=bs.map Value.bool
 |[],us,h=>by
  rw[List.map_nil] at h;cases h;rfl
 |b::bs,us,h=>by
  rw[List.map_cons] at h;cases h with
  |cons r t=>
   cases r;rw[aY.bls t,List.map_cons]
theorem aY.ref1{a:Addr}{us:List Value}(r:aY [V.ref a] us):us=[Value.ref a]:=by
 cases r with
 |cons r t=>
  cases t;cases r;rfl
section
variable{prog:Program}{w:World}{A:Around}{E:Value->Shared->Prop}{s:Shared}{l:Addr}{its:List Value}{ns:List Int}{Q:Value->Shared->Prop}
theorem DY(hh:A.handled=none)(hl:s.heap.IsList l its.toArray)(hi:IntsAre its ns)
  (h:∀h' tk t',(∀b o,s.heap.get? b=some o->h'.get? b=some o)->Q (.int ns.sum t') { s with heap:=h',toks:=tk }):wpAny (model prog w) A (call (.builtin "sum") [.ref l]) Q E s:=by
 obtain⟨xs,e⟩:=hi.allInts.items;have hn:numsOf (intItems xs).toList=ns:=by rw[<-e];exact hi.numsOf
 rw[nums_intItems] at hn;rw[e] at hl;refine PySem.sum_intListG hh hl fun h' tk t' hk=>?_
 have:=h h' tk t' hk;rw[preSum_eq,List.take_of_length_le (by simp),hn];exact this
end
section
variable{X:Cx}
def IZ(K:PySem.W.Frag):List V->Hp->VK->Prop:=fun vs H Q=>∃(a:Addr) (ns:List Int),vs=[V.ref a]/\SqL K H a (ns.map V.int)/\Q (.int ns.sum) H
theorem Gz(hc:X.calm=true):gI X (.builtin "sum") (IZ X.K):=by
 intro pins s σ H vs us Q I r h;obtain⟨a,ns,rfl,hs,q⟩:=h;obtain⟨its,rv,hl,_⟩:=I.list hs;rw[aY.ref1 r];exact DY (I.ok.hd hc) hl.isList rv.ints fun h' tk t' hk=>⟨.int _,H,I.kept hk,⟨_,rfl⟩,q⟩
end
theorem Ax{prog:Program}{w:World}{A:Around}{E:Value->Shared->Prop}{s:Shared}{l:Addr}{items:Array Value}{Q:Value->Shared->Prop}(hl:s.heap.IsList l items)
  (h:∀s₂:Shared,s₂={ s with heap:=s.heap.push { cls:=.type "list_iterator",data:=.fields #[.ref l,.int 0 0] } }->
   (s₂.heap.IsListIter s.heap.objs.size l 0/\s₂.heap.IsList l items)->l≠s.heap.objs.size->Q (.ref s.heap.objs.size) s₂):wpAny (model prog w) A (pyIter (.ref l)) Q E s:=by
 have hlt:l<s.heap.objs.size:=by obtain⟨_,e,_⟩:=hl;exact Heap.lt_size e
 exact wpAny_pyIter_list hl (h _ rfl ⟨⟨_,Heap.get?_push_size _ rfl,rfl,rfl⟩,hl.push _⟩ (Nat.ne_of_lt hlt))
theorem tu{prog:Program}{w:World}{A:Around}{bs:List Bool}{its:List Value}(e:its=bs.map Value.bool) :
  TruthOf prog w A (fun i v=>its.toArray[i]?=some v) (fun i=>bs.getD i false):=fun i v s Q E hv hq=>by
 have hv':its[i]?=some v:=by simpa using hv
 rw[e,List.getElem?_map] at hv';obtain⟨b,hb,rfl⟩:=Option.map_eq_some_iff.mp hv';have hg:bs.getD i false=b:=by rw[List.getD_eq_getElem?_getD,hb]<;>rfl
 have hq':Q (bs.getD i false) s:=hq;rw[hg] at hq';exact wpAny_truthy_bool hq'
theorem zb:∀bs:List Bool,(List.range bs.length).any (fun i=>bs.getD i false)=bs.any id
 |[]=>rfl
 |b::bs=>by
  rw[List.length_cons,List.range_succ_eq_map,List.any_cons,List.any_map,List.any_cons,<-zb bs]
  all_goals rfl
theorem oU:∀bs:List Bool,(List.range bs.length).all (fun i=>bs.getD i false)=bs.all id
 |[]=>rfl
 |b::bs=>by
  rw[List.length_cons,List.range_succ_eq_map,List.all_cons,List.all_map,List.all_cons,<-oU bs]
  all_goals rfl
section
variable{X:Cx}
def Jj(K:PySem.W.Frag):List V->Hp->VK->Prop:=fun vs H Q=>∃(a:Addr) (bs:List Bool),vs=[V.ref a]/\SqL K H a (bs.map V.bl)/\Q (.bl (bs.all id)) H
theorem G3(hc:X.calm=true):gI X (.builtin "all") (Jj X.K):=by
 intro pins s σ H vs us Q I r h;obtain⟨a,bs,rfl,hs,q⟩:=h;obtain⟨its,rv,hl,_⟩:=I.list hs;rw[aY.ref1 r];have hb:=rv.bls;refine call_all_walk (Ax hl.isList fun s₂ e2 st hne=>?_)
 subst e2;refine⟨_,_,_,_,_,_,_,rfl,Walks.list (A:=X.A.in1) (I.ok.hd hc) _ a hne its.toArray,st,tu hb,fun h' tk hk=>?_⟩
 refine⟨.bl _,H,I.kept fun b o eo=>hk b o (fun hmem=>?_) (Heap.get?_push_of_some _ eo),?_,q⟩
 ·rcases List.mem_cons.mp hmem with e1 | hmem
  ·exact absurd (e1 ▸ Heap.lt_size eo) (Nat.lt_irrefl _)
  ·cases hmem
 ·show Value.bool _=Value.bool _;rw[<-oU,hb,List.size_toArray,List.length_map]
end
mutual
inductive Dp (K:PySem.W.Frag) (H:Hp):V->PyData->Prop
 |non:Dp K H .non .none
 |bl (b:Bool):Dp K H (.bl b) (.bool b)
 |int (i:Int):Dp K H (.int i) (.int i)
 |str (x:Str):Dp K H (.str x) (.str x)
 |lst {a:Addr} {xs:List V} {ds:List PyData}:SqL K H a xs->oh K H xs ds->Dp K H (.ref a) (.list ds)
 |tup {a:Addr} {xs:List V} {ds:List PyData}:SqT K H a xs->oh K H xs ds->Dp K H (.ref a) (.tuple ds)
inductive oh (K:PySem.W.Frag) (H:Hp):List V->List PyData->Prop
 |nil:oh K H [] []
 |cons {v:V} {vs:List V} {d:PyData} {ds:List PyData}:Dp K H v d->oh K H vs ds->oh K H (v::vs) (d::ds)
end
section
variable{X:Cx}{pins:List (Addr×Obj)}{σ:St}{H:Hp}{s:Shared}
mutual
theorem Dp.reads(I:Inv X pins σ H s):∀(d:PyData) (v:V) (u:Value),Dp X.K H v d->b8 v u->∃as,Reads s.heap u d as
 |.none,_,_,h,r=>by
  cases h;cases r;exact⟨_,Reads.none⟩
 |.bool b,_,_,h,r=>by
  cases h;cases r;exact⟨_,Reads.bool b⟩
 |.int i,_,_,h,r=>by
  cases h;obtain⟨t,rfl⟩:=r;exact⟨_,Reads.int i t⟩
 |.str x,_,_,h,r=>by
  cases h;obtain⟨t,rfl⟩:=r;exact⟨_,Reads.str x t⟩
 |.list ds,_,_,h,r=>by
  cases h with
  |lst hs ha=>
   cases r;obtain⟨its,rv,⟨o,n,ho,hc,_,hd⟩,_⟩:=I.list hs;obtain⟨as,hr⟩:=Dp.readsAll I ds _ its ha rv;exact⟨_,Reads.list ho hc hd hr⟩
 |.tuple ds,_,_,h,r=>by
  cases h with
  |tup hs ha=>
   cases r;obtain⟨its,rv,⟨o,ho,hc,n,hd⟩,_⟩:=I.tuple hs;obtain⟨as,hr⟩:=Dp.readsAll I ds _ its ha rv;exact⟨_,Reads.tuple ho hc hd hr⟩
 |.dict _,_,_,h,_=>by cases h
theorem Dp.readsAll(I:Inv X pins σ H s):∀(ds:List PyData) (vs:List V) (us:List Value),oh X.K H vs ds->aY vs us->∃as,ReadsAll s.heap us ds as
 |[],_,_,h,r=>by
  cases h;cases r;exact⟨_,ReadsAll.nil⟩
 |d::ds,_,_,h,r=>by
  cases h with
  |cons h1 h2=>
   cases r with
   |cons r1 r2=>
    obtain⟨as,q1⟩:=Dp.reads I d _ _ h1 r1;obtain⟨bs,q2⟩:=Dp.readsAll I ds _ _ h2 r2;exact⟨_,ReadsAll.cons q1 q2⟩
end
end
section
variable{X:Cx}
def Jh(K:PySem.W.Frag):R2:=fun x y H Q=>∃d e,Dp K H x d/\Dp K H y e/\SeqAt.shaped d=true/\SeqAt.shaped e=true/\Q (.bl (!PyData.eqv d e)) H
theorem Hy(hu:X.A.units+64<cLine):OpR X (compareOp .NotEq) (Jh X.K):=by
 intro pins s σ H x y v u Q I rx ry h;obtain⟨d,e,hd,he,sd,se,q⟩:=h;obtain⟨as,r1⟩:=Dp.reads I d x v hd rx;obtain⟨bs,r2⟩:=Dp.reads I e y u he ry;exact SeqAt.compareNe_shaped r1 r2 sd se hu ⟨.bl _,H,I,rfl,q⟩
end
end L2
namespace L2
open PySem PySem.Spec PyProof.Rows
abbrev BI(h:Heap)(c:Addr)(v:Option Value):Prop:=h.IsCell c v
noncomputable def Jb(scope sc:Scope):Scope:=
 { scope with names:=scope.names.map fun(n,k)=>if(k==.free&&sc.kind==.function&&sc.names.lookup n==some .cell) then(n,.cell) else(n,k) }
noncomputable def c6(cells:List (Str×Addr)):List (Str×NameKind)->List (Str×Addr)->List (Str×Addr)
 |[],acc=>acc
 |(n,k)::r,acc=>if k==.free then c6 cells r ((n,(cells.lookup n).getD 0)::acc) else c6 cells r acc
theorem kq(env:Env)(f:Str×NameKind->List (Str×Addr)->Sem (ForInStep (List (Str×Addr))))
  (hf:∀n k c,f (n,k) c=if k==.free then(do let a<-cellOf env n;pure (.yield ((n,a)::c))) else pure (.yield c)) :
  ∀(names:List (Str×NameKind)) (acc:List (Str×Addr)),(∀y∈names,y.2=.free->∃c,env.cells.lookup y.1=some c)->forIn names acc f=pure (c6 env.cells names acc)
 |[],acc,_=>by rw[List.forIn_nil];rfl
 |(n,k)::r,acc,h=>by
  rw[List.forIn_cons,hf];have ih:=fun acc=>kq env f hf r acc fun y hy=>h y (List.mem_cons_of_mem _ hy)
  unfold c6;by_cases hk:(k==NameKind.free)=true
  ·rw[if_pos hk,if_pos hk];obtain⟨c,hc⟩:=h (n,k) List.mem_cons_self (by simpa using hk)
   have e:cellOf env n=pure c:=by unfold cellOf;rw[hc]
   rw[e];have e2:(env.cells.lookup n).getD 0=c:=by rw[hc];rfl
   rw[e2];exact ih _
  ·rw[if_neg hk,if_neg hk];exact ih _
theorem vg{scope:Scope}{env:Env}(h:∀y∈scope.names,y.2=.free->∃c,env.cells.lookup y.1=some c):closureFor scope env=pure (c6 env.cells scope.names []):=by
 simp only[closureFor];rw[kq env _ (fun n k c=>rfl) scope.names [] h]
 rfl
theorem jo{α:Type}:∀{l:List (Str×α)}{n:Str}{c:α},(n,c)∈l->∃c',l.lookup n=some c'
 |(k,v)::r,n,c,h=>by
  rw[List.lookup_cons];cases hb:n==k with
  |true=>exact⟨_,rfl⟩
  |false=>
   rcases List.mem_cons.mp h with e | h
   ·cases e;simp at hb
   ·exact jo h
theorem gp{cells:List (Str×Addr)}:∀{names:List (Str×NameKind)}{acc:List (Str×Addr)}{n:Str}{c:Addr},(n,c)∈c6 cells names acc->(n,c)∈acc\/((n,.free)∈names/\c=(cells.lookup n).getD 0)
 |[],_,_,_,h=>.inl h
 |(m,k)::r,acc,n,c,h=>by
  unfold c6 at h;split at h
  ·rename_i hk
   have hk:k=.free:=by simpa using hk
   rcases gp h with h | ⟨h1,h2⟩
   ·rcases List.mem_cons.mp h with e | h
    ·cases e;exact .inr ⟨hk ▸ List.mem_cons_self,rfl⟩
    ·exact .inl h
   ·exact .inr ⟨List.mem_cons_of_mem _ h1,h2⟩
  ·rcases gp h with h | ⟨h1,h2⟩
   ·exact .inl h
   ·exact .inr ⟨List.mem_cons_of_mem _ h1,h2⟩
theorem iX{cells:List (Str×Addr)}:∀{names:List (Str×NameKind)}{acc:List (Str×Addr)}{p:Str×Addr},p∈acc->p∈c6 cells names acc
 |[],_,_,h=>h
 |(m,k)::r,acc,p,h=>by
  unfold c6;split
  ·exact iX (List.mem_cons_of_mem _ h)
  ·exact iX h
theorem iu{cells:List (Str×Addr)}:∀{names:List (Str×NameKind)}{acc:List (Str×Addr)}{n:Str},(n,.free)∈names->(n,(cells.lookup n).getD 0)∈c6 cells names acc
 |(m,k)::r,acc,n,h=>by
  unfold c6;rcases List.mem_cons.mp h with e | h
  ·cases e;exact iX List.mem_cons_self
  ·split
   ·exact iu h
   ·exact iu h
theorem gE:∀{names:List (Str×NameKind)}{h:Heap}{acc:List (Str×Addr)}{x:Str}{c:Addr},(x,c)∈cellsFrom h.objs.size names acc->
  (x,c)∈acc\/((x,.cell)∈names/\h.objs.size<=c/\BI (pushCells h names) c none)
 |[],_,_,_,_,h=>.inl h
 |(n,k)::r,h,acc,x,c,hm=>by
  unfold cellsFrom at hm;unfold pushCells;split at hm
  ·rename_i hk
   rw[if_pos hk];have hk:k=.cell:=by simpa using hk
   rw[<-Heap.size_push h { cls:=.type "cell",data:=.cell none }] at hm;rcases gE hm with hm | ⟨h1,h2,h3⟩
   ·rcases List.mem_cons.mp hm with e | hm
    ·cases e;exact .inr ⟨hk ▸ List.mem_cons_self,Nat.le_refl _,_,pushCells_keeps r _ _ _ (Heap.get?_push_size _ rfl),rfl⟩
    ·exact .inl hm
   ·rw[Heap.size_push] at h2;exact .inr ⟨List.mem_cons_of_mem _ h1,Nat.le_of_succ_le h2,h3⟩
  ·rename_i hk
   rw[if_neg hk];rcases gE hm with hm | ⟨h1,h2,h3⟩
   ·exact .inl hm
   ·exact .inr ⟨List.mem_cons_of_mem _ h1,h2,h3⟩
theorem j0:∀{names:List (Str×NameKind)}{n:Nat}{acc:List (Str×Addr)}{p:Str×Addr},p∈acc->p∈cellsFrom n names acc
 |[],_,_,_,h=>h
 |(m,k)::r,n,acc,p,h=>by
  unfold cellsFrom;split
  ·exact j0 (List.mem_cons_of_mem _ h)
  ·exact j0 h
theorem l8:∀{names:List (Str×NameKind)}{n:Nat}{acc:List (Str×Addr)}{x:Str},(x,.cell)∈names->∃c,(x,c)∈cellsFrom n names acc
 |(m,k)::r,n,acc,x,h=>by
  unfold cellsFrom;rcases List.mem_cons.mp h with e | h
  ·cases e;exact⟨n,j0 List.mem_cons_self⟩
  ·split
   ·exact l8 h
   ·exact l8 h
theorem kM:∀{names:List (Str×NameKind)}{h:Heap}{acc:List (Str×Addr)}{x y:Str}{c:Addr},(∀p∈acc,p.2<h.objs.size)->(∀x y c,(x,c)∈acc->(y,c)∈acc->x=y)->
  (x,c)∈cellsFrom h.objs.size names acc->(y,c)∈cellsFrom h.objs.size names acc->x=y
 |[],_,_,_,_,_,_,hi,h1,h2=>hi _ _ _ h1 h2
 |(n,k)::r,h,acc,x,y,c,hl,hi,h1,h2=>by
  unfold cellsFrom at h1 h2;split at h1
  ·rename_i hk
   rw[if_pos hk] at h2;rw[<-Heap.size_push h { cls:=.type "cell",data:=.cell none }] at h1 h2;refine kM (h:=h.push _) (fun p hp=>?_) (fun x y c a b=>?_) h1 h2
   ·rw[Heap.size_push];rcases List.mem_cons.mp hp with rfl | hp
    ·exact Nat.lt_succ_self _
    ·exact Nat.lt_succ_of_lt (hl p hp)
   ·rcases List.mem_cons.mp a with e | a<;>rcases List.mem_cons.mp b with e' | b
    ·cases e;cases e';rfl
    ·cases e;exact absurd (hl _ b) (Nat.lt_irrefl _)
    ·cases e';exact absurd (hl _ a) (Nat.lt_irrefl _)
    ·exact hi _ _ _ a b
  ·rename_i hk
   rw[if_neg hk] at h2;exact kM hl hi h1 h2
theorem tF{M:Model}{A:Around}{E:Value->Shared->Prop}{s:Shared}{scope:Scope}{globals:Addr}{closure:List (Str×Addr)}{qual:Str}{func:Option Addr}{code:Value}{around:Env}{builtins:Addr}{Q:Env->Shared->Prop}
  (h:Q (newEnv scope s.heap.objs.size globals (cellsFrom (s.heap.objs.size+1) scope.names closure) qual func code (some around) builtins)
   { s with heap:=pushCells (s.heap.push { cls:=.type "dict",data:=.dict #[] }) scope.names }) :
  wpAny M A (newFunctionEnv scope globals closure [] qual func code (some around) builtins) Q E s:=by
 simp only[newFunctionEnv,Option.isSome_some,if_true];refine wpAny_bind (wpAny_alloc ?_);refine wpAny_bind (wpAny_layCells _ (fun n k c=>rfl) scope.names closure _ _ ?_)
 rw[show({ s with heap:=s.heap.push { cls:=.type "dict",data:=.dict #[] } }:Shared).heap.objs.size=s.heap.objs.size+1 from Heap.size_push ..]
 rw[List.forIn_nil];exact wpAny_bind (wpAny_pure (wpAny_pure h))
theorem iC{sc:Scope}:∀{names:List (Str×NameKind)}{x:Str}{k:NameKind},
  (names.map fun(n,k)=>if(k==NameKind.free&&sc.kind==.function&&sc.names.lookup n==some .cell) then(n,NameKind.cell) else(n,k)).lookup x=some k->
  ∃k',names.lookup x=some k'/\(k=k'\/(k'=.free/\k=.cell))
 |[],_,_,h=>by simp at h
 |(n,k₀)::r,x,k,h=>by
  have ih:=@iC sc r x k;have h':List.lookup x ((if(k₀==NameKind.free&&sc.kind==.function&&sc.names.lookup n==some .cell)=true then(n,NameKind.cell) else(n,k₀))::(r.map _))=some k:=h
  cases hx:x==n with
  |true=>
   simp only[List.lookup_cons,hx];by_cases hc:(k₀==NameKind.free&&sc.kind==.function&&sc.names.lookup n==some .cell)=true
   ·rw[if_pos hc] at h';simp only[List.lookup_cons,hx] at h';cases h';simp only[Bool.and_eq_true,beq_iff_eq] at hc;exact⟨k₀,rfl,.inr ⟨hc.1.1,rfl⟩⟩
   ·rw[if_neg hc] at h';simp only[List.lookup_cons,hx] at h';cases h';exact⟨_,rfl,.inl rfl⟩
  |false=>
   simp only[List.lookup_cons,hx];by_cases hc:(k₀==NameKind.free&&sc.kind==.function&&sc.names.lookup n==some .cell)=true
   ·rw[if_pos hc] at h';simp only[List.lookup_cons,hx] at h';exact ih h'
   ·rw[if_neg hc] at h';simp only[List.lookup_cons,hx] at h';exact ih h'
structure ud(N:List Str)(sc scope:Scope)(own:List (Str×Nat)):Prop where
 kind:scope.kind=.function
 uniq:∀y∈scope.names,scope.names.lookup y.1=some y.2
 ix:∀p∈own,N[p.2]?=some p.1
 free:∀y∈scope.names,y.2=.free->sc.names.lookup y.1=some .cell\/sc.names.lookup y.1=some .free
 own:∀y∈scope.names,y.2=.local\/y.2=.cell->y.1∈own.map (·.1)\/y.1 ∉ N
noncomputable def cy(σ:St):List Nat->St
 |[]=>σ
 |v::vs=>(cy σ vs).set v none
theorem iI(σ:St):∀vs:List Nat,(cy σ vs).length=σ.length
 |[]=>rfl
 |v::vs=>by unfold cy;rw[List.length_set,iI σ vs]
theorem l7{σ:St}{i:Nat}{x:V}:∀{vs:List Nat},(cy σ vs)[i]?=some (some x)->σ[i]?=some (some x)/\i ∉ vs
 |[],h=>⟨h,by simp⟩
 |v::vs,h=>by
  unfold cy at h;by_cases hi:v=i
  ·subst hi;by_cases hv:v<(cy σ vs).length
   ·rw[List.getElem?_set_self hv] at h;cases h
   ·rw[List.getElem?_eq_none (by simpa using hv)] at h;cases h
  ·rw[List.getElem?_set_ne hi] at h;obtain⟨h1,h2⟩:=l7 h;exact⟨h1,by simp only[List.mem_cons,not_or];exact⟨fun e=>hi e.symm,h2⟩⟩
noncomputable abbrev Cx.blk(X:Cx)(s:Shared)(H:Hp)(scope:Scope)(cenv:Env)(fp:List Addr):Cx:={ X with s_0:=s,H_0:=H,env:=cenv,outer:=X.stack,ex:=fp,fn:=fun x=>scope.names.lookup x==some .cell,pn:=[],xe:=fun _ _=>False }
section
variable{X:Cx}{pins:List (Addr×Obj)}{σ:St}{H:Hp}{s:Shared}
theorem tR{scope:Scope}{own:List (Str×Nat)}{fp:List Addr}(I:Inv X pins σ H s)(ok:ud X.N X.env.scope scope own)(hN:X.N.Nodup)(hfp:∀b∈fp,lQ X pins H b/\b<s.heap.objs.size) :
  Inv (X.blk s H scope (compEnvC scope (cellsFrom (s.heap.objs.size+1) scope.names (c6 X.env.cells scope.names [])) s.heap.objs.size X.env) fp) [] (cy σ (own.map (·.2))) H { s with heap:=pushCells (s.heap.push { cls:=.type "dict",data:=.dict #[] }) scope.names }:=by
 have hfree:∀y∈scope.names,y.2=.free->∃c,X.env.cells.lookup y.1=some c:=fun y hy e=>by
  rcases ok.free y hy e with k | k
  ·exact I.ok.has _ (.inl k)
  ·exact I.ok.has _ (.inr k)
 generalize hcenv:compEnvC scope (cellsFrom (s.heap.objs.size+1) scope.names (c6 X.env.cells scope.names [])) s.heap.objs.size X.env=cenv;have kp:∀b o,s.heap.get? b=some o->(pushCells (s.heap.push { cls:=.type "dict",data:=.dict #[] }) scope.names).get? b=some o:=fun b o e=>pushCells_keeps _ _ _ _ (Heap.get?_push_of_some _ e)
 have hL:cenv.locals=s.heap.objs.size:=by rw[<-hcenv];rfl
 have hcl:cenv.cells=cellsFrom (s.heap.objs.size+1) scope.names (c6 X.env.cells scope.names []):=by rw[<-hcenv];rfl
 have hsc:cenv.scope=Jb scope X.env.scope:=by rw[<-hcenv];rfl
 rw[<-Heap.size_push s.heap { cls:=.type "dict",data:=.dict #[] }] at hcl;have cm:∀{y c},(y,c)∈c6 X.env.cells scope.names []->X.env.cells.lookup y=some c/\c<s.heap.objs.size:=fun {y c} hm=>by
  rcases gp hm with hm | ⟨h1,rfl⟩
  ·cases hm
  ·obtain⟨c,hc⟩:=hfree _ h1 rfl;rw[hc];obtain⟨w,z⟩:=I.cell _ _ hc;exact⟨rfl,z.lt⟩
 have mem:∀{y c},cenv.cells.lookup y=some c->(X.env.cells.lookup y=some c/\c<s.heap.objs.size)\/(s.heap.objs.size+1<=c/\BI (pushCells (s.heap.push { cls:=.type "dict",data:=.dict #[] }) scope.names) c none):=fun {y c} e=>by
  rw[hcl] at e;rcases gE (PySem.mem_of_lookup e) with hm | ⟨_,h2,h3⟩
  ·exact .inl (cm hm)
  ·rw[Heap.size_push] at h2;exact .inr ⟨h2,h3⟩
 have look:∀{y},scope.names.lookup y=some .free->∃c,cenv.cells.lookup y=some c/\X.env.cells.lookup y=some c:=fun {y} hl=>by
  have hy:(y,NameKind.free)∈scope.names:=PySem.mem_of_lookup hl;obtain⟨c',e'⟩:=jo (j0 (names:=scope.names) (n:=(s.heap.push { cls:=.type "dict",data:=.dict #[] }).objs.size) (iu (cells:=X.env.cells) (acc:=[]) hy));rw[<-hcl] at e';refine⟨c',e',?_⟩;rw[hcl] at e';rcases gE (PySem.mem_of_lookup e') with hm | ⟨h1,_,_⟩
  ·exact(cm hm).1
  ·have:=ok.uniq _ h1;rw[hl] at this;cases this
 have okB:(X.blk s H scope cenv fp).Ok:=by
  refine⟨I.ok.mod,by show cenv.scope.kind=_;rw[hsc];exact ok.kind,by show cenv.globals=_;rw[<-hcenv];exact I.ok.glob,by show cenv.builtins=_;rw[<-hcenv];exact I.ok.blt,by show s.heap.objs.size<=cenv.locals;rw[hL];exact Nat.le_refl _,
   fun y z c e1 e2=>?_,fun y hy=>?_,fun y c z e=>?_,I.ok.hd,I.ok.frames,.inl rfl,fun b hb=>⟨?_,fun y c e z=>?_⟩,I.bs,Nat.le_trans I.ok.bsz I.sz,fun b o e hb=>?_,fun b hb z=>?_,I.stack,I.stkFree⟩
  ·have e1:cenv.cells.lookup y=some c:=e1;have e2:cenv.cells.lookup z=some c:=e2;rw[hcl] at e1 e2;refine kM (fun p hp=>?_) (fun y z c a b=>I.ok.inj y z c (cm a).1 (cm b).1) (PySem.mem_of_lookup e1) (PySem.mem_of_lookup e2)
   rw[Heap.size_push];exact Nat.lt_succ_of_lt (cm (y:=p.1) (c:=p.2) hp).2
  ·show ∃c,cenv.cells.lookup y=some c;have key:∀k,cenv.kindOf y=some k->(k=.cell\/k=.free)->∃c,cenv.cells.lookup y=some c:=fun k hk hk'=>by
    unfold Env.kindOf at hk;rw[hsc] at hk;obtain⟨k',e,r⟩:=iC hk;have:k'=.cell\/k'=.free:=by
     rcases r with rfl | ⟨rfl,_⟩
     ·exact hk'
     ·exact .inr rfl
    rcases this with rfl | rfl
    ·obtain⟨c,hm⟩:=l8 (n:=(s.heap.push { cls:=.type "dict",data:=.dict #[] }).objs.size) (acc:=c6 X.env.cells scope.names []) (PySem.mem_of_lookup e);obtain⟨c',e'⟩:=jo hm;exact⟨c',by rw[hcl];exact e'⟩
    ·obtain⟨c,h1,_⟩:=look e;exact⟨c,h1⟩
   rcases hy with hy | hy
   ·exact key _ hy (.inl rfl)
   ·exact key _ hy (.inr rfl)
  ·have z:(scope.names.lookup y==some NameKind.cell)=true:=z;have z:scope.names.lookup y=some .cell:=by simpa using z
   have e:cenv.cells.lookup y=some c:=e;rw[hcl] at e;rcases gE (PySem.mem_of_lookup e) with hm | ⟨_,h2,_⟩
   ·rcases gp hm with hm | ⟨h1,_⟩
    ·cases hm
    ·have q:=ok.uniq _ h1;rw[z] at q;cases q
   ·rw[Heap.size_push] at h2;exact Nat.le_of_succ_le h2
  ·show b≠cenv.locals;rw[hL];exact Nat.ne_of_lt (hfp b hb).2
  ·have e:cenv.cells.lookup y=some c:=e;rcases mem e with⟨h1,_⟩ | ⟨h1,_⟩
   ·exact(hfp b hb).1.2.2.2.2.1 y c h1 z
   ·have h2:s.heap.objs.size+1<=b:=by rw[<-z];exact h1
    exact absurd (Nat.lt_of_lt_of_le (hfp b hb).2 (Nat.le_of_succ_le h2)) (Nat.lt_irrefl _)
  ·rcases(hfp b hb).1.2.2.2.1 with z | z
   ·exact I.ok.noex b o e z
   ·exact absurd (Nat.lt_of_lt_of_le (Heap.lt_size e) (Nat.le_trans I.ok.bsz z)) (Nat.lt_irrefl _)
  ·rcases List.mem_cons.mp (I.stkSub b z) with z | z
   ·exact(hfp b hb).1.2.1 z
   ·exact(hfp b hb).1.2.2.1 z
 refine⟨okB,rfl,I.bare,Un.kept kp,⟨fun _=>none,?_,fun i y av e1 e2 e3=>?_⟩,fun y c e=>?_,?_,fun y c e=>?_,fun p hp=>?_,I.hok.kept kp,by rw[iI];exact I.len⟩
 ·show Heap.Ns _ cenv.locals _;rw[hL];exact Heap.Ns.keeps (Heap.Ns.new ..) fun b o e=>pushCells_keeps _ _ _ _ e
 ·obtain⟨e2,hne⟩:=l7 e2;have hfr:scope.names.lookup y=some .free/\(cenv.kindOf y=some .cell\/cenv.kindOf y=some .free):=by
   have key:∀k,cenv.scope.names.lookup y=some k->k=.local\/k=.cell\/k=.free->scope.names.lookup y=some .free/\(cenv.kindOf y=some .cell\/cenv.kindOf y=some .free):=fun k hk hk'=>by
    have hk0:=hk;rw[hsc] at hk;obtain⟨k',e,r⟩:=iC hk;have no:¬(k'=.local\/k'=.cell):=fun hh=>by
     rcases ok.own _ (PySem.mem_of_lookup e) hh with e' | e'
     ·obtain⟨p,hp,hpy⟩:=List.mem_map.mp e';have e3:=ok.ix p hp;have:p.1=y:=hpy;rw[this] at e3;exact hne (List.mem_map.mpr ⟨p,hp,nZ hN e3 e1⟩)
     ·exact e' (List.mem_of_getElem? e1)
    rcases r with rfl | ⟨rfl,rfl⟩
    ·rcases hk' with rfl | rfl | rfl
     ·exact absurd (.inl rfl) no
     ·exact absurd (.inr rfl) no
     ·exact⟨e,.inr hk0⟩
    ·exact⟨e,.inl hk0⟩
   have e3:Vis cenv.scope y:=e3;rcases e3 with e3 | e3 | e3
   ·exact key _ e3 (.inl rfl)
   ·exact key _ e3 (.inr (.inl rfl))
   ·exact key _ e3 (.inr (.inr rfl))
  obtain⟨m,hn,hl⟩:=I.loc;have hvis:Vis X.env.scope y:=(ok.free _ (PySem.mem_of_lookup hfr.1) rfl).elim (fun k=>.inr (.inl k)) (fun k=>.inr (.inr k))
  obtain⟨w,r,q⟩:=hl i y av e1 e2 hvis;refine⟨w,r,.inr ⟨hfr.2,?_⟩⟩;obtain⟨c,h1,h2⟩:=look hfr.1;rcases q with⟨k,_⟩ | ⟨_,c',e',z⟩
  ·have k:X.env.scope.names.lookup y=some .local:=k;rcases ok.free _ (PySem.mem_of_lookup hfr.1) rfl with k' | k'<;>rw[show X.env.scope.names.lookup y=_ from k'] at k<;>cases k
  ·rw[h2] at e';cases e';exact⟨c,h1,z.keeps kp⟩
 ·have e:cenv.cells.lookup y=some c:=e;rcases mem e with⟨h1,_⟩ | ⟨_,z⟩
  ·obtain⟨w,z⟩:=I.cell y c h1;exact⟨w,z.keeps kp⟩
  ·exact⟨_,z⟩
 ·show H cenv.locals=none;rw[hL];exact I.hok.fresh (Nat.le_refl _)
 ·have e:cenv.cells.lookup y=some c:=e;rcases mem e with⟨h1,_⟩ | ⟨h1,_⟩
  ·exact I.freeC y c h1
  ·exact I.hok.fresh (Nat.le_of_succ_le h1)
 ·exact absurd (show p∈([]:List (Addr×Obj))++[] from hp) (by simp)
theorem Hg{E:Value->Shared->Prop}{D:Addr}{xs:List V}{y:V}{v:Value}{Q:Value->Shared->Prop}(I:Inv X pins σ H s)(hD:H D=some (.lst xs))(hz:xs.length<sizeLine)(r:b8 y v)
  (h:∀s',Inv X pins σ (upd H D (.lst (xs++[y]))) s'->Q .none s'):wpAny (model X.prog X.w) X.A (call (.builtin "list.append") [.ref D,v]) Q E s:=by
 obtain⟨hz',its,n,ri,e⟩:=I.hok D _ hD;have hl:=ri.length;refine append_at (hsz:=by rw[List.size_toArray];omega) e fun h' sb ho'=>?_
 refine h { s with heap:=h' } (I.write (t':=s.toks) (by rw[hD];trivial) (.inl rfl) (fun b u hb q=>(sb.2 b hb).trans q) ⟨_,ho'⟩ ⟨by rw[List.length_append];exact hz,its++[v],n+1,ri.append (.cons r .nil),?_⟩)
 rw[ho'];simp
def PTs(X:Cx)(ifs:List Expr)(t:TT):Prop:=
 ∀(pins:List (Addr×Obj)) (s:Shared) (σ:St) (H:Hp) (Q:Bool->Hp->Prop),Inv X pins σ H s->t σ H Q->
  wpAny (model X.prog X.w) X.A (forIn ifs true fun c r=>if r=true then do let ok<-isTrue c X.env (eval c X.env);pure (ForInStep.yield ok) else pure (ForInStep.yield r)) (TP X pins σ Q) X.xe s
def HX:TT:=fun _ H Q=>Q true H
theorem dj:PTs X [] HX:=fun _ _ _ H _ I h=>wpAny_tests_nil ⟨H,I,h⟩
theorem j4{c:Expr}{t:TT}(h:PT X c t):PTs X [c] t:=fun pins s σ H Q I hw=>wpAny_tests_one (h pins s σ H Q I hw)
end
theorem yT{α:Type}{t:Sem α}{Q Q':α->Shared->Prop}{M:Model}{A:Around}{E:Value->Shared->Prop}{s:Shared}(h:wpAny M A t Q (fun _ _=>False) s)(hQ:∀a s,Q a s->Q' a s):wpAny M A t Q' E s:=wpAny_mono h hQ fun _ _ z=>False.elim z
theorem qA{prog:Program}{w:World}{A:Around}{R:Result->Shared->Prop}{s:Shared}{elt target iter:Expr}{ifs:List Expr}{scope:Scope}{pos:Pos}{it acc:Value}{env:Env}(I:Nat->Shared->Prop)
  (turn:∀n s,I n s->wpAny (model prog w) A (pyNext it) (fun r s₁=>match r with
   |none=>R (.ok .next) s₁
   |some v=>wpAny (model prog w) A (letOwnedTupleGo target it v) (fun _ s₁'=>wpAny (model prog w) A (assign target env v) (fun _ s₂=>
     wpAny (model prog w) A (forIn ifs true fun c r=>if r=true then do let ok<-isTrue c env (eval c env);pure (ForInStep.yield ok) else pure (ForInStep.yield r)) (fun ok s₃=>
      if ok=true then wpAny (model prog w) A (eval elt env) (fun x s₄=>
       wpAny (model prog w) A (call (.builtin "list.append") [acc,x]) (fun _ s₅=>∃m,m<n/\I m s₅) (notedBy (model prog w) A env fun e s'=>R (.error e) s') s₄) (notedBy (model prog w) A env fun e s'=>R (.error e) s') s₃
      else ∃m,m<n/\I m s₃) (notedBy (model prog w) A env fun e s'=>R (.error e) s') s₂) (notedBy (model prog w) A env fun e s'=>R (.error e) s') s₁') (notedBy (model prog w) A env fun e s'=>R (.error e) s') s₁) (notedBy (model prog w) A env fun e s'=>R (.error e) s') s)
  (n:Nat) (h:I n s) :
  codeAny (model prog w) A (.compLoop (.ListComp elt [⟨target,iter,ifs,0⟩] scope pos) 0 it acc env) R s:=by
 refine codeAny_loop rfl I (fun n s hI=>?_) n h
 show wpAny _ A ((compTurn (.ListComp elt [⟨target,iter,ifs,0⟩] scope pos) 0 it acc env).onRaise (fun x=>do noteFrame x env;theTreesLotGoes x)) _ _ s
 refine wpAny_noted ?_;rw[compTurn_list];refine wpAny_bind (wpAny_standAt (wpAny_bind (wpAny_mono (turn n s hI) (fun r s₁ h₁=>?_) fun _ _ h'=>h')))
 cases r with
 |none=>exact wpAny_pure h₁
 |some v=>
  refine wpAny_bind (wpAny_mono h₁ (fun _ s₁' h₁'=>?_) fun _ _ h'=>h')
  refine wpAny_bind (wpAny_mono h₁' (fun _ s₂ h₂=>wpAny_bind (wpAny_mono h₂ (fun ok s₃ h₃=>?_) fun _ _ h'=>h')) fun _ _ h'=>h')
  cases ok with
  |false=>exact wpAny_pure ⟨rfl,h₃⟩
  |true=>
   exact wpAny_bind (wpAny_bind (wpAny_mono h₃ (fun x s₄ h₄=>wpAny_bind (wpAny_mono h₄ (fun _ s₅ h₅=>wpAny_pure (wpAny_pure ⟨rfl,h₅⟩)) fun _ _ h'=>h')) fun _ _ h'=>h'))
section
variable{X:Cx}
def tLc(wi:TI)(g:TG)(tt:TT)(te:TE)(vs:List Nat):TE:=fun σ H Q=>wi σ H fun J H1=>∀D,H1 D=none->∃W:Nat->Nat->Hp->Prop,(∃m,W 0 m (upd H1 D (.lst [])))/\∀i m H,W i m H->
 (J.stop i H/\Q (.ref D) H)\/(J.go i H/\∃Nx:Hp->Prop,(∀H',Nx H'->∃m',m'<m/\W (i+1) m' H')/\∀x H',J.yld i H x H'->g x (cy σ vs) H' fun σ2 H2=>cy σ2 vs=cy σ vs/\tt σ2 H2 fun b H3=>
  if b=true then te σ2 H3 fun y H4=>∃acc,H4 D=some (.lst acc)/\acc.length<sizeLine/\Nx (upd H4 D (.lst (acc++[y]))) else Nx H3)
theorem xu{pins:List (Addr×Obj)}{s:Shared}{σ:St}{H:Hp}{Q:VK}{elt tg iter:Expr}{ifs:List Expr}{scope:Scope}{own:List (Str×Nat)}{pos pos':Pos}{wi:TI}{g:TG}{tt:TT}{te:TE}{use:Option (Value->Sem Unit)}{Qf:Value->Shared->Prop}
  (hc:X.calm=true) (hN:X.N.Nodup) (I:Inv X pins σ H s) (hi:PI X tg iter wi) (ok:ud X.N X.env.scope scope own)
  (hg:∀(s:Shared) (H:Hp) (C:Addr) (cl:List (Str×Addr)) (fp:List Addr),PG (X.blk s H scope (compEnvC scope cl C X.env) fp) tg g) (ht:∀(s:Shared) (H:Hp) (C:Addr) (cl:List (Str×Addr)) (fp:List Addr),PTs (X.blk s H scope (compEnvC scope cl C X.env) fp) ifs tt)
  (he:∀(s:Shared) (H:Hp) (C:Addr) (cl:List (Str×Addr)) (fp:List Addr),PE (X.blk s H scope (compEnvC scope cl C X.env) fp) elt te) (hs:∀x,foldedSetIterable iter X.env x=pure x)
  (h:tLc wi g tt te (own.map (·.2)) σ H Q)
  (hRR:∀D C s' m H',Inv X pins σ H' s'->Q (.ref D) H'->s'.heap.Ns C m->lQ X pins H' C->compPost (model X.prog X.w) X.A X.xe use Qf (.ref D) C (.ok .next) s') :
  wpAny (model X.prog X.w) X.A (comprehension (.ListComp elt [⟨tg,iter,ifs,0⟩] scope pos) scope X.env pos' (newList []) false (eval iter X.env) use) Qf X.xe s:=by
 have hfree:∀y∈scope.names,y.2=.free->∃c,X.env.cells.lookup y.1=some c:=fun y hy e=>by
  rcases ok.free y hy e with k | k
  ·exact I.ok.has _ (.inl k)
  ·exact I.ok.has _ (.inr k)
 refine wpAny_comprehension_free (use:=use) rfl hs (vg hfree) ok.kind (fun y hy e=>by rw[ok.uniq y hy,e])
  (thn (hi pins s σ H _ I h) fun xv s1 hx=>thn hx fun itv s2 h2=>?_)
 obtain⟨it,fp,tn,J,H2,e,I2,T,st2,f2,q⟩:=h2;subst e;refine wpAny_newObj_type (tF ?_) (by show 0<=sizeLine;decide)
 generalize hD:s2.heap.objs.size=D;have hDn:H2 D=none:=I2.hok.fresh (Nat.le_of_eq hD);obtain⟨W,⟨m0,w0⟩,turn⟩:=q D hDn;generalize hs3:({ s2 with heap:=s2.heap.push { cls:=.type "list",data:=.seq ([]:List Value).toArray } }:Shared)=s3
 have I3:Inv X pins σ (upd H2 D (.lst [])) s3:=by
  rw[<-hs3];refine I2.laid (t':=s2.toks) (fun b o e=>Heap.get?_push_of_some _ e) (Nat.le_of_eq hD) ⟨Nat.zero_le _,[],0,.nil,?_⟩
  rw[<-hD];exact Heap.get?_push_size _ rfl
 have h3:s3.heap=s2.heap.push { cls:=.type "list",data:=.seq ([]:List Value).toArray }:=by rw[<-hs3]
 have sz:∀b∈fp,b<s2.heap.objs.size:=fun b hb=>by
  obtain⟨o,e,_⟩:=T.obj _ _ st2 b hb;exact Heap.lt_size e
 have f3:∀b∈fp,lQ X pins (upd H2 D (.lst [])) b/\b<s3.heap.objs.size:=fun b hb=>by
  have hlt:=sz b hb;refine⟨⟨?_,(f2 b hb).2⟩,by rw[h3,Heap.size_push];exact Nat.lt_succ_of_lt hlt⟩
  rw[af (by rw[<-hD];exact Nat.ne_of_lt hlt)]
  exact(f2 b hb).1
 have st3:tn 0 s3.heap:=T.keep _ _ _ st2 fun b _ o e=>by rw[h3];exact Heap.get?_push_of_some _ e
 have I4:=tR I3 ok hN f3;have pg:=hg s3 (upd H2 D (.lst [])) s3.heap.objs.size (cellsFrom (s3.heap.objs.size+1) scope.names (c6 X.env.cells scope.names [])) fp;have pt:=ht s3 (upd H2 D (.lst [])) s3.heap.objs.size (cellsFrom (s3.heap.objs.size+1) scope.names (c6 X.env.cells scope.names [])) fp;have pe:=he s3 (upd H2 D (.lst [])) s3.heap.objs.size (cellsFrom (s3.heap.objs.size+1) scope.names (c6 X.env.cells scope.names [])) fp;show codeAny _ _ (.compStart (.ListComp elt [⟨tg,iter,ifs,0⟩] scope pos) 0 (.ref it) (.ref D) (compEnvC scope (cellsFrom (s3.heap.objs.size+1) scope.names (c6 X.env.cells scope.names [])) s3.heap.objs.size X.env)) (compPost (model X.prog X.w) X.A X.xe use Qf (.ref D) s3.heap.objs.size) { s3 with heap:=pushCells (s3.heap.push { cls:=.type "dict",data:=.dict #[] }) scope.names }
 have nfp:∀b∈fp,(upd H2 D (.lst [])) b=none:=fun b hb=>(f3 b hb).1.1
 generalize hce:compEnvC scope (cellsFrom (s3.heap.objs.size+1) scope.names (c6 X.env.cells scope.names [])) s3.heap.objs.size X.env=ce at I4 pg pt pe ⊢;have cL:ce.locals=s3.heap.objs.size:=by subst hce;rfl
 generalize hH3:upd H2 D (.lst [])=H3 at I3 I4 pg pt pe w0 nfp f3;generalize hs4:({ s3 with heap:=pushCells (s3.heap.push { cls:=.type "dict",data:=.dict #[] }) scope.names }:Shared)=s4 at I4 ⊢
 have st4:tn 0 s4.heap:=T.keep _ _ _ st3 fun b _ o e=>by rw[<-hs4];exact pushCells_keeps _ _ _ _ (Heap.get?_push_of_some _ e)
 have stat:∀{σ':St} {H':Hp} {s':Shared},Inv (X.blk s3 H3 scope ce fp) [] σ' H' s'->(∀b∈fp,H' b=none)->∀b∈fp,lQ (X.blk s3 H3 scope ce fp) [] H' b:=fun {σ' H' s'} I' hn b hb=>
  ⟨hn b hb,(I'.ok.exf b hb).1,I'.ok.exfs b hb,.inl hb,fun x c e=>(I'.ok.exf b hb).2 x c e,fun p hp=>absurd (show p∈([]:List (Addr×Obj))++[] from hp) (by simp)⟩
 have loop:codeAny (model X.prog X.w) X.A (.compLoop (.ListComp elt [⟨tg,iter,ifs,0⟩] scope pos) 0 (.ref it) (.ref D) ce) (compPost (model X.prog X.w) X.A X.xe use Qf (.ref D) s3.heap.objs.size) s4:=by
  refine qA (fun n s'=>∃i H',Inv (X.blk s3 H3 scope ce fp) [] (cy σ (own.map (·.2))) H' s'/\tn i s'.heap/\(∀b∈fp,H' b=none)/\W i n H') ?_ m0 ⟨0,H3,I4,st4,nfp,w0⟩
  rintro n s5 ⟨i,H5,I5,st5,n5,w5⟩;rcases turn i n H5 w5 with⟨stop,qq⟩ | ⟨go,Nx,hNx,step⟩
  ·have td:=T.done (X.blk s3 H3 scope ce fp) rfl rfl rfl hc i [] s5 _ H5 (fun _ _=>False) I5 (stat I5 n5) st5 stop
   refine yT td fun r s6 ⟨hr,I6⟩=>?_
   subst hr;have I7:Inv X pins σ H5 s6:=I3.call' (ch:=fp) I6.os I6.base I6.hok I6.bare fun b hb=>⟨(f3 b hb).1.2.2.2.1,(f3 b hb).1.2.1,(f3 b hb).1.2.2.2.2.1,(f3 b hb).1.2.2.2.2.2⟩
   have nC:H5 s3.heap.objs.size=none:=by
    have z:H5 ce.locals=none:=I6.free;rw[cL] at z;exact z
   obtain⟨m,hn,_⟩:=I6.loc;have hn:s6.heap.Ns ce.locals m:=hn;rw[cL] at hn;exact hRR D s3.heap.objs.size s6 m H5 I7 qq hn (I3.fpOk (Nat.le_refl _) nC)
  ·have ti:=T.item (X.blk s3 H3 scope ce fp) rfl rfl rfl hc i [] s5 _ H5 (fun _ _=>False) I5 (stat I5 n5) st5 go
   refine yT ti fun r s6 ⟨u,hr,h6⟩=>?_
   subst hr;refine yT h6 fun _ s7 ⟨x,H7,I7,r7,y7,st7,n7⟩=>?_
   have I7':=I7.pinned (stat I7 n7) (T.obj _ _ st7);refine yT (pg _ s7 _ H7 x u _ I7' r7 (step x H7 y7)) fun _ s8 ⟨σ8,H8,I8,hw8,q8⟩=>?_
   refine yT (pt _ s8 σ8 H8 _ I8 q8) fun b s9 ⟨H9,I9,q9⟩=>?_
   have fin:∀{s':Shared} {H':Hp},Inv (X.blk s3 H3 scope ce fp) ([]++oq fp s7.heap) σ8 H' s'->Nx H'->∃m,m<n/\∃i H',Inv (X.blk s3 H3 scope ce fp) [] (cy σ (own.map (·.2))) H' s'/\tn i s'.heap/\(∀b∈fp,H' b=none)/\W i m H':=fun {s' H'} I' nx=>by
    obtain⟨m',hm,w'⟩:=hNx H' nx;have pin':∀b∈fp,∀o,s7.heap.get? b=some o->s'.heap.get? b=some o/\H' b=none:=fun b hb o e=>
     let z:=I'.pin (b,o) (List.mem_append_right _ (List.mem_append_right _ (jy hb e)))
     ⟨z.1,z.2.1⟩
    have hl:(cy σ (own.map (·.2))).length=σ8.length:=by rw[<-hw8,iI]
    refine⟨m',hm,i+1,H',(I'.unpinned (pins:=[])).weak hl (fun j v e=>?_),T.keep _ _ _ st7 fun b hb o e=>(pin' b hb o e).1,fun b hb=>?_,w'⟩
    ·rw[<-hw8] at e;exact(l7 e).1
    ·obtain⟨o,e,_⟩:=T.obj _ _ st7 b hb;exact(pin' b hb o e).2
   cases b with
   |false=>
    simp only[Bool.false_eq_true,if_false] at q9 ⊢;exact fin I9 q9
   |true=>
    simp only[if_true] at q9 ⊢;refine yT (pe _ s9 σ8 H9 _ I9 q9) fun z s10 ⟨yv,H10,I10,r10,acc,hD10,hz10,nx⟩=>?_
    exact Hg (X:=X.blk s3 H3 scope ce fp) I10 hD10 hz10 r10 fun s11 I11=>fin I11 nx
 exact codeAny_compStart_list loop (T.self X.A 0 _ _ _ st4 loop)
theorem fG{elt tg iter:Expr}{ifs:List Expr}{scope:Scope}{own:List (Str×Nat)}{pos:Pos}{wi:TI}{g:TG}{tt:TT}{te:TE}(hc:X.calm=true)(hN:X.N.Nodup)(hi:PI X tg iter wi)(ok:ud X.N X.env.scope scope own)
  (hg:∀(s:Shared) (H:Hp) (C:Addr) (cl:List (Str×Addr)) (fp:List Addr),PG (X.blk s H scope (compEnvC scope cl C X.env) fp) tg g) (ht:∀(s:Shared) (H:Hp) (C:Addr) (cl:List (Str×Addr)) (fp:List Addr),PTs (X.blk s H scope (compEnvC scope cl C X.env) fp) ifs tt)
  (he:∀(s:Shared) (H:Hp) (C:Addr) (cl:List (Str×Addr)) (fp:List Addr),PE (X.blk s H scope (compEnvC scope cl C X.env) fp) elt te) (hs:∀x,foldedSetIterable iter X.env x=pure x:=by intro _;rfl) :
  PE X (.ListComp elt [⟨tg,iter,ifs,0⟩] scope pos) (tLc wi g tt te (own.map (·.2))):=by
 intro pins s σ H Q I h;rw[eval_ListComp];refine xu hc hN I hi ok hg ht he hs h fun D C s' m H' I' q hn f=>⟨m,hn,fun h'' sb=>?_⟩
 obtain⟨f0,f1,f2,f3,f4,f5⟩:=f;exact⟨.ref D,H',I'.turned (t':=s'.toks) (fun b o hb e=>(sb.2 b hb).trans e) f0 f1 f3 f4 f5,rfl,q⟩
theorem iF{i:Nat}{y:Str}{py:Pos}{elt tg iter:Expr}{ifs:List Expr}{scope:Scope}{own:List (Str×Nat)}{pos spos:Pos}{wi:TI}{g:TG}{tt:TT}{te:TE}(hc:X.calm=true)(hN:X.N.Nodup)(hy:X.N[i]?=some y)(hyl:X.env.scope.names.lookup y=some .local)
  (hsw:swapsWith (.ListComp elt [⟨tg,iter,ifs,0⟩] scope pos) (some (.Name y py)) spos.line X.env=pure true) (hi:PI X tg iter wi) (ok:ud X.N X.env.scope scope own)
  (hg:∀(s:Shared) (H:Hp) (C:Addr) (cl:List (Str×Addr)) (fp:List Addr),PG (X.blk s H scope (compEnvC scope cl C X.env) fp) tg g) (ht:∀(s:Shared) (H:Hp) (C:Addr) (cl:List (Str×Addr)) (fp:List Addr),PTs (X.blk s H scope (compEnvC scope cl C X.env) fp) ifs tt)
  (he:∀(s:Shared) (H:Hp) (C:Addr) (cl:List (Str×Addr)) (fp:List Addr),PE (X.blk s H scope (compEnvC scope cl C X.env) fp) elt te) (hs:∀x,foldedSetIterable iter X.env x=pure x:=by intro _;rfl) :
  PS X (.Assign [.Name y py] (.ListComp elt [⟨tg,iter,ifs,0⟩] scope pos) spos) (Bo (tLc wi g tt te (own.map (·.2))) (fU i)):=by
 intro pins s σ H D I h;rw[exec_Assign_Name_used _ _ _ _ hsw];refine wpAny_bind (wpAny_standAt (wpAny_bind ?_));show wpAny _ X.A (do let _<-comprehension (.ListComp elt [⟨tg,iter,ifs,0⟩] scope pos) scope X.env (firstIterPos [⟨tg,iter,ifs,0⟩] pos) (newList []) false (eval iter X.env) (some (assign (.Name y py) X.env))) _ _ s
 have h:tLc wi g tt te (own.map (·.2)) σ H (fun x H1=>fU i x σ H1 D.nx):=h
 refine wpAny_bind (thn (xu (Qf:=fun _ s'=>SP X pins D .next s') hc hN I hi ok hg ht he hs h fun L C s' m H' I' q hn f=>?_) fun _ s' hq=>wpAny_pure (wpAny_pure hq))
 show wpAny _ _ (assign (.Name y py) X.env (.ref L)) _ _ _;refine wpAny_assign_Name (pM (v:=V.ref L) I' hN hy (.inl hyl) rfl (fun s2 I2 ⟨a,sb,ha⟩=>?_) (.inr hyl))
 obtain⟨f0,f1,f2,f3,f4,f5⟩:=f;have haC:C≠a:=by
  rcases ha with z | z
  ·rw[z];exact f1
  ·exact fun e=>f4 y a z e.symm
 refine⟨m,hn.sameBut sb haC,fun h3 sb3=>?_⟩
 exact⟨_,H',I2.turned (t':=s2.toks) (fun b o hb e=>(sb3.2 b hb).trans e) f0 f1 f3 f4 f5,q⟩
theorem kf{elt:Expr}{gs:List Comprehension}{scope:Scope}{pos py:Pos}{y:Str}{l:Nat}{env:Env}(hk:env.scope.kind=.function)(hy:env.scope.names.lookup y=some .local)(hl:(py.line==pos.line)=true)
  (ha:(scope.names.any fun(n,k)=>n==y&&(k==.local || k==.cell))=false):swapsWith (.ListComp elt gs scope pos) (some (.Name y py)) l env=pure true:=by
 have ky:env.kindOf y=some .local:=hy;have hb:env.blockKind=.function:=by unfold Env.blockKind;rw[hk];rfl
 unfold swapsWith;have hp:(Expr.ListComp elt gs scope pos).pos=pos:=rfl;simp only[hb,ky,ha,hp,hl];rfl
end
theorem tM{lo:Int}{n:Nat}{g:TG}{tt:TT}{te:TE}{vs:List Nat}{σ:St}{H1:Hp}{D:Addr}{Qd:Hp->Prop}(Pv:Nat->Hp->Prop)(h0:Pv 0 (upd H1 D (.lst [])))
  (hs:∀i H,i<n->Pv i H->g (.int (lo+i)) (cy σ vs) H fun σ2 H2=>cy σ2 vs=cy σ vs/\tt σ2 H2 fun b H3=>
   if b=true then te σ2 H3 fun y H4=>∃acc,H4 D=some (.lst acc)/\acc.length<sizeLine/\Pv (i+1) (upd H4 D (.lst (acc++[y]))) else Pv (i+1) H3) (hd:∀H,Pv n H->Qd H) :
  ∃W:Nat->Nat->Hp->Prop,(∃m,W 0 m (upd H1 D (.lst [])))/\∀i m H,W i m H->
   ((Itr lo n).stop i H/\Qd H)\/((Itr lo n).go i H/\∃Nx:Hp->Prop,(∀H',Nx H'->∃m',m'<m/\W (i+1) m' H')/\∀x H',(Itr lo n).yld i H x H'->g x (cy σ vs) H' fun σ2 H2=>cy σ2 vs=cy σ vs/\tt σ2 H2 fun b H3=>
    if b=true then te σ2 H3 fun y H4=>∃acc,H4 D=some (.lst acc)/\acc.length<sizeLine/\Nx (upd H4 D (.lst (acc++[y]))) else Nx H3):=by
 refine⟨fun i m H=>m=n-i/\i<=n/\Pv i H,⟨n,by simp,Nat.zero_le _,h0⟩,?_⟩
 rintro i m H ⟨rfl,hi,p⟩;by_cases hlt:i<n
 ·refine .inr ⟨hlt,Pv (i+1),fun H' p'=>⟨n-(i+1),by omega,rfl,hlt,p'⟩,fun x H' y=>?_⟩
  obtain⟨e,y⟩:=y;subst e y;exact hs i _ hlt p
 ·have e:i=n:=by omega
  subst e;exact .inl ⟨Nat.le_refl _,hd H p⟩
theorem xg{K:PySem.W.Frag}{a:Addr}{xs:List V}{g:TG}{tt:TT}{te:TE}{vs:List Nat}{σ:St}{H1:Hp}{D:Addr}{Qd:Hp->Prop}(Pv:Nat->Hp->Prop)(h0:Pv 0 (upd H1 D (.lst [])))(hl:∀i H,i<=xs.length->Pv i H->SqL K H a xs)
  (hs:∀i x H,xs[i]?=some x->Pv i H->g x (cy σ vs) H fun σ2 H2=>cy σ2 vs=cy σ vs/\tt σ2 H2 fun b H3=>
   if b=true then te σ2 H3 fun y H4=>∃acc,H4 D=some (.lst acc)/\acc.length<sizeLine/\Pv (i+1) (upd H4 D (.lst (acc++[y]))) else Pv (i+1) H3) (hd:∀H,Pv xs.length H->Qd H) :
  ∃W:Nat->Nat->Hp->Prop,(∃m,W 0 m (upd H1 D (.lst [])))/\∀i m H,W i m H->
   ((Itl K a).stop i H/\Qd H)\/((Itl K a).go i H/\∃Nx:Hp->Prop,(∀H',Nx H'->∃m',m'<m/\W (i+1) m' H')/\∀x H',(Itl K a).yld i H x H'->g x (cy σ vs) H' fun σ2 H2=>cy σ2 vs=cy σ vs/\tt σ2 H2 fun b H3=>
    if b=true then te σ2 H3 fun y H4=>∃acc,H4 D=some (.lst acc)/\acc.length<sizeLine/\Nx (upd H4 D (.lst (acc++[y]))) else Nx H3):=by
 refine⟨fun i m H=>m=xs.length-i/\i<=xs.length/\Pv i H,⟨xs.length,by simp,Nat.zero_le _,h0⟩,?_⟩
 rintro i m H ⟨rfl,hi,p⟩;have q:=hl i H hi p;by_cases hlt:i<xs.length
 ·refine .inr ⟨⟨xs,xs[i],q,by simp[hlt]⟩,Pv (i+1),fun H' p'=>⟨xs.length-(i+1),by omega,rfl,hlt,p'⟩,fun x H' y=>?_⟩
  obtain⟨e,y⟩:=y;subst e;exact hs i x _ (y xs q) p
 ·have e:i=xs.length:=by omega
  subst e;exact .inl ⟨⟨xs,q,Nat.le_refl _⟩,hd H p⟩
theorem Hk{K:PySem.W.Frag}{a:Addr}{xs:List V}{g:TG}{tt:TT}{te:TE}{vs:List Nat}{σ:St}{H1:Hp}{D:Addr}{Qd:Hp->Prop}(Pv:Nat->Hp->Prop)(h0:Pv 0 (upd H1 D (.lst [])))(hl:∀i H,i<=xs.length->Pv i H->SqT K H a xs)
  (hs:∀i x H,xs[i]?=some x->Pv i H->g x (cy σ vs) H fun σ2 H2=>cy σ2 vs=cy σ vs/\tt σ2 H2 fun b H3=>
   if b=true then te σ2 H3 fun y H4=>∃acc,H4 D=some (.lst acc)/\acc.length<sizeLine/\Pv (i+1) (upd H4 D (.lst (acc++[y]))) else Pv (i+1) H3) (hd:∀H,Pv xs.length H->Qd H) :
  ∃W:Nat->Nat->Hp->Prop,(∃m,W 0 m (upd H1 D (.lst [])))/\∀i m H,W i m H->
   ((Itt K a).stop i H/\Qd H)\/((Itt K a).go i H/\∃Nx:Hp->Prop,(∀H',Nx H'->∃m',m'<m/\W (i+1) m' H')/\∀x H',(Itt K a).yld i H x H'->g x (cy σ vs) H' fun σ2 H2=>cy σ2 vs=cy σ vs/\tt σ2 H2 fun b H3=>
    if b=true then te σ2 H3 fun y H4=>∃acc,H4 D=some (.lst acc)/\acc.length<sizeLine/\Nx (upd H4 D (.lst (acc++[y]))) else Nx H3):=by
 refine⟨fun i m H=>m=xs.length-i/\i<=xs.length/\Pv i H,⟨xs.length,by simp,Nat.zero_le _,h0⟩,?_⟩
 rintro i m H ⟨rfl,hi,p⟩;have q:=hl i H hi p;by_cases hlt:i<xs.length
 ·refine .inr ⟨⟨xs,xs[i],q,by simp[hlt]⟩,Pv (i+1),fun H' p'=>⟨xs.length-(i+1),by omega,rfl,hlt,p'⟩,fun x H' y=>?_⟩
  obtain⟨e,y⟩:=y;subst e;exact hs i x _ (y xs q) p
 ·have e:i=xs.length:=by omega
  subst e;exact .inl ⟨⟨xs,q,Nat.le_refl _⟩,hd H p⟩
noncomputable def gv(N:List Str)(sc scope:Scope)(own:List (Str×Nat)):Bool:=
 (match scope.kind with | .function=>true | _=>false)&&(scope.names.all fun y=>decide (scope.names.lookup y.1=some y.2))&&(own.all fun p=>decide (N[p.2]?=some p.1))&&
  (scope.names.all fun y=>match y.2 with
   |.free=>(match sc.names.lookup y.1 with | some .cell=>true | some .free=>true | _=>false)
   |.local=>decide (y.1∈own.map (·.1)) || decide (y.1 ∉ N)
   |.cell=>decide (y.1∈own.map (·.1)) || decide (y.1 ∉ N)
   |_=>true)
theorem bD{N:List Str}{sc scope:Scope}{own:List (Str×Nat)}(h:gv N sc scope own=true):ud N sc scope own:=by
 unfold gv at h;simp only[Bool.and_eq_true,List.all_eq_true,decide_eq_true_eq] at h;obtain⟨⟨⟨h1,h2⟩,h3⟩,h4⟩:=h;refine⟨?_,h2,h3,fun y hy e=>?_,fun y hy e=>?_⟩
 ·split at h1
  ·assumption
  ·cases h1
 ·have q:=h4 y hy;simp only[e] at q;split at q<;>first | exact .inl (by assumption) | exact .inr (by assumption) | cases q
 ·have q:=h4 y hy;rcases e with e | e<;>(simp only[e,Bool.or_eq_true,decide_eq_true_eq] at q;exact q)
end L2
namespace L2
open PySem PySem.Spec PyProof.Rows
end L2
namespace L2
open PySem PySem.Spec PyProof.Rows
section
variable{κ:Type}[DecidableEq κ]
noncomputable def cw(kvs:List (κ×V))(k:κ):Option V:=(kvs.find? fun kv=>decide (kv.1=k)).map (·.2)
noncomputable def dt(kvs:List (κ×V))(k:κ)(v:V):List (κ×V):=
 if(kvs.any fun kv=>decide (kv.1=k))=true then kvs.map (fun kv=>if kv.1=k then(kv.1,v) else kv) else kvs++[(k,v)]
theorem cK{p:κ×V}{r:List (κ×V)}{k:κ}(e:p.1=k):cw (p::r) k=some p.2:=by simp[cw,List.find?_cons,e]
theorem cx{p:κ×V}{r:List (κ×V)}{k:κ}(e:¬p.1=k):cw (p::r) k=cw r k:=by simp[cw,List.find?_cons,e]
theorem gH(k:κ):∀kvs:List (κ×V),(kvs.any fun kv=>decide (kv.1=k))=(cw kvs k).isSome
 |[]=>rfl
 |p::r=>by
  rw[List.any_cons];by_cases e:p.1=k
  ·simp only[cK e,decide_eq_true e,Bool.true_or,Option.isSome_some]
  ·rw[cx e,decide_eq_false e,Bool.false_or];exact gH k r
theorem sy(k j:κ)(y:V):∀kvs:List (κ×V),cw (kvs.map fun kv=>if kv.1=k then(kv.1,y) else kv) j=(cw kvs j).map fun x=>if j=k then y else x
 |[]=>rfl
 |p::r=>by
  have ih:=sy k j y r;rw[List.map_cons];by_cases h:p.1=k
  ·rw[if_pos h];by_cases e:p.1=j
   ·rw[cK (p:=(p.1,y)) e,cK e,Option.map_some,if_pos (e.symm.trans h)]
   ·rw[cx (p:=(p.1,y)) e,cx e,ih]
  ·rw[if_neg h];by_cases e:p.1=j
   ·rw[cK (p:=p) e,cK e,Option.map_some,if_neg (fun z=>h (e.trans z))]
   ·rw[cx (p:=p) e,cx e,ih]
theorem pK(k j:κ)(y:V):∀kvs:List (κ×V),cw kvs k=none->cw (kvs++[(k,y)]) j=if j=k then some y else cw kvs j
 |[],_=>by
  by_cases e:k=j
  ·rw[if_pos e.symm];exact cK (p:=(k,y)) e
  ·rw[if_neg (fun z=>e z.symm)];exact cx (p:=(k,y)) e
 |p::r,hn=>by
  rw[List.cons_append];have hk:¬p.1=k:=fun z=>by rw[cK z] at hn;cases hn
  rw[cx hk] at hn;have ih:=pK k j y r hn;by_cases e:p.1=j
  ·rw[cK e,cK e,if_neg (fun z=>hk (e.trans z))]
  ·rw[cx e,cx e,ih]
theorem gP(kvs:List (κ×V))(k j:κ)(y:V):cw (dt kvs k y) j=if j=k then some y else cw kvs j:=by
 unfold dt;by_cases a:(kvs.any fun kv=>decide (kv.1=k))=true
 ·rw[if_pos a,sy];rw[gH] at a;by_cases e:j=k
  ·obtain⟨x,hx⟩:=Option.isSome_iff_exists.mp a;rw[if_pos e,e,hx,Option.map_some,if_pos rfl]
  ·rw[if_neg e];cases cw kvs j with
   |none=>rfl
   |some x=>rw[Option.map_some,if_neg e]
 ·rw[if_neg a];refine pK k j y kvs ?_;rw[gH] at a;cases q:cw kvs k with
  |none=>rfl
  |some x=>rw[q] at a;exact(a rfl).elim
theorem d6(kvs:List (κ×V))(k:κ)(v:V):(dt kvs k v).length<=kvs.length+1:=by
 unfold dt;split
 ·rw[List.length_map];omega
 ·rw[List.length_append,List.length_cons,List.length_nil];omega
theorem g8.isSome_eq{o:Option V}{u:Option Value}(r:g8 o u):o.isSome=u.isSome:=by
 cases o with
 |none=>cases u with
  |none=>rfl
  |some _=>exact(show False from r).elim
 |some _=>cases u with
  |none=>exact(show False from r).elim
  |some _=>rfl
theorem g8.getD{o:Option V}{u:Option Value}{d:V}{d':Value}(r:g8 o u)(rd:b8 d d'):b8 (o.getD d) (u.getD d'):=by
 cases o with
 |none=>cases u with
  |none=>exact rd
  |some _=>exact(show False from r).elim
 |some _=>cases u with
  |none=>exact(show False from r).elim
  |some _=>exact r
theorem KV.val{kvs:List (κ×V)}{vs:List (κ×Value)}(r:KV kvs vs)(k:κ):g8 (cw kvs k) (valueAt vs k):=by
 unfold KV at r
 induction r with
 |nil=>exact True.intro
 |@cons p q ps qs h t ih=>
  obtain⟨h1,h2⟩:=h;by_cases e:p.1=k
  ·have e':q.1=k:=h1.symm.trans e;have b:valueAt (q::qs) k=some q.2:=by simp[valueAt,List.find?_cons,e']
   rw[cK e,b];exact h2
  ·have e':¬q.1=k:=fun z=>e (h1.trans z)
   have b:valueAt (q::qs) k=valueAt qs k:=by simp[valueAt,List.find?_cons,e']
   rw[cx e,b];exact ih
theorem KV.any{kvs:List (κ×V)}{vs:List (κ×Value)}(r:KV kvs vs)(k:κ):(kvs.any fun kv=>decide (kv.1=k))=vs.any fun kv=>decide (kv.1=k):=by
 unfold KV at r
 induction r with
 |nil=>rfl
 |cons h t ih=>rw[List.any_cons,List.any_cons,ih,h.1]
theorem KV.repl{kvs:List (κ×V)}{vs:List (κ×Value)}(r:KV kvs vs)(k:κ){y:V}{u:Value}(ry:b8 y u) :
  KV (kvs.map fun kv=>if kv.1=k then(kv.1,y) else kv) (vs.map fun kv=>if kv.1=k then(kv.1,u) else kv):=by
 unfold KV at r ⊢
 induction r with
 |nil=>exact .nil
 |@cons p q ps qs h t ih=>
  rw[List.map_cons,List.map_cons];refine .cons ?_ ih;obtain⟨h1,h2⟩:=h;by_cases e:p.1=k
  ·rw[if_pos e,if_pos (h1.symm.trans e)];exact⟨h1,ry⟩
  ·rw[if_neg e,if_neg (fun z=>e (h1.trans z))];exact⟨h1,h2⟩
theorem KV.put{kvs:List (κ×V)}{vs:List (κ×Value)}(r:KV kvs vs)(k:κ){y:V}{u:Value}(ry:b8 y u):KV (dt kvs k y) (stored vs k u):=by
 unfold dt stored;rw[r.any k];by_cases e:(vs.any fun kv=>decide (kv.1=k))=true
 ·rw[if_pos e,if_pos e];exact r.repl k ry
 ·rw[if_neg e,if_neg e];exact Paired.snoc r ⟨rfl,ry⟩
theorem KV.length{kvs:List (κ×V)}{vs:List (κ×Value)}(r:KV kvs vs):kvs.length=vs.length:=Paired.length r
end
theorem jm{P:Program}{w:World}{k:Key}{u:Value}(r:b8 (kV k) u):(bw P w).is k u=true:=by
 cases k with
 |inl i=>obtain⟨t,e⟩:=(show ∃t,u=Value.int i t from r);subst e;exact iR P w i t
 |inr x=>obtain⟨t,e⟩:=(show ∃t,u=Value.str x t from r);subst e;exact iH P w x t
theorem pZ{P:Program}{w:World}:∀{ks:List Key}{us:List Value},aY (ks.map kV) us->ItemsAre (bw P w) ks us
 |[],_,r=>by rw[List.map_nil] at r;cases r;exact .nil
 |k::ks,_,r=>by
  rw[List.map_cons] at r;cases r with
  |cons h t=>exact .cons (jm h) (pZ t)
abbrev KT(H:Hp):List (List Key×V)->List (List Key×Addr×Value)->Prop:=Paired fun p q=>p.1=q.1/\H q.2.1=some (.tup (p.1.map kV))/\b8 p.2 q.2.2
theorem KT.val{H:Hp}{kvs:List (List Key×V)}{xs:List (List Key×Addr×Value)}(r:KT H kvs xs)(k:List Key):g8 (cw kvs k) ((atKey xs k).map (·.2)):=by
 induction r with
 |nil=>exact True.intro
 |@cons p q ps qs h t ih=>
  obtain⟨h1,_,h2⟩:=h;by_cases e:p.1=k
  ·have e':q.1=k:=h1.symm.trans e;have b:atKey (q::qs) k=some q.2:=by simp[atKey,List.find?_cons,e']
   rw[cK e,b];exact h2
  ·have e':¬q.1=k:=fun z=>e (h1.trans z)
   have b:atKey (q::qs) k=atKey qs k:=by simp[atKey,List.find?_cons,e']
   rw[cx e,b];exact ih
theorem KT.repl{H:Hp}{kvs:List (List Key×V)}{xs:List (List Key×Addr×Value)}(r:KT H kvs xs)(k:List Key){y:V}{u:Value}(ry:b8 y u) :
  KT H (kvs.map fun kv=>if kv.1=k then(kv.1,y) else kv) (xs.map (putAt k u)):=by
 induction r with
 |nil=>exact .nil
 |@cons p q ps qs h t ih=>
  rw[List.map_cons,List.map_cons];refine .cons ?_ ih;obtain⟨h1,h2,h3⟩:=h;unfold putAt;by_cases e:p.1=k
  ·rw[if_pos e,if_pos (h1.symm.trans e)];exact⟨h1,h2,ry⟩
  ·rw[if_neg e,if_neg (fun z=>e (h1.trans z))];exact⟨h1,h2,h3⟩
theorem KT.put{H:Hp}{kvs:List (List Key×V)}{xs:List (List Key×Addr×Value)}(r:KT H kvs xs)(k:List Key){b:Addr}{y:V}{u:Value}(hb:H b=some (.tup (k.map kV)))(ry:b8 y u) :
  KT H (dt kvs k y) (storedH xs k b u):=by
 have e:(kvs.any fun kv=>decide (kv.1=k))=(atKey xs k).isSome:=by
  rw[gH,(r.val k).isSome_eq,Option.isSome_map]
 unfold dt storedH;rw[e];by_cases q:(atKey xs k).isSome=true
 ·rw[if_pos q,if_pos q];exact r.repl k ry
 ·rw[if_neg q,if_neg q];exact Paired.snoc r ⟨rfl,hb,ry⟩
theorem KT.keeps{H H':Hp}{kvs:List (List Key×V)}{xs:List (List Key×Addr×Value)}(r:KT H kvs xs)(ht:∀b ys,H b=some (.tup ys)->H' b=some (.tup ys)):KT H' kvs xs:=
 Paired.mapP r fun _ _ z=>⟨z.1,ht _ _ z.2.1,z.2.2⟩
section
variable{P:Program}{w:World}{H:Hp}{h:Heap}{a:Addr}
theorem Fe{u:HO}(ok:HOk P w H h)(e:Rd H a u):d7 P w H h a u:=e.ok ok
theorem uD{kvs:List (Key×V)}(ok:HOk P w H h)(e:Rd H a (.dK kvs)):kvs.length<=sizeLine/\(a==sysModules)=false/\∃vs,KV kvs vs/\h.DictOf (bw P w) a vs:=
 show d7 P w H h a (.dK kvs) from Fe ok e
theorem EJ{kvs:List (Key×V)}(ok:HOk P w H h)(e:H a=some (.dK kvs)):kvs.length<=sizeLine/\(a==sysModules)=false/\∃vs,KV kvs vs/\h.DictOf (bw P w) a vs:=uD ok (.inl e)
theorem qv{ks:List Key}(ok:HOk P w H h)(e:H a=some (.tup (ks.map kV))):(tupleKind (bw P w)).is h ks a:=by
 obtain⟨_,its,r,o,h1,h2,n,h3⟩:=(show d7 P w H h a (.tup (ks.map kV)) from ok a _ e)
 exact⟨o,its.toArray,n,h1,h2,h3,by simpa using pZ r⟩
theorem tf{kvs:List (List Key×V)}(ok:HOk P w H h)(e:Rd H a (.dT kvs)):kvs.length<=sizeLine/\(a==sysModules)=false/\
  ∃xs,KT H kvs xs/\h.DictOfH (tupleKind (bw P w)) a xs:=by
 obtain⟨z,y,xs,r,o,es,ep,h1,h2,h3,h4,h5⟩:=(show d7 P w H h a (.dT kvs) from Fe ok e)
 refine⟨z,y,xs,r,o,es,ep,h1,h2,h3,h4,fun x hx=>?_,h5⟩
 have all:∀{l:List (List Key×V)} {m:List (List Key×Addr×Value)},KT H l m->∀x∈m,(tupleKind (bw P w)).is h x.1 x.2.1:=by
  intro l m q
  induction q with
  |nil=>intro x hx;exact nomatch hx
  |@cons p q ps qs hq t ih=>
   intro x hx;rcases List.mem_cons.mp hx with e | hx
   ·subst e;exact qv ok (by rw[<-hq.1];exact hq.2.1)
   ·exact ih x hx
 exact all r x hx
theorem HI{kvs:List (List Key×V)}(ok:HOk P w H h)(e:H a=some (.dT kvs)):kvs.length<=sizeLine/\(a==sysModules)=false/\
  ∃xs,KT H kvs xs/\h.DictOfH (tupleKind (bw P w)) a xs:=tf ok (.inl e)
end
def ie(H:Hp)(a:Addr)(y:V)(r:Option V):Prop:=
 (∃kvs k,Rd H a (.dK kvs)/\y=kV k/\r=cw kvs k)\/∃kvs k b,Rd H a (.dT kvs)/\y=.ref b/\H b=some (.tup (k.map kV))/\r=cw kvs k
def lP(H:Hp)(a:Addr)(y v:V)(H':Hp):Prop:=
 (∃kvs k,H a=some (.dK kvs)/\y=kV k/\kvs.length<sizeLine/\H'=upd H a (.dK (dt kvs k v)))\/
 ∃kvs k b,H a=some (.dT kvs)/\y=.ref b/\H b=some (.tup (k.map kV))/\kvs.length<sizeLine/\H'=upd H a (.dT (dt kvs k v))
theorem ie.k{H:Hp}{a:Addr}{kvs:List (Key×V)}{k:Key}(e:H a=some (.dK kvs)):ie H a (kV k) (cw kvs k):=.inl ⟨kvs,k,.inl e,rfl,rfl⟩
theorem ie.t{H:Hp}{a b:Addr}{kvs:List (List Key×V)}{k:List Key}(e:H a=some (.dT kvs))(eb:H b=some (.tup (k.map kV))):ie H a (.ref b) (cw kvs k):=.inr ⟨kvs,k,b,.inl e,rfl,eb,rfl⟩
theorem lP.k{H:Hp}{a:Addr}{kvs:List (Key×V)}{k:Key}{v:V}(e:H a=some (.dK kvs))(hl:kvs.length<sizeLine):lP H a (kV k) v (upd H a (.dK (dt kvs k v))):=.inl ⟨kvs,k,e,rfl,hl,rfl⟩
theorem lP.t{H:Hp}{a b:Addr}{kvs:List (List Key×V)}{k:List Key}{v:V}(e:H a=some (.dT kvs))(eb:H b=some (.tup (k.map kV)))(hl:kvs.length<sizeLine) :
  lP H a (.ref b) v (upd H a (.dT (dt kvs k v))):=.inr ⟨kvs,k,b,e,rfl,eb,hl,rfl⟩
section
variable{X:Cx}{pins:List (Addr×Obj)}{σ:St}{H:Hp}{s:Shared}{a:Addr}{y v:V}{u r:Value}{o:Option V}{A:Around}{E:Value->Shared->Prop}
theorem Inv.big(I:Inv X pins σ H s):sysModules<s.heap.objs.size:=by
 have h:mainGlobals<s.heap.objs.size:=(I.mod.glob.keeps I.bk).lt;exact Nat.lt_trans (by decide) h
theorem yd{Q:Value->Shared->Prop}(hu:A.units+1<cLine)(I:Inv X pins σ H s)(g:ie H a y (some v))(ry:b8 y u)(h:∀w' s',Inv X pins σ H s'->b8 v w'->Q w' s') :
  wpAny (model X.prog X.w) A (getItem (.ref a) u) Q E s:=by
 rcases g with⟨kvs,k,e,ey,l⟩ | ⟨kvs,k,b,e,ey,eb,l⟩
 ·subst ey;obtain⟨z,hd,vs,rel,dd⟩:=uD I.hok e;obtain⟨w',hw,rw'⟩:=g8.some_of (v:=v) (o:=valueAt vs k) (by rw[l];exact rel.val k)
  exact wpAny_getItem_of (jm ry) dd.mapOf hw (h w' _ (I.tok _) rw')
 ·subst ey;cases (show u=Value.ref b from ry)
  obtain⟨z,hd,xs,rel,dd⟩:=tf I.hok e;obtain⟨w',hw,rw'⟩:=g8.some_of (v:=v) (o:=(atKey xs k).map (·.2)) (by rw[l];exact rel.val k)
  obtain⟨p,hp,hp2⟩:=Option.map_eq_some_iff.mp hw;refine wpAny_getItem_heap (tupleKind_room_in1 hu) (qv I.hok eb) dd hp ?_;rw[hp2];exact h w' _ (I.tok _) rw'
theorem ql{h':Heap}{t':Nat}{ob:HO}(I:Inv X pins σ H s)(mu:Mut (H a))(hs:Heap.SameBut a s.heap h')(he:∃q,h'.get? a=some q)(new:d7 X.prog X.w (upd H a ob) h' a ob) :
  Inv X pins σ (upd H a ob) { s with heap:=h',toks:=t' }:=
 I.write (x:=a) (e:=a) mu (.inl rfl) (fun b q hb z=>(hs.2 b hb).trans z) he new
theorem AO{P:Program}{w:World}{H':Hp}{h':Heap}{kvs:List (Key×V)}{vs:List (Key×Value)}(z:kvs.length<=sizeLine)(hd:(a==sysModules)=false)(rel:KV kvs vs)(dd:h'.DictOf (bw P w) a vs) :
  d7 P w H' h' a (.dK kvs):=⟨z,hd,vs,rel,dd⟩
theorem ya{H':Hp}{Q:Unit->Shared->Prop}(hu:A.units+1<cLine)(I:Inv X pins σ H s)(g:lP H a y v H')(ry:b8 y u)(rv:b8 v r)(h:∀s',Inv X pins σ H' s'->Q () s') :
  wpAny (model X.prog X.w) A (setItem (.ref a) u r) Q E s:=by
 rcases g with⟨kvs,k,e,ey,l,eH⟩ | ⟨kvs,k,b,e,ey,eb,l,eH⟩
 ·subst ey eH;obtain⟨z,hd,vs,rel,dd⟩:=EJ I.hok e;have hz:vs.length<=sizeLine:=by rw[<-rel.length];exact z
  have hl:(dt kvs k v).length<=sizeLine:=by have:=d6 kvs k v;omega
  refine wpAny_setItem_pairs (hsz:=hz) (jm ry) dd fun h' dd' hs=>h _ ?_
  have he:∃q,h'.get? a=some q:=let ⟨q,_,_,hq,_⟩:=dd';⟨q,hq⟩;exact ql I (by rw[e];exact True.intro) hs he (AO hl hd (rel.put k rv) dd')
 ·subst ey eH;cases (show u=Value.ref b from ry)
  obtain⟨z,hd,xs,rel,dd⟩:=HI I.hok e;have hz:xs.length<=sizeLine:=by rw[<-Paired.length rel];exact z
  have hl:(dt kvs k v).length<=sizeLine:=by have:=d6 kvs k v;omega
  refine wpAny_setItem_heap (hsz:=hz) (tupleKind_room_in1 hu) (qv I.hok eb) dd fun h' dd' hs=>h _ ?_
  obtain⟨q,es,ep,hq,h2,h3,h4,_,h5⟩:=dd';refine ql I (by rw[e];exact True.intro) hs ⟨q,hq⟩ ⟨hl,hd,_,(rel.put k eb rv).keeps fun c ys ec=>?_,q,es,ep,hq,h2,h3,h4,h5⟩
  rw[af (cX ec e (fun z=>nomatch z))]
  exact ec
end
def Dr(i:Expr):Prop:=∀ov iv,subscripted i false ov iv=operate [ov,iv] (getItem ov iv)
theorem rL{prog:Program}{w:World}{A:Around}{E:Value->Shared->Prop}{s:Shared}{env:Env}{value slice:Expr}{pos:Pos}{T id:String}{Q:Value->Shared->Prop}
  (hl:typeLookup (.type T) "__getitem__" = pure (some (.builtin id))) (hs:Dr slice)
  (h:wpAny (model prog w) A (eval value env) (fun o s₁=>wpAny (model prog w) A (eval slice env) (fun i s₂=>s₂.TypeIs o T/\wpAny (model prog w) A (getItem o i) Q E s₂) E s₁) E s) :
  wpAny (model prog w) A (eval (.Subscript value slice pos) env) Q E s:=by
 refine Subscript_ (wpAny_mono h (fun o s₁ h₁=>wpAny_mono h₁ (fun i s₂ h₂=>?_) fun _ _ x=>x) fun _ _ x=>x)
 obtain⟨hT,h₂⟩:=h₂;unfold subscriptTail;refine wpAny_bind ?_;rw[getitemInPython_of_ne hT.not_modules];refine wpAny_bind (wpAny_specialOf hT hl ?_);have fin:wpAny (model prog w) A (subscripted slice false o i) (fun r s₃=>wpAny (model prog w) A (letTemporaryGo value o r >>= fun _=>pure r) Q E s₃) E s₂:=by
  rw[hs o i];exact wpAny_operating (wpAny_mono h₂ (fun r s₃ h₃=>wpAny_bind (wpAny_letTemporaryGo (wpAny_pure h₃))) fun _ _ x=>x)
 first
  |exact wpAny_pure (wpAny_bind fin)
  |exact wpAny_bind (wpAny_pure (wpAny_bind fin))
  |exact wpAny_bind fin
theorem sN{X:Cx}{pins:List (Addr×Obj)}{σ:St}{H:Hp}{s:Shared}{a:Addr}{y:V}{o:Option V}(I:Inv X pins σ H s)(g:ie H a y o):s.TypeIs (.ref a) "dict" := by
 rcases g with⟨kvs,k,e,_,_⟩ | ⟨kvs,k,b,e,_,_,_⟩
 ·obtain⟨_,_,vs,_,dd⟩:=uD I.hok e;exact dd.typeIs
 ·obtain⟨_,_,xs,_,dd⟩:=tf I.hok e;exact dd.typeIs
def tJ(td ty:TE):TE:=fun σ H Q=>td σ H fun x H1=>ty σ H1 fun y H2=>∃a v,x=.ref a/\ie H2 a y (some v)/\Q v H2
def IJ(td ty tv:TE):TS:=fun D σ H=>tv σ H fun v H1=>td σ H1 fun x H2=>ty σ H2 fun y H3=>∃a H4,x=.ref a/\lP H3 a y v H4/\D.nx σ H4
section
variable{X:Cx}{o i e value:Expr}{pos pos' tpos:Pos}{td ty tv:TE}
theorem bx(hu:X.A.units+1<cLine)(ho:PE X o td)(hi:PE X i ty)(hs:Dr i):PE X (.Subscript o i pos) (tJ td ty):=by
 intro pins s σ H Q I h;refine rL PySem.F.slot_dict_getitem.lookup hs (thn (ho pins s σ H _ I h) fun u s1 ⟨x,H1,I1,rx,q1⟩=>thn (hi pins s1 σ H1 _ I1 q1) fun iv s2 ⟨y,H2,I2,ry,a,v,ex,g,q2⟩=>?_)
 subst ex;obtain rfl:u=Value.ref a:=rx;exact⟨sN I2 g,yd hu I2 g ry fun w' s3 I3 rw'=>⟨v,H2,I3,rw',q2⟩⟩
theorem jL(hu:X.A.units+1<cLine)(ho:PE X o td)(hi:PE X i ty)(hv:PE X value tv)(hs:swapsWith value (some (.Subscript o i pos')) pos.line X.env=pure false) :
  PS X (.Assign [.Subscript o i pos'] value pos) (IJ td ty tv):=by
 intro pins s σ H D I h;refine wpAny_Assign_Subscript (thn (hv pins s σ H _ I h) fun r s1 ⟨v,H1,I1,rv,q1⟩=>thn (ho pins s1 σ H1 _ I1 q1) fun u s2 ⟨x,H2,I2,rx,q2⟩=>thn (hi pins s2 σ H2 _ I2 q2) fun iv s3 ⟨y,H3,I3,ry,a,H4,ex,g,q3⟩=>?_) hs
 subst ex;obtain rfl:u=Value.ref a:=rx;exact ya hu I3 g ry rv fun s4 I4=>⟨σ,H4,I4,q3⟩
end
theorem tT{P:Program}{w:World}{H:Hp}(h:Heap)(hb:sysModules<h.objs.size):d7 P w H (h.push { cls:=.type "dict",data:=.dict #[] }) h.objs.size (.dK []):=
 ⟨Nat.zero_le _,beq_eq_false_iff_ne.mpr (Ne.symm (Nat.ne_of_lt hb)),[],.nil,Heap.DictOf.new h⟩
theorem Al{P:Program}{w:World}{H:Hp}(h:Heap)(hb:sysModules<h.objs.size):d7 P w H (h.push { cls:=.type "dict",data:=.dict #[] }) h.objs.size (.dT []):=
 ⟨Nat.zero_le _,beq_eq_false_iff_ne.mpr (Ne.symm (Nat.ne_of_lt hb)),[],.nil,_,#[],0,Heap.get?_push_size _ rfl,⟨rfl,rfl,rfl⟩,rfl,rfl,List.nodup_nil⟩
def GS:TE:=fun _ H Q=>∀p,H p=none->Q (.ref p) (upd H p (.dK []))
def Hl:TE:=fun _ H Q=>∀p,H p=none->Q (.ref p) (upd H p (.dT []))
section
variable{X:Cx}{pos:Pos}
theorem ur:PE X (.Dict [] [] pos) GS:=fun pins s σ H Q I h=>
 wpAny_Dict_empty ⟨.ref s.heap.objs.size,_,I.laid (a:=s.heap.objs.size) (o:=.dK []) (t':=s.toks) (fun _ _ q=>Heap.get?_push_of_some _ q) (Nat.le_refl _) (tT s.heap I.big),rfl,h _ (I.hok.fresh (Nat.le_refl _))⟩
theorem zO:PE X (.Dict [] [] pos) Hl:=fun pins s σ H Q I h=>
 wpAny_Dict_empty ⟨.ref s.heap.objs.size,_,I.laid (a:=s.heap.objs.size) (o:=.dT []) (t':=s.toks) (fun _ _ q=>Heap.get?_push_of_some _ q) (Nat.le_refl _) (Al s.heap I.big),rfl,h _ (I.hok.fresh (Nat.le_refl _))⟩
end
def vw:List (TE×TE)->St->Hp->(List (V×V)->Hp->Prop)->Prop
 |[],_,H,Q=>Q [] H
 |(tk,tv)::r,σ,H,Q=>tk σ H fun x H1=>tv σ H1 fun y H2=>vw r σ H2 fun ps H3=>Q ((x,y)::ps) H3
abbrev VV:List (V×V)->List (Value×Value)->Prop:=Paired fun p q=>b8 p.1 q.1/\b8 p.2 q.2
def PPs(X:Cx)(pos:Pos)(keys:List (Option Expr))(values:List Expr)(trs:List (TE×TE)):Prop:=
 ∀(pins:List (Addr×Obj)) (s:Shared) (σ:St) (H:Hp) (Q:List (V×V)->Hp->Prop),Inv X pins σ H s->vw trs σ H Q->
  wpAny (model X.prog X.w) X.A (evalPairs (pairTrees keys values X.env pos)) (fun vs s'=>∃ps H',Inv X pins σ H' s'/\VV ps vs/\Q ps H') X.xe s
theorem qM{X:Cx}{pos:Pos}:PPs X pos [] [] []:=fun pins s σ H Q I h=>pairTrees_nil_walk ⟨[],H,I,.nil,h⟩
theorem jS{X:Cx}{pos:Pos}{k v:Expr}{ks:List (Option Expr)}{vs:List Expr}{tk tv:TE}{trs:List (TE×TE)}(hk:PE X k tk)(hv:PE X v tv)(hr:PPs X pos ks vs trs) :
  PPs X pos (some k::ks) (v::vs) ((tk,tv)::trs):=fun pins s σ H Q I h=>
 pairTrees_cons_walk (thn (hk pins s σ H _ I h) fun u s1 ⟨x,H1,I1,rx,q1⟩=>thn (hv pins s1 σ H1 _ I1 q1) fun w2 s2 ⟨y,H2,I2,ry,q2⟩=>
  thn (hr pins s2 σ H2 _ I2 q2) fun ws s3 ⟨ps,H3,I3,rel,q3⟩=>⟨(x,y)::ps,H3,I3,.cons ⟨rx,ry⟩ rel,q3⟩)
def kP(kvs more:List (Key×V)):List (Key×V):=more.foldl (fun acc kv=>dt acc kv.1 kv.2) kvs
theorem KV.merge:∀{more:List (Key×V)}{rs:List (Key×Value)}{kvs:List (Key×V)}{vs:List (Key×Value)},KV more rs->KV kvs vs->KV (kP kvs more) (merged vs rs):=by
 intro more rs kvs vs r;unfold KV at r
 induction r generalizing kvs vs with
 |nil=>intro q;exact q
 |@cons p q ps qs h t ih=>
  intro r0;have e:KV (dt kvs p.1 p.2) (stored vs q.1 q.2):=by
   have:=r0.put p.1 h.2;rw[<-h.1];exact this
  exact ih e
theorem jf:∀(more kvs:List (Key×V)),(kP kvs more).length<=kvs.length+more.length
 |[],kvs=>by show kvs.length<=kvs.length+0;omega
 |p::r,kvs=>by
  have h1:=jf r (dt kvs p.1 p.2);have h2:=d6 kvs p.1 p.2;show(kP (dt kvs p.1 p.2) r).length<=_;rw[List.length_cons];omega
theorem mq{P:Program}{w:World}:∀{kvs:List (Key×V)}{ws:List (Value×Value)},VV (kvs.map fun kv=>(kV kv.1,kv.2)) ws->∃rs,Carries (bw P w) ws rs/\KV kvs rs
 |[],_,r=>by rw[List.map_nil] at r;cases r;exact⟨[],True.intro,.nil⟩
 |p::kvs,_,r=>by
  rw[List.map_cons] at r;cases r with
  |@cons a b as bs h t=>
   obtain⟨rs,c,q⟩:=mq (P:=P) (w:=w) t;obtain⟨b1,b2⟩:=b;exact⟨(p.1,b2)::rs,⟨jm h.1,rfl,c⟩,.cons ⟨rfl,h.2⟩ q⟩
def Ak(trs:List (TE×TE)):TE:=fun σ H Q=>∀p,H p=none->vw trs σ (upd H p (.dK [])) fun ps H2=>H2 p=some (.dK [])/\∃kvs:List (Key×V),ps=kvs.map (fun kv=>(kV kv.1,kv.2))/\kvs.length<=15/\Q (.ref p) (upd H2 p (.dK (kP [] kvs)))
theorem rq{X:Cx}{pos:Pos}{keys:List (Option Expr)}{values:List Expr}{trs:List (TE×TE)}(h:PPs X pos keys values trs)(hall:keys.all (·.isSome)=true)(hl:keys.length=values.length)(h0:keys≠[])
  (h15:keys.length<=15):PE X (.Dict keys values pos) (Ak trs):=by
 intro pins s σ H Q I q;have hn:=I.hok.fresh (Nat.le_refl s.heap.objs.size);have I1:=I.laid (a:=s.heap.objs.size) (o:=.dK []) (h':=s.heap.push { cls:=.type "dict",data:=.dict #[] }) (t':=s.toks) (fun _ _ q=>Heap.get?_push_of_some _ q) (Nat.le_refl _) (tT s.heap I.big)
 refine wpAny_Dict_walk (knd:=bw X.prog X.w) hall hl h0 h15 (thn (h pins _ σ _ _ I1 (q _ hn)) fun ws s2 ⟨ps,H2,I2,rel,e,kvs,ep,lk,q2⟩=>?_)
 subst ep;obtain⟨rs,c,rk⟩:=mq (P:=X.prog) (w:=X.w) rel;obtain⟨z,hd,vs0,r0,dd⟩:=EJ I2.hok e;cases r0;refine⟨rs,c,dd,fun h' dd' hs=>⟨.ref s.heap.objs.size,_,?_,rfl,q2⟩⟩
 have hz:(kP [] kvs).length<=sizeLine:=by
  have h1:=jf kvs [];rw[List.length_nil] at h1;rw[sizeLine_eq];omega
 have he:∃q,h'.get? s.heap.objs.size=some q:=let ⟨q,_,_,hq,_⟩:=dd';⟨q,hq⟩;exact ql I2 (by rw[e];exact True.intro) hs he (AO hz hd (rk.merge .nil) dd')
structure M2(X:Cx)(o:Expr)(m:Str)(apos:Pos)(e f:Expr)(cpos:Pos):Prop where
 base:attributeBase o m X.env (eval o X.env)=eval o X.env
 few:((backTo cpos (starEach [e,f] X.env)).all (fun x=>!x.1)&&(backToKw cpos (keywordEach [] X.env)).all (fun x=>x.1.isSome)
  && decide (([e,f]:List Expr).length+([]:List Keyword).length+(if([]:List Keyword).isEmpty then 0 else 1)<30))=true
 line:(apos.endLine==cpos.line)=true
 trees:backTo cpos (starEach [e,f] X.env)=[(false,eval e X.env),(false,eval f X.env)]
def IsD(H:Hp)(a:Addr):Prop:=(∃kvs,Rd H a (.dK kvs))\/∃kvs,Rd H a (.dT kvs)
theorem Hf{X:Cx}{pins:List (Addr×Obj)}{σ:St}{H:Hp}{s:Shared}{a:Addr}(I:Inv X pins σ H s)(d:IsD H a) :
  s.TypeIs (.ref a) "dict" /\ (∀b,Value.ref a=.ref b->∃ob,s.heap.get? b=some ob/\ob.dict=none)/\(a==sysModules)=false:=by
 rcases d with⟨kvs,e⟩ | ⟨kvs,e⟩
 ·obtain⟨_,hd,vs,_,dd⟩:=uD I.hok e;refine⟨dd.typeIs,fun b q=>?_,hd⟩
  cases q;obtain⟨ob,_,_,h1,h2,_⟩:=dd;exact⟨ob,h1,h2.2.1⟩
 ·obtain⟨_,hd,xs,_,dd⟩:=tf I.hok e;refine⟨dd.typeIs,fun b q=>?_,hd⟩
  cases q;obtain⟨ob,_,_,h1,h2,_⟩:=dd;exact⟨ob,h1,h2.2.1⟩
section
variable{X:Cx}{pins:List (Addr×Obj)}{σ:St}{H:Hp}{s:Shared}{a:Addr}{y d:V}{u r:Value}{o:Option V}{A:Around}{E:Value->Shared->Prop}
theorem Fu{Q:Value->Shared->Prop}(hu:A.units+1<cLine)(I:Inv X pins σ H s)(g:ie H a y o)(ry:b8 y u)(rd:b8 d r)(h:∀w' s',Inv X pins σ H s'->b8 (o.getD d) w'->Q w' s') :
  wpAny (model X.prog X.w) A (call (.builtin "dict.get") [.ref a,u,r]) Q E s:=by
 rcases g with⟨kvs,k,e,ey,l⟩ | ⟨kvs,k,b,e,ey,eb,l⟩
 ·subst ey;obtain⟨z,hd,vs,rel,dd⟩:=uD I.hok e;refine call_meetsIn PySem.F.slot_dict_get dd.typeIs PySem.F.entry_dict_get (PySem.F.args_dict_get_3 _ _ _) (meets_dict_get_default (bw X.prog X.w) a (jm ry) hd r) ⟨_,dd.mapOf,h _ _ (I.tok _) ?_⟩;rw[l];exact(rel.val k).getD rd
 ·subst ey;cases (show u=Value.ref b from ry)
  obtain⟨z,hd,xs,rel,dd⟩:=tf I.hok e;refine call_meetsIn PySem.F.slot_dict_get dd.typeIs PySem.F.entry_dict_get (PySem.F.args_dict_get_3 _ _ _) (meetsH_dict_get_default (tupleKind (bw X.prog X.w)) a b hd r) ⟨tupleKind_room_in1 hu,k,xs,qv I.hok eb,dd,h _ _ (I.tok _) ?_⟩;rw[l];exact(rel.val k).getD rd
end
def Ae(td ty tx:TE):TE:=fun σ H Q=>td σ H fun x H1=>∃a,x=.ref a/\IsD H1 a/\ty σ H1 fun y H2=>tx σ H2 fun z H3=>∃o,ie H3 a y o/\Q (o.getD z) H3
section
variable{X:Cx}{o e f:Expr}{apos cpos:Pos}{td ty tx:TE}
theorem oB(hu:X.A.units+1<cLine)(ho:PE X o td)(he:PE X e ty)(hf:PE X f tx)(m:M2 X o "get" apos e f cpos):PE X (.Call (.Attribute o "get" apos) [e,f] [] cpos) (Ae td ty tx):=by
 intro pins s σ H Q I h;refine wpAny_Call_method m.base m.few m.line PySem.F.plainAttrs_dict PySem.F.slot_dict_get PySem.F.type_dict_get (thn (ho pins s σ H _ I h) fun u s1 ⟨x,H1,I1,rx,a,ex,d,q1⟩=>?_)
 subst ex;obtain rfl:u=Value.ref a:=rx;obtain⟨t1,t2,_⟩:=Hf I1 d;refine⟨t1,t2,?_⟩;rw[m.trees];refine Calls.callWith_builtin rfl (Calls.evalArgs_plain (Calls.spliced_cons (thn (he pins s1 σ H1 _ I1 q1) fun iv s2 ⟨y,H2,I2,ry,q2⟩=>
  Calls.spliced_cons (thn (hf pins s2 σ H2 _ I2 q2) fun fv s3 ⟨z,H3,I3,rz,ov,g,q3⟩=>Calls.spliced_nil ?_))))
 exact Fu hu I3 g ry rz fun w' s4 I4 rw'=>⟨_,H3,I4,rw',q3⟩
end
end L2
namespace L2
open PySem PySem.Spec PyProof.Rows
end L2
namespace L2
open PySem PySem.Spec PyProof.Rows
theorem oA:bootBuiltins "reversed" = some (.type "reversed"):=by decide +kernel
section
variable{X:Cx}{pins:List (Addr×Obj)}{σ:St}{H:Hp}{s:Shared}{h':Heap}
theorem Inv.turnedL{t':Nat}{ch:List Addr}(I:Inv X pins σ H s)(k:∀b o,b ∉ ch->s.heap.get? b=some o->h'.get? b=some o)(hf:∀b∈ch,lQ X pins H b):Inv X pins σ H { s with heap:=h',toks:=t' }:=by
 have nit:∀b u,H b=some u->b ∉ ch:=fun b u e z=>by
  have q:=(hf b z).1;rw[q] at e;cases e
 refine I.step (g':=s.gens) (d':=s.drawn) (ch:=ch) (fun b hb=>⟨(hf b hb).2.2.2.1,(hf b hb).2.1,(hf b hb).2.2.2.2.1,(hf b hb).2.2.2.2.2⟩) (fun b o _ _ hc e _=>k b o hc e) (fun b o _ _ hc e _=>⟨o.slots,k b o hc e⟩)
  (fun _ _ _ _ n=>n) (fun b o hc e=>⟨o,k b o hc e⟩) (fun _ _ e=>e) (fun _ _ _ e=>e) (fun b ps e=>⟨#[],by rw[e];simp⟩) (fun m hm=>?_) (fun b u e=>?_) I.bare
 ·obtain⟨o,es,ep,ho,r⟩:=hm;exact⟨o,es,ep,k _ o (fun z=>(hf _ z).2.1 rfl) ho,r⟩
 ·refine(I.hok b u e).stay (fun c v hc q=>k c v ?_ q) (fun _ q=>q) fun _ _ q=>q
  rcases hc with z | z
  ·rw[z];exact nit b u e
  ·exact nit c _ z
theorem Inv.turnedNew{t':Nat}{ch:List Addr}{T:Addr}{ob:HO}(I:Inv X pins σ H s)(k:∀b o,b ∉ ch->s.heap.get? b=some o->h'.get? b=some o)(hf:∀b∈ch,lQ X pins H b)(hT:s.heap.objs.size<=T)
  (new:d7 X.prog X.w (upd H T ob) h' T ob):Inv X pins σ (upd H T ob) { s with heap:=h',toks:=t' }:=by
 have hn:H T=none:=I.hok.fresh hT;have nit:∀b u,H b=some u->b ∉ ch:=fun b u e z=>by
  have q:=(hf b z).1;rw[q] at e;cases e
 refine I.step (g':=s.gens) (d':=s.drawn) (ch:=ch) (fun b hb=>⟨(hf b hb).2.2.2.1,(hf b hb).2.1,(hf b hb).2.2.2.2.1,(hf b hb).2.2.2.2.2⟩) (fun b o _ _ hc e _=>k b o hc e) (fun b o _ _ hc e _=>⟨o.slots,k b o hc e⟩)
  (fun b o _ e n=>?_) (fun b o hc e=>⟨o,k b o hc e⟩) (fun b xs e=>?_) (fun b o u e=>?_) (fun b ps e=>⟨#[],?_⟩) (fun m hm=>?_) (fun b u e=>?_) I.bare
 ·rw[af (Nat.ne_of_lt (Nat.lt_of_lt_of_le (Heap.lt_size e) hT))];exact n
 ·rw[af (a9 e hn)];exact e
 ·rw[af (a9 e hn)];exact e
 ·rw[af (a9 e hn),e];simp
 ·obtain⟨o,es,ep,ho,r⟩:=hm;exact⟨o,es,ep,k _ o (fun z=>(hf _ z).2.1 rfl) ho,r⟩
 ·by_cases hb:b=T
  ·subst hb;rw[a7] at e;cases e;exact new
  ·rw[af hb] at e;refine(I.hok b u e).stay (fun c v hc q=>k c v ?_ q) (fun c q=>by rw[af (a9 q hn)];exact q) fun c xs q=>by rw[af (a9 q hn)];exact q
   rcases hc with z | z
   ·rw[z];exact nit b u e
   ·exact nit c _ z
end
section
variable{X:Cx}
theorem qV{tg:Expr}{pins:List (Addr×Obj)}{σ:St}{H:Hp}{s:Shared}{R:It->Hp->Prop}{J:It}{tn:Nat->Heap->Prop}{tk:Nat}(I:Inv X pins σ H s)(o:Obj)
  (T:oO X.prog X.w X.K tg J [s.heap.objs.size] s.heap.objs.size tn) (st:tn 0 (s.heap.push o)) (q:R J H):PIE X pins σ tg R (.ref s.heap.objs.size) { s with heap:=s.heap.push o,toks:=tk }:=by
 refine⟨s.heap.objs.size,[s.heap.objs.size],tn,J,H,rfl,I.kept fun b ob e=>Heap.get?_push_of_some _ e,T,st,fun b hb=>?_,q⟩
 have e:b=s.heap.objs.size:=by simpa using hb
 subst e;exact I.fpOk (Nat.le_refl _) (I.hok.fresh (Nat.le_refl _))
end
noncomputable def Itc(lo c:Int)(n:Nat):It:=⟨fun i _=>i<n,fun i H x H'=>H'=H/\x=.int (lo+(i:Nat) * c),fun i _=>n<=i⟩
theorem tw{P:Program}{w:World}{K:PySem.W.Frag}{tg:Expr}(it:Addr)(lo c:Int)(n:Nat):oO P w K tg (Itc lo c n) [it] it (fun i h=>IsRangeIter h it (lo+(i:Nat) * c) ((n:Int)-(i:Nat)) c) where
 mem:=by simp
 obj:=fun i h st b hb=>by
  have e:b=it:=by simpa using hb
  subst e;exact⟨_,st,fun v z=>nomatch z⟩
 keep:=fun i h h' st k=>k it (by simp) _ st
 item:=by
  intro X hP hw hK hc i pins s σ H E I hf st hg;subst hP hw hK;obtain⟨f0,f1,f2,f3,f4,f5⟩:=hf it (by simp)
  have W:=Walks.range (prog:=X.prog) (w:=X.w) (I.ok.hd hc) it lo c n;refine W.item i s _ _ hg st fun v h' tk hv st' kk=>?_
  obtain⟨t,rfl⟩:=hv;have I1:Inv X pins σ H { s with heap:=h',toks:=tk }:=I.turned (fun b o hb e=>kk b o (by simpa using hb) e) f0 f1 f3 f4 f5
  exact⟨_,rfl,oV (s:={ s with heap:=h',toks:=tk }) (n := "range_iterator") st' rfl rfl (by decide) ⟨.int (lo+(i:Nat) * c),H,I1,⟨t,rfl⟩,⟨rfl,rfl⟩,st',fun b hb=>(hf b hb).1⟩⟩
 done:=by
  intro X hP hw hK hc i pins s σ H E I hf st hg;subst hP hw hK;obtain⟨f0,f1,f2,f3,f4,f5⟩:=hf it (by simp)
  exact wpAny_pyNext_range_end (I.ok.hd hc) st (by have:n<=i:=hg;omega) fun h' eb=>⟨rfl,I.turned (t':=s.toks) (fun b o hb e=>eb b o hb e) f0 f1 f3 f4 f5⟩
 self:=fun A i s Q E st h=>wpAny_pyIter_rangeiter st h
def RgC(i j c:Int)(n:Nat):Prop:=c≠0/\c.natAbs<1073741824/\Builtin.Range.small i j c=true/\Builtin.Range.rangeSize i j c=n
theorem RgC.neg{i j:Int}(ha:-(2 ^ 62)<=i)(ha':i<2 ^ 62)(hb:-(2 ^ 62)<=j)(hb':j<2 ^ 62):RgC i j (-1) (i-j).toNat:=
 ⟨by decide,by decide,PySem.W.small_down ha ha' hb hb',PySem.W.rangeSize_downNat i j⟩
def Iw(ta:TA):TI:=fun σ H R=>ta σ H fun vs H1=>∃(i j c:Int) (n:Nat),vs=[.int i,.int j,.int c]/\RgC i j c n/\R (Itc i c n) H1
section
variable{X:Cx}{tg:Expr}
theorem l6{a b c:Expr}{ta:TA}{p pos:Pos}(hg:Gl X "range")(hm:X.mg "range" = none)(ha:PA X [a,b,c] ta)
  (hs:starEach [a,b,c] X.env=(false,eval a X.env)::starEach [b,c] X.env:=by rfl) (hpl:(backTo pos (starEach [b,c] X.env)).any (·.1)=false:=by rfl) :
  PI X tg (.Call (.Name "range" p) [a,b,c] [] pos) (Iw ta):=by
 intro pins s σ H R I h;refine Call_ (iY I hg hm boot_range (PyProof.Rows.callWith_type1 (thn (ha pos pins s σ H _ I h) fun us s1 ⟨vs,H1,I1,r1,q1⟩=>?_) hs hpl))
 obtain⟨i,j,k,n,e,⟨c0,c1,c2,c3⟩,q⟩:=q1;subst e;cases r1 with
 |cons r rr=>
  cases rr with
  |cons r' rr=>
   cases rr with
   |cons r'' rr=>
    cases rr;obtain⟨t,rfl⟩:=r;obtain⟨t',rfl⟩:=r';obtain⟨t'',rfl⟩:=r'';refine call_range_3 c0 ?_ (.inl (PyProof.noPylong_small c1));refine wpAny_pyIter_range (IsRange.new ..) c2 ?_;have I2:Inv X pins σ H1 { s1 with heap:=s1.heap.push { cls:=.type "range",data:=.fields #[.int i t,.int j t',.int k t''] } }:=I1.kept (t':=s1.toks) fun b o e=>Heap.get?_push_of_some _ e
    refine qV (tk:=s1.toks) I2 _ (tw _ i k n) ?_ q;have e1:i+((0:Nat):Int) * k=i:=by simp
    have e2:(n:Int)-((0:Nat):Int)=Builtin.Range.rangeSize i j k:=by rw[c3];simp
    show IsRangeIter _ _ (i+((0:Nat):Int) * k) ((n:Int)-((0:Nat):Int)) k;rw[e1,e2];exact Heap.get?_push_size _ rfl
end
theorem jF{lo c:Int}{n:Nat}{g:TG}{tb:TS}{D:jM}{σ:St}{H:Hp}(Pv:Nat->St->Hp->Prop)(h0:Pv 0 σ H)
  (hs:∀i σ H,i<n->Pv i σ H->g (.int (lo+(i:Nat) * c)) σ H fun σ2 H2=>tb { D with nx:=Pv (i+1),ct:=Pv (i+1),bk:=D.nx } σ2 H2) (hd:∀σ H,Pv n σ H->D.nx σ H) :
  ∃W:Nat->Nat->St->Hp->Prop,(∃m,W 0 m σ H)/\∀i m σ H,W i m σ H->
   ((Itc lo c n).stop i H/\D.nx σ H)\/((Itc lo c n).go i H/\∃N:St->Hp->Prop,(∀σ' H',N σ' H'->∃m',m'<m/\W (i+1) m' σ' H')/\∀x H',(Itc lo c n).yld i H x H'->g x σ H' fun σ2 H2=>tb { D with nx:=N,ct:=N,bk:=D.nx } σ2 H2):=by
 refine⟨fun i m σ H=>m=n-i/\i<=n/\Pv i σ H,⟨n,by simp,Nat.zero_le _,h0⟩,?_⟩
 rintro i m σ H ⟨rfl,hi,p⟩;by_cases hlt:i<n
 ·refine .inr ⟨hlt,Pv (i+1),fun σ' H' p'=>⟨n-(i+1),by omega,rfl,hlt,p'⟩,fun x H' y=>?_⟩
  obtain⟨e,y⟩:=y;subst e y;exact hs i σ _ hlt p
 ·have e:i=n:=by omega
  subst e;exact .inl ⟨Nat.le_refl _,hd σ H p⟩
noncomputable def Itv(K:PySem.W.Frag)(a:Addr)(n:Nat):It:=
 ⟨fun i H=>i<n/\∃(xs:List V) (x:V),SqL K H a xs/\xs[n-1-i]?=some x,fun i H x H'=>H'=H/\∀xs,SqL K H a xs->xs[n-1-i]?=some x,fun i _=>n<=i⟩
theorem Bv{P:Program}{w:World}{K:PySem.W.Frag}{tg:Expr}(a it:Addr)(n:Nat):oO P w K tg (Itv K a n) [it] it (fun i h=>i<=n/\h.IsRevIter it a ((n:Int)-1-(i:Nat))) where
 mem:=by simp
 obj:=fun i h st b hb=>by
  have e:b=it:=by simpa using hb
  subst e;obtain⟨_,o,e,c,d⟩:=st;exact⟨o,e,fun v z=>by rw[d] at z;cases z⟩
 keep:=fun i h h' st k=>⟨st.1,st.2.at fun o e=>k it (by simp) o e⟩
 item:=by
  intro X hP hw hK hc i pins s σ H E I hf st hg;subst hP hw hK;obtain⟨hin,xs,x,hq,hx⟩:=hg;obtain⟨its,rv,p,hz⟩:=I.list hq;obtain⟨u,hu,ru⟩:=rv.get hx;obtain⟨f0,f1,f2,f3,f4,f5⟩:=hf it (by simp)
  obtain⟨_,hit⟩:=st;have e1:(n:Int)-1-((i:Nat):Int)=((n-1-i:Nat):Int):=by omega
  rw[e1] at hit;refine wpAny_pyNext_rev_item hit p.isList (x:=u) (by simpa using hu) fun h' st' sb=>?_
  have e2:((n-1-i:Nat):Int)-1=(n:Int)-1-((i+1:Nat):Int):=by omega
  rw[e2] at st';have I1:Inv X pins σ H { s with heap:=h' }:=I.turned (t':=s.toks) (fun b o hb e=>(sb.2 b hb).trans e) f0 f1 f3 f4 f5
  obtain⟨o,e,c,d⟩:=id st';exact⟨u,rfl,oV (s:={ s with heap:=h' }) e c d (by decide) ⟨x,H,I1,ru,⟨rfl,fun ys hy=>by rw[I.list_inj hy hq];exact hx⟩,⟨hin,st'⟩,fun b hb=>(hf b hb).1⟩⟩
 done:=by
  intro X hP hw hK hc i pins s σ H E I hf st hg;subst hP hw hK;obtain⟨f0,f1,f2,f3,f4,f5⟩:=hf it (by simp)
  obtain⟨hin,hit⟩:=st;have hge:n<=i:=hg;have e1:(n:Int)-1-((i:Nat):Int)=-1:=by omega
  rw[e1] at hit;exact wpAny_pyNext_rev_end (I.ok.hd hc) hit fun h' eb=>⟨rfl,I.turned (t':=s.toks) (fun b o hb e=>eb b o hb e) f0 f1 f3 f4 f5⟩
 self:=fun A i s Q E st h=>wpAny_pyIter_revIter st.2 h
def Jc(K:PySem.W.Frag)(ta:TA):TI:=fun σ H R=>ta σ H fun vs H1=>∃(a:Addr) (xs:List V),vs=[.ref a]/\SqL K H1 a xs/\R (Itv K a xs.length) H1
section
variable{X:Cx}{tg:Expr}
theorem lB{e:Expr}{ta:TA}{p pos:Pos}(hg:Gl X "reversed")(hm:X.mg "reversed" = none)(ha:PA X [e] ta)(hs:starEach [e] X.env=[(false,eval e X.env)]:=by rfl):PI X tg (.Call (.Name "reversed" p) [e] [] pos) (Jc X.K ta):=by
 intro pins s σ H R I h;refine Call_ (iY I hg hm oA (PyProof.Rows.callWith_type1 (thn (ha pos pins s σ H _ I h) fun us s1 ⟨vs,H1,I1,r1,q1⟩=>?_) hs rfl))
 obtain⟨a,xs,e,hq,q⟩:=q1;subst e;cases r1 with
 |cons r rr=>
  cases rr;cases r;obtain⟨its,rv,p',hz⟩:=I1.list hq;have hl:=rv.length;have e1:((its.toArray.size:Nat):Int)-1=(xs.length:Int)-1-((0:Nat):Int):=by simp only[List.size_toArray];omega
  refine call_reversed_list p'.isList (wpAny_pyIter_revIter (l:=a) (i:=((its.toArray.size:Nat):Int)-1) ⟨_,Heap.get?_push_size _ rfl,rfl,rfl⟩ ?_);refine qV (tk:=s1.toks) I1 _ (Bv a _ xs.length) ⟨Nat.zero_le _,?_⟩ q;rw[<-e1];exact⟨_,Heap.get?_push_size _ rfl,rfl,rfl⟩
end
noncomputable def Its(x:Str):It:=⟨fun i _=>i<x.cps.size,fun i H v H'=>H'=H/\∃c,x.cps[i]?=some c/\v=.str ⟨#[c]⟩,fun i _=>x.cps.size<=i⟩
theorem uE{P:Program}{w:World}{K:PySem.W.Frag}{tg:Expr}(it:Addr)(x:Str)(t:Tok)(ty:String)(hty:ty = "str_ascii_iterator" \/ ty = "str_iterator") :
  oO P w K tg (Its x) [it] it (fun i h=>h.IsStrIter it ty x t i) where
 mem:=by simp
 obj:=fun i h st b hb=>by
  have e:b=it:=by simpa using hb
  subst e;obtain⟨o,e,c,d⟩:=st;exact⟨o,e,fun v z=>by rw[d] at z;cases z⟩
 keep:=fun i h h' st k=>let ⟨o,ho,r⟩:=st;⟨o,k it (by simp) o ho,r⟩
 item:=by
  intro X hP hw hK hc i pins s σ H E I hf st hg;subst hP hw hK;obtain⟨f0,f1,f2,f3,f4,f5⟩:=hf it (by simp)
  have W:Walks X.prog X.w X.A it [it] [it] x.cps.size (SignAt x) (fun i h=>h.IsStrIter it ty x t i):=by
   rcases hty with e | e
   ·rw[e];exact Walks.strAscii (I.ok.hd hc) it x t
   ·rw[e];exact Walks.strWide (I.ok.hd hc) it x t
  have hno:["enumerate", "zip", "dict_itemiterator", "dict_reverseitemiterator", "odict_iterator", "itertools.zip_longest", "itertools.pairwise"].contains ty=false:=by
   rcases hty with e | e
   ·rw[e];decide
   ·rw[e];decide
  refine W.item i s _ _ hg st fun v h' tk hv st' kk=>?_
  obtain⟨c,u,hcx,rfl⟩:=hv;have I1:Inv X pins σ H { s with heap:=h',toks:=tk }:=I.turned (fun b o hb e=>kk b o (by simpa using hb) e) f0 f1 f3 f4 f5
  obtain⟨oi,e,cc,dd⟩:=id st';exact⟨_,rfl,oV (s:={ s with heap:=h',toks:=tk }) e cc dd hno ⟨.str ⟨#[c]⟩,H,I1,⟨u,rfl⟩,⟨rfl,c,hcx,rfl⟩,st',fun b hb=>(hf b hb).1⟩⟩
 done:=by
  intro X hP hw hK hc i pins s σ H E I hf st hg;subst hP hw hK;obtain⟨f0,f1,f2,f3,f4,f5⟩:=hf it (by simp)
  have hx:x.cps[i]?=none:=Array.getElem?_eq_none hg;rcases hty with e | e
  ·rw[e] at st;exact wpAny_pyNext_ascii_end (I.ok.hd hc) st hx fun h' eb=>⟨rfl,I.turned (t':=s.toks) (fun b o hb e=>eb b o hb e) f0 f1 f3 f4 f5⟩
  ·rw[e] at st;exact wpAny_pyNext_wide_end (I.ok.hd hc) st hx fun h' eb=>⟨rfl,I.turned (t':=s.toks) (fun b o hb e=>eb b o hb e) f0 f1 f3 f4 f5⟩
 self:=fun A i s Q E st h=>by
  rcases hty with e | e
  ·rw[e] at st;exact wpAny_pyIter_striter_ascii st h
  ·rw[e] at st;exact wpAny_pyIter_striter_wide st h
def J4(te:TE):TI:=fun σ H R=>te σ H fun v H1=>∃x,v=.str x/\R (Its x) H1
theorem zo{X:Cx}{tg e:Expr}{te:TE}(he:PE X e te):PI X tg e (J4 te):=by
 intro pins s σ H R I h;refine thn (he pins s σ H _ I h) fun v s1 ⟨y,H1,I1,r1,x,ex,q⟩=>?_
 subst ex;obtain⟨t,rfl⟩:=r1;cases ha:x.cps.all (· < 128)
 ·exact wpAny_pyIter_wide ha (qV (tk:=s1.toks) I1 _ (uE _ x t "str_iterator" (.inr rfl)) ⟨_,Heap.get?_push_size _ rfl,rfl,rfl⟩ q)
 ·exact wpAny_pyIter_ascii ha (qV (tk:=s1.toks) I1 _ (uE _ x t "str_ascii_iterator" (.inl rfl)) ⟨_,Heap.get?_push_size _ rfl,rfl,rfl⟩ q)
def Ite(K:PySem.W.Frag)(a:Addr):It:=
 ⟨fun i H=>∃(xs:List V) (x:V),SqL K H a xs/\xs[i]?=some x,fun i H v H'=>∃T x,v=.ref T/\H T=none/\H'=upd H T (.tup [.int (i:Nat),x])/\∀xs,SqL K H a xs->xs[i]?=some x,fun i H=>∃xs:List V,SqL K H a xs/\xs.length<=i⟩
theorem zh{P:Program}{w:World}{K:PySem.W.Frag}{elts:List Expr}{kk:Nat}{tpos:Pos}(a e it:Addr) :
  oO P w K (.Tuple elts kk tpos) (Ite K a) [e,it] e (fun i h=>(∃old,IsEnum h e it ((i:Nat):Int) old)/\h.IsListIter it a i/\e≠it) where
 mem:=by simp
 obj:=fun i h st b hb=>by
  obtain⟨⟨old,he⟩,⟨o,ho,hc,hd⟩,_⟩:=st;have e':b=e\/b=it:=by simpa using hb
  rcases e' with z | z
  ·rw[z];exact⟨_,he,fun v q=>nomatch q⟩
  ·rw[z];exact⟨o,ho,fun v q=>by rw[hd] at q;cases q⟩
 keep:=fun i h h' st k=>let ⟨⟨old,he⟩,hi,hne⟩:=st;⟨⟨old,k e (by simp) _ he⟩,hi.at fun o q=>k it (by simp) o q,hne⟩
 item:=by
  intro X hP hw hK hc i pins s σ H E I hf st hg;subst hP hw hK;obtain⟨⟨old,he⟩,hit,hne⟩:=st;obtain⟨xs,x,hq,hx⟩:=hg;obtain⟨its,rv,p,hz⟩:=I.list hq;obtain⟨u,hu,ru⟩:=rv.get hx;have hel:e<s.heap.objs.size:=Heap.lt_size he;have hil:it<s.heap.objs.size:=by obtain⟨_,q,_⟩:=hit;exact Heap.lt_size q
  refine wpAny_pyNext_enum_item he hit p.isList (x:=u) (by simpa using hu) hne fun h' ho hit' hT hsz hk=>?_
  refine⟨_,rfl,wpAny_letOwnedTupleGo_enum (s:={ s with heap:=h',toks:=s.toks+1 }) ho fun h'' he' sb=>?_⟩
  have hT2:h''.get? s.heap.objs.size=some { cls:=.type "tuple",data:=.seq #[.int i s.toks,u] }:=(sb.2 _ (Nat.ne_of_gt hel)).trans hT;have new:d7 X.prog X.w (upd H s.heap.objs.size (.tup [.int (i:Nat),x])) h'' s.heap.objs.size (.tup [.int (i:Nat),x]):=
   ⟨by show 2<=sizeLine;decide,[.int i s.toks,u],.cons ⟨_,rfl⟩ (.cons ru .nil),⟨_,hT2,rfl,_,rfl⟩⟩
  have I1:Inv X pins σ (upd H s.heap.objs.size (.tup [.int (i:Nat),x])) { s with heap:=h'',toks:=s.toks+1 }:=
   I.turnedNew (ch:=[e,it]) (fun b ob hb q=>(sb.2 b (fun z=>hb (by simp[z]))).trans (hk b ob (fun z=>hb (by simp[z])) (fun z=>hb (by simp[z])) q)) hf (Nat.le_refl _) new
  refine⟨.ref s.heap.objs.size,_,I1,rfl,⟨_,x,rfl,I.hok.fresh (Nat.le_refl _),rfl,fun ys hy=>by rw[I.list_inj hy hq];exact hx⟩,⟨⟨u,?_⟩,hit'.at fun o q=>(sb.2 it (Ne.symm hne)).trans q,hne⟩,fun b hb=>?_⟩
  ·have e1:((i+1:Nat):Int)=(i:Int)+1:=by omega
   rw[e1];exact he'
  ·have hb':b<s.heap.objs.size:=by
    have e':b=e\/b=it:=by simpa using hb
    rcases e' with z | z
    ·rw[z];exact hel
    ·rw[z];exact hil
   rw[af (Nat.ne_of_lt hb')];exact(hf b hb).1
 done:=by
  intro X hP hw hK hc i pins s σ H E I hf st hg;subst hP hw hK;obtain⟨⟨old,he⟩,hit,hne⟩:=st;obtain⟨xs,hq,hx⟩:=hg;obtain⟨its,rv,p,hz⟩:=I.list hq;obtain⟨f0,f1,f2,f3,f4,f5⟩:=hf it (by simp)
  have hl:=rv.length;exact wpAny_pyNext_enum_end (I.ok.hd hc) he hit p.isList (by simp;omega) fun h' eb=>⟨rfl,I.turned (t':=s.toks) (fun b o hb q=>eb b o hb q) f0 f1 f3 f4 f5⟩
 self:=fun A i s Q E st h=>let ⟨⟨_,he⟩,_⟩:=st;wpAny_pyIter_enum he h
def HM(K:PySem.W.Frag)(ta:TA):TI:=fun σ H R=>ta σ H fun vs H1=>∃a xs,vs=[.ref a]/\SqL K H1 a xs/\R (Ite K a) H1
theorem gY{X:Cx}{e:Expr}{ta:TA}{p pos tpos:Pos}{elts:List Expr}{kk:Nat}(hg:Gl X "enumerate")(hm:X.mg "enumerate" = none)(ha:PA X [e] ta)(hs:starEach [e] X.env=[(false,eval e X.env)]:=by rfl) :
  PI X (.Tuple elts kk tpos) (.Call (.Name "enumerate" p) [e] [] pos) (HM X.K ta):=by
 intro pins s σ H R I h;refine Call_ (iY I hg hm boot_enumerate (PyProof.Rows.callWith_type1 (thn (ha pos pins s σ H _ I h) fun us s1 ⟨vs,H1,I1,r1,q1⟩=>?_) hs rfl))
 obtain⟨a,xs,ex,hq,q⟩:=q1;subst ex;cases r1 with
 |cons r rr=>
  cases rr;cases r;obtain⟨its,rv,p',hz⟩:=I1.list hq;refine call_enumerate_list p'.isList fun h' he hit hsz hk=>wpAny_pyIter_enum he ?_
  have I2:Inv X pins σ H1 { s1 with heap:=h' }:=I1.kept (t':=s1.toks) hk
  refine⟨s1.heap.objs.size+1,[s1.heap.objs.size+1,s1.heap.objs.size],_,_,H1,rfl,I2,zh a (s1.heap.objs.size+1) s1.heap.objs.size,⟨⟨.none,he⟩,hit,Nat.succ_ne_self _⟩,fun b hb=>?_,q⟩
  have e':b=s1.heap.objs.size+1\/b=s1.heap.objs.size:=by simpa using hb
  have hle:s1.heap.objs.size<=b:=by
   rcases e' with z | z
   ·rw[z];exact Nat.le_add_right _ _
   ·rw[z];exact Nat.le_refl _
  exact I1.fpOk hle (I1.hok.fresh hle)
theorem y2:bootBuiltins "zip" = some (.type "zip"):=by decide +kernel
def Itz(K:PySem.W.Frag)(a b:Addr):It:=
 ⟨fun i H=>∃(xs ys:List V) (x y:V),SqL K H a xs/\SqL K H b ys/\xs[i]?=some x/\ys[i]?=some y,
  fun i H v H'=>∃T x y,v=.ref T/\H T=none/\H'=upd H T (.tup [x,y])/\(∀xs,SqL K H a xs->xs[i]?=some x)/\∀ys,SqL K H b ys->ys[i]?=some y,
  fun i H=>∃xs ys:List V,SqL K H a xs/\SqL K H b ys/\(xs.length<=i\/ys.length<=i)⟩
theorem BE{P:Program}{w:World}{K:PySem.W.Frag}{elts:List Expr}{kk:Nat}{tpos:Pos}{a b z TI TO i1 i2:Addr}(D:ZipApart z TI TO i1 i2 a b) :
  oO P w K (.Tuple elts kk tpos) (Itz K a b) [z,TI,TO,i1,i2] z (fun i h=>IsZip h z TI TO .none/\IsPair h TI (.ref i1) (.ref i2)/\(∃x y,IsPair h TO x y)/\h.IsListIter i1 a i/\h.IsListIter i2 b i) where
 mem:=by simp
 obj:=fun i h st c hc=>by
  obtain⟨hz,hTI,⟨x,y,hTO⟩,⟨o1,e1,_,d1⟩,⟨o2,e2,_,d2⟩⟩:=st;have e':c=z\/c=TI\/c=TO\/c=i1\/c=i2:=by simpa using hc
  rcases e' with q | q | q | q | q
  ·rw[q];exact⟨_,hz,fun v q=>nomatch q⟩
  ·rw[q];exact⟨_,hTI,fun v q=>nomatch q⟩
  ·rw[q];exact⟨_,hTO,fun v q=>nomatch q⟩
  ·rw[q];exact⟨o1,e1,fun v q=>by rw[d1] at q;cases q⟩
  ·rw[q];exact⟨o2,e2,fun v q=>by rw[d2] at q;cases q⟩
 keep:=fun i h h' st k=>by
  obtain⟨hz,hTI,⟨x,y,hTO⟩,h1,h2⟩:=st;exact⟨k z (by simp) _ hz,k TI (by simp) _ hTI,⟨x,y,k TO (by simp) _ hTO⟩,h1.at fun o q=>k i1 (by simp) o q,h2.at fun o q=>k i2 (by simp) o q⟩
 item:=by
  intro X hP hw hK hc i pins s σ H E I hf st hg;subst hP hw hK;obtain⟨hz,hTI,⟨x0,y0,hTO⟩,h1,h2⟩:=st;obtain⟨xs,ys,x,y,hqx,hqy,hx,hy⟩:=hg;obtain⟨its,rv,p,_⟩:=I.list hqx;obtain⟨its2,rv2,p2,_⟩:=I.list hqy;obtain⟨u,hu,ru⟩:=rv.get hx;obtain⟨u2,hu2,ru2⟩:=rv2.get hy;have hzl:z<s.heap.objs.size:=Heap.lt_size hz;refine wpAny_pyNext_zip_item D hz hTI hTO h1 h2 p.isList p2.isList (x:=u) (y:=u2) (by simpa using hu) (by simpa using hu2) fun h' z' TO' h1' h2' hT hsz hk=>?_
  refine⟨_,rfl,wpAny_letOwnedTupleGo_zip (s:={ s with heap:=h' }) z' fun h'' z'' sb=>?_⟩
  have hT2:h''.get? s.heap.objs.size=some { cls:=.type "tuple",data:=.seq #[u,u2] }:=(sb.2 _ (Nat.ne_of_gt hzl)).trans hT;have new:d7 X.prog X.w (upd H s.heap.objs.size (.tup [x,y])) h'' s.heap.objs.size (.tup [x,y]):=
   ⟨by show 2<=sizeLine;decide,[u,u2],.cons ru (.cons ru2 .nil),⟨_,hT2,rfl,_,rfl⟩⟩
  have I1:Inv X pins σ (upd H s.heap.objs.size (.tup [x,y])) { s with heap:=h'' }:=
   I.turnedNew (t':=s.toks) (ch:=[z,TI,TO,i1,i2]) (fun c o hb q=>(sb.2 c (fun q'=>hb (by simp[q']))).trans (hk c o (fun q'=>hb (by simp[q'])) (fun q'=>hb (by simp[q'])) (fun q'=>hb (by simp[q'])) (fun q'=>hb (by simp[q'])) q)) hf (Nat.le_refl _) new
  refine⟨.ref s.heap.objs.size,_,I1,rfl,⟨_,x,y,rfl,I.hok.fresh (Nat.le_refl _),rfl,fun l hl=>by rw[I.list_inj hl hqx];exact hx,fun l hl=>by rw[I.list_inj hl hqy];exact hy⟩,⟨z'',?_,⟨u,u2,?_⟩,?_,?_⟩,fun c hcm=>?_⟩
  ·exact(sb.2 _ D.TIz).trans (hk _ _ D.TIz D.TITO D.TIi1 D.TIi2 hTI)
  ·exact(sb.2 _ D.TOz).trans TO'
  ·exact h1'.at fun o q=>(sb.2 _ D.i1z).trans q
  ·exact h2'.at fun o q=>(sb.2 _ D.i2z).trans q
  ·have hlt:c<s.heap.objs.size:=by
    have e':c=z\/c=TI\/c=TO\/c=i1\/c=i2:=by simpa using hcm
    rcases e' with q | q | q | q | q
    ·rw[q];exact hzl
    ·rw[q];exact Heap.lt_size hTI
    ·rw[q];exact Heap.lt_size hTO
    ·rw[q];obtain⟨_,e1,_⟩:=h1;exact Heap.lt_size e1
    ·rw[q];obtain⟨_,e2,_⟩:=h2;exact Heap.lt_size e2
   rw[af (Nat.ne_of_lt hlt)];exact(hf c hcm).1
 done:=by
  intro X hP hw hK hc i pins s σ H E I hf st hg;subst hP hw hK;obtain⟨hz,hTI,⟨x0,y0,hTO⟩,h1,h2⟩:=st;obtain⟨xs,ys,hqx,hqy,hend⟩:=hg;obtain⟨its,rv,p,_⟩:=I.list hqx;obtain⟨its2,rv2,p2,_⟩:=I.list hqy;have l1:=rv.length;have l2:=rv2.length;have he:its.toArray[i]?=none\/its2.toArray[i]?=none:=by
   rcases hend with q | q
   ·exact .inl (by simp;omega)
   ·exact .inr (by simp;omega)
  exact wpAny_pyNext_zip_end (I.ok.hd hc) D hz hTI hTO h1 h2 p.isList p2.isList he fun h' hk=>⟨rfl,I.turnedL (t':=s.toks) (ch:=[z,TI,TO,i1,i2]) (fun c o hb q=>
   hk c o (fun q'=>hb (by simp[q'])) (fun q'=>hb (by simp[q'])) (fun q'=>hb (by simp[q'])) (fun q'=>hb (by simp[q'])) q) hf⟩
 self:=fun A i s Q E st h=>wpAny_pyIter_zip st.1 h
def IL(K:PySem.W.Frag)(ta:TA):TI:=fun σ H R=>ta σ H fun vs H1=>∃a b xs ys,vs=[.ref a,.ref b]/\SqL K H1 a xs/\SqL K H1 b ys/\R (Itz K a b) H1
theorem AI{X:Cx}{e e2:Expr}{ta:TA}{p pos tpos:Pos}{elts:List Expr}{kk:Nat}(hg:Gl X "zip")(hm:X.mg "zip" = none)(ha:PA X [e,e2] ta)
  (hs:starEach [e,e2] X.env=(false,eval e X.env)::starEach [e2] X.env:=by rfl) (hpl:(backTo pos (starEach [e2] X.env)).any (·.1)=false:=by rfl) :
  PI X (.Tuple elts kk tpos) (.Call (.Name "zip" p) [e,e2] [] pos) (IL X.K ta):=by
 intro pins s σ H R I h;refine Call_ (iY I hg hm y2 (PyProof.Rows.callWith_type1 (thn (ha pos pins s σ H _ I h) fun us s1 ⟨vs,H1,I1,r1,q1⟩=>?_) hs hpl))
 obtain⟨a,b,xs,ys,ex,hqx,hqy,q⟩:=q1;subst ex;cases r1 with
 |cons r rr=>
  cases rr with
  |cons r' rr=>
   cases rr;cases r;cases r';obtain⟨its,rv,p1,_⟩:=I1.list hqx;obtain⟨its2,rv2,p2,_⟩:=I1.list hqy;have la:a<s1.heap.objs.size:=p1.lt;have lb:b<s1.heap.objs.size:=p2.lt;refine call_zip_2 p1.isList p2.isList fun h' hz hTI hTO h1 h2 hsz hk=>wpAny_pyIter_zip hz ?_
   have I2:Inv X pins σ H1 { s1 with heap:=h' }:=I1.kept (t':=s1.toks) hk
   refine⟨s1.heap.objs.size+4,[s1.heap.objs.size+4,s1.heap.objs.size+2,s1.heap.objs.size+3,s1.heap.objs.size,s1.heap.objs.size+1],_,_,H1,rfl,I2,BE (PySem.W.ktu_apart s1.heap.objs.size a b la lb),⟨hz,hTI,⟨_,_,hTO⟩,h1,h2⟩,fun c hcm=>?_,q⟩
   have e':c=s1.heap.objs.size+4\/c=s1.heap.objs.size+2\/c=s1.heap.objs.size+3\/c=s1.heap.objs.size\/c=s1.heap.objs.size+1:=by simpa using hcm
   have hle:s1.heap.objs.size<=c:=by
    rcases e' with z | z | z | z | z
    ·rw[z];exact Nat.le_add_right _ _
    ·rw[z];exact Nat.le_add_right _ _
    ·rw[z];exact Nat.le_add_right _ _
    ·rw[z];exact Nat.le_refl _
    ·rw[z];exact Nat.le_add_right _ _
   exact I1.fpOk hle (I1.hok.fresh hle)
end L2
section
namespace Bits
open PySem PyProof.Rows
end Bits
end
section
namespace TL
open PySem PySem.Builtin PySem.Builtin.Str PySem.StrLaws
noncomputable abbrev tl(x:Str):List Nat:=x.cps.toList
theorem len_tl(x:Str):x.length=(tl x).length:=by simp[tl,Str.length]
theorem tl_append(x y:Str):tl (x++y)=tl x++tl y:=by
 show(x++y).cps.toList=_;rw[Str.cps_append,Array.toList_append]
theorem tl_ofString(s:String):tl (Str.ofString s)=s.toList.map Char.toNat:=PyProof.Rows.signs_ofString s
end TL
end
namespace L2
open PySem PySem.Spec PyProof.Rows
theorem pG:∀l:List (Str×Tok),aY ((l.map (·.1)).map V.str) (strValues l)
 |[]=>.nil
 |p::r=>.cons ⟨p.2,rfl⟩ (pG r)
def nv(ys:List Str):Hp->VK->Prop:=fun H Q=>∀p,H p=none->Q (.ref p) (upd H p (.lst (ys.map V.str)))
section
variable{X:Cx}{pins:List (Addr×Obj)}{σ:St}{H:Hp}{s:Shared}{Q:VK}
theorem oX{l:List (Str×Tok)}{ys:List Str}{k:Nat}(I:Inv X pins σ H s)(e:l.map (·.1)=ys)(hz:ys.length<=sizeLine)(h:nv ys H Q) :
  EP X pins σ Q (.ref s.heap.objs.size) { s with toks:=k,heap:=s.heap.push { cls:=.type "list",data:=.seq (strValues l).toArray } }:=by
 have hp:=I.hok.fresh (Nat.le_refl _);refine⟨.ref s.heap.objs.size,upd H s.heap.objs.size (.lst (ys.map V.str)),I.laid (fun b u q=>Heap.get?_push_of_some _ q) (Nat.le_refl _) ⟨by rw[List.length_map];exact hz,strValues l,_,?_,Heap.get?_push_size _ rfl⟩,rfl,h _ hp⟩
 rw[<-e];exact pG l
end
section
variable{X:Cx}
theorem Ah(x:Str):(Txt.words x).length<=x.length+1:=by
 have e1:=StrLaws.words_weight x;omega
theorem zm:MtR X "str.split" (fun x xs H Q=>∃a,x=.str a/\xs=[]/\a.length+2<=sizeLine/\nv (Txt.words a) H Q):=by
 intro pins s σ H x xs v us Q I rx rs h;obtain⟨a,rfl,rfl,hz,h⟩:=h;obtain⟨t,rfl⟩:=rx;cases rs;have hl:(Txt.words a).length<=sizeLine:=Nat.le_trans (Ah a) (by omega)
 have hn:(Builtin.Str.spaceWords a (a.length+1)).length<=sizeLine:=by
  have e1:=(StrLaws.sw_weight a).1;have e2:=StrLaws.len_le_wsum (Builtin.Str.spaceWords a (a.length+1));omega
 refine call_meets F.slot_str_split (typeIs_str _ _ _) F.entry_str_split (F.args_str_split_1 _) (meets_str_split_space a t (by omega) hn) ?_
 cases hw:Builtin.Str.spaceWords a (a.length+1)==[(0,a.length)]
 ·simp only[Bool.false_eq_true,if_false];rw[strsFrom_eq];exact oX (ys:=Txt.words a) I ((numbered_texts _ _).trans (if_neg (ne_true_of_eq_false hw)).symm) hl h
 ·simp only[if_true];exact oX (l:=[(a,t)]) (ys:=Txt.words a) (k:=s.toks) I (if_pos hw).symm hl h
end
section
variable{X:Cx}{o e:Expr}{to te:TE}
def tM0(r:V->List V->Hp->VK->Prop)(to:TE):TE:=fun σ H Q=>to σ H fun x H1=>(∃a,x=.str a)/\r x [] H1 Q
theorem Iv{id:String}{name:Str}{apos pos:Pos}{r:V->List V->Hp->VK->Prop}(slot:Slot "str" name id)(ty:typeOf (.builtin id)=pure (.type "method_descriptor"))(rule:MtR X id r)(ho:PE X o to)
  (hbase:attributeBase o name X.env (eval o X.env)=eval o X.env:=by rfl) (hline:(apos.endLine==pos.line)=true:=by rfl):PE X (.Call (.Attribute o name apos) [] [] pos) (tM0 r to):=by
 intro pins s σ H Q I h;refine PySem.Call_method0 hbase hline (thn (ho pins s σ H _ I h) fun v s1 ⟨x,H1,I1,r1,q1⟩=>?_)
 obtain⟨⟨a,rfl⟩,q1⟩:=q1;obtain⟨t,rfl⟩:=_root_.id r1;exact⟨"str",_,F.plainAttrs_str,slot,ty,typeIs_str _ _ _,(fun _ e=>nomatch e),Calls.callWith_builtin rfl (PySem.evalArgs_none (rule pins s1 σ H1 _ [] _ [] Q I1 r1 .nil q1))⟩
theorem Bm{apos pos:Pos}(ho:PE X o to)(hbase:attributeBase o "split" X.env (eval o X.env)=eval o X.env:=by rfl)(hline:(apos.endLine==pos.line)=true:=by rfl) :
  PE X (.Call (.Attribute o "split" apos) [] [] pos) (tM0 (fun x xs H Q=>∃a,x=.str a/\xs=[]/\a.length+2<=sizeLine/\nv (Txt.words a) H Q) to):=
 Iv F.slot_str_split F.type_str_split zm ho hbase hline
end
end L2
namespace L2
open PySem PySem.Spec PyProof.Rows
end L2
namespace Att
open PySem PySem.W PySem.Calls PyProof.Rows
end Att
namespace L2
open PySem PySem.Spec PyProof.Rows
end L2
namespace L2
open PySem PySem.Spec PyProof.Rows
noncomputable abbrev KOf{K:PySem.W.Frag}{h:Heap}(_:K.In h):PySem.W.Frag:=K
end L2
namespace L2
open PySem PySem.Spec PyProof.Rows
noncomputable def cD(s:Stmt)(j:Nat):Stmt:=match s with
 |.ClassDef _ _ _ body _ _ _ _ _ _ _=>body.getD j (.Pass ⟨0,0,0,0⟩)
 |_=>.Pass ⟨0,0,0,0⟩
noncomputable def f7(s:Stmt):Arguments:=match s with
 |.FunctionDef _ a _ _ _ _ _ _ _ _=>a
 |_=>{ posonlyargs:=[],args:=[],vararg:=none,kwonlyargs:=[],kw_defaults:=[],kwarg:=none,defaults:=[] }
noncomputable def eG(s:Stmt):List Stmt:=match s with
 |.FunctionDef _ _ b _ _ _ _ _ _ _=>b
 |_=>[]
noncomputable def ae(s:Stmt):Scope:=match s with
 |.FunctionDef _ _ _ _ _ _ sc _ _ _=>sc
 |_=>{ kind:=.function,names:=[],isGenerator:=false,isCoroutine:=false }
abbrev CX0:CXT:=fun _ _ _ _ _ _=>False
abbrev E0:XK:=fun _ _ _=>False
theorem dP{X:Cx}:iw CX0 X E0:=fun _ _ _ _ _ _ _ h=>h.elim
structure Fun(K:PySem.W.Frag)(x qual:Str)(st:Stmt)(f:Addr)(fd:FuncData):Prop where
 ex:∃(oc:Value) (od:Option Addr) (kV doc pm:Value) (an:Option Addr) (cdv ct:Value) (osl:Array (Option Value)),
  fd=PySem.W.fnOf x qual (f7 st) (eG st) (ae st) .none kV doc pm an cdv ct/\K.lookup f=some ⟨oc,od,.func fd,osl⟩/\PySem.W.codeIn K cdv qual=true
 kp:PySem.W.keepIn K (.ref f)=true
section
variable{P:Program}{w:World}{K:PySem.W.Frag}{mg:Str->Option Value}{base:Heap}{f:Addr}{fd:FuncData}
theorem Fun.ok{x qual:Str}{st:Stmt}{f:Addr}{fd:FuncData}{N ps:List Str}{k:Nat}{sp:Sp}(F:Fun K x qual st f fd)(S:au N ps (ae st))(len:∀vs H Q E,sp vs H Q E->vs.length=ps.length)
  (hbody:∀(cdv:Value) (A:Around) (outer:List Env) (s:Shared) (H:Hp) (vs:List V) (Q:VK) (E:XK),Room k (A.deeper (envOfC qual (ae st) s.heap.objs.size f cdv))->sp vs H Q E->
   ∃t,PSs (yV CX0 P w K mg base N qual (ae st) f cdv A outer s H E).nox (eG st) t/\t { nx:=fun _ H'=>Q .non H',rt:=Q } (lC N vs) H):aT P w K mg base CX0 (k+1) f fd ps sp:=by
 obtain⟨oc,od,kV,doc,pm,an,cdv,ct,osl,rfl,lk,hcd⟩:=F.ex;refine IF lk hcd S len fun A outer s H vs Q E hr hsp=>?_
 obtain⟨t,h,q⟩:=hbody cdv A outer s H vs Q E hr hsp;exact⟨t,h.nox,q⟩
theorem Fun.binds{x qual:Str}{st:Stmt}{f:Addr}{fd:FuncData}{ps:List Str}(F:Fun K x qual st f fd)
  (h:∀(kV doc pm:Value) (an:Option Addr) (cdv ct:Value) (us:List Value),us.length=ps.length->bindArgs (PySem.W.fnOf x qual (f7 st) (eG st) (ae st) .none kV doc pm an cdv ct) ⟨us,[]⟩=pure (ps.zip us)):gx K fd ps []:=by
 obtain⟨oc,od,kV,doc,pm,an,cdv,ct,osl,rfl,lk,hcd⟩:=F.ex;exact .all (h kV doc pm an cdv ct)
theorem vT{x qual:Str}{st:Stmt}{f:Addr}{oc:Value}{od an:Option Addr}{osl:Array (Option Value)}{kV doc pm cdv ct:Value}(l:K.lookup f=some ⟨oc,od,.func (PySem.W.fnOf x qual (f7 st) (eG st) (ae st) .none kV doc pm an cdv ct),osl⟩)
  (c:PySem.W.codeIn K cdv qual=true) (k:PySem.W.keepIn K (.ref f)=true):Fun K x qual st f (PySem.W.fnOf x qual (f7 st) (eG st) (ae st) .none kV doc pm an cdv ct):=⟨⟨oc,od,kV,doc,pm,an,cdv,ct,osl,rfl,l,c⟩,k⟩
end
theorem eU{A:Around}{k:Nat}(hr:Room k A):A.units+1<cLine:=Nat.lt_of_le_of_lt (Nat.add_le_add_left (by decide:1<=64) _) hr.units
section
variable{X:Cx}
theorem pv(i:Nat){x:Str}{pos:Pos}(hN:X.N[i]?=some x:=by rfl)(hv:Vis X.env.scope x:=by first | exact Or.inl rfl | exact Or.inr (Or.inl rfl) | exact Or.inr (Or.inr rfl))(hd:(x==("__debug__" : Str))=false:=by decide)
  (hcd:(x==("__classdict__" : Str))=false:=by decide):PE X (.Name x pos) (cb i):=FD hN hv hd hcd
end
theorem aZ{A B:Prop}(h:B):if false=true then A else B:=by
 rw[if_neg Bool.false_ne_true];exact h
theorem bh{A B:Prop}(h:A):if true=true then A else B:=by
 rw[if_pos rfl];exact h
theorem dF{c A B:Prop}[Decidable c](h1:c->A)(h2:¬c->B):if c then A else B:=by
 by_cases h:c
 ·rw[if_pos h];exact h1 h
 ·rw[if_neg h];exact h2 h
def aq(H H':Hp):Prop:=∀b o,H b=some o->H' b=some o
theorem aq.refl(H:Hp):aq H H:=fun _ _ h=>h
theorem aq.trans{H H1 H2:Hp}(a:aq H H1)(b:aq H1 H2):aq H H2:=fun c o h=>b c o (a c o h)
theorem aq.free{H H':Hp}(e:aq H H'){l:Addr}(h:H' l=Option.none):H l=Option.none:=by
 cases q:H l with
 |none=>rfl
 |some o=>
  rw[e l o q] at h;cases h
theorem aq.seq{K:PySem.W.Frag}{H H':Hp}{a:Addr}{xs:List V}(e:aq H H')(h:SqL K H a xs):SqL K H' a xs:=by
 rcases h with(h | ⟨o,h⟩) | h
 ·exact .inl (.inl (e _ _ h))
 ·exact .inl (.inr ⟨o,e _ _ h⟩)
 ·exact .inr h
theorem aq.made{H H1:Hp}{x dx C:Addr}(nx:H x=Option.none)(nd:H dx=Option.none)(k:∀b o,(upd (upd H dx (.own x)) x (.ins C dx [])) b=some o->b≠x->H1 b=some o):aq H H1:=fun b o e=>
 k b o (by rw[af (a9 e nx),af (a9 e nd)];exact e) (a9 e nx)
end L2
section
namespace L2
open PySem PySem.Spec PyProof.Rows
open PySem.W (WData Codec OpenSpec Well WellAll ReadsW ReadsAllW)
mutual
inductive Dw (K:PySem.W.Frag) (H:Hp):V->WData->Prop
 |non:Dw K H .non .none
 |bl (b:Bool):Dw K H (.bl b) (.bool b)
 |int (i:Int):Dw K H (.int i) (.int i)
 |str (x:Str):Dw K H (.str x) (.str x)
 |byt (b:Array UInt8):Dw K H (.byt b) (.bytes b.toList)
 |lst {a:Addr} {xs:List V} {ds:List WData}:SqL K H a xs->ia K H xs ds->Dw K H (.ref a) (.list ds)
 |tup {a:Addr} {xs:List V} {ds:List WData}:SqT K H a xs->ia K H xs ds->Dw K H (.ref a) (.tuple ds)
inductive ia (K:PySem.W.Frag) (H:Hp):List V->List WData->Prop
 |nil:ia K H [] []
 |cons {v:V} {vs:List V} {d:WData} {ds:List WData}:Dw K H v d->ia K H vs ds->ia K H (v::vs) (d::ds)
end
theorem xS{K:PySem.W.Frag}{H:Hp}:∀ns:List Int,ia K H (ns.map V.int) (ns.map WData.int)
 |[]=>.nil
 |n::r=>.cons (.int n) (xS r)
theorem ml{K:PySem.W.Frag}{H:Hp}:∀(ns:List Int) (xs:List V),ia K H xs (ns.map WData.int)->xs=ns.map V.int
 |[],xs,h=>by
  cases h;rfl
 |n::r,xs,h=>by
  cases h with
  |cons h1 h2=>
   cases h1;rw[ml r _ h2]<;>rfl
section
variable{P:Program}{w:World}{K:PySem.W.Frag}{H:Hp}{h:Heap}{R:PySem.W.WRecords}{cl:Str->Option Addr}
theorem Hh{a:Addr}{xs:List V}(hok:HOk P w H h)(KX:K.In h)(q:SqL K H a xs):∃(its:List Value) (o:Obj) (n:Nat),aY xs its/\h.get? a=some o/\o.cls=.type "list" /\ o.data=.seq its.toArray n:=by
 rcases q with q | ⟨o,its,n,e,hc,_,hd,_,hv⟩
 ·obtain⟨_,its,n,hv,e⟩:=(show d7 P w H h a (.lst xs) from q.ok hok)
  exact⟨its,_,n,hv,e,rfl,rfl⟩
 ·exact⟨its.toList,o,n,hv,KX _ _ e,hc,by simp[hd]⟩
theorem Gp{a:Addr}{xs:List V}(hok:HOk P w H h)(KX:K.In h)(q:SqT K H a xs):∃(its:List Value) (o:Obj) (n:Nat),aY xs its/\h.get? a=some o/\o.cls=.type "tuple" /\ o.data=.seq its.toArray n:=by
 rcases q with q | ⟨o,its,n,e,hc,hd,_,hv⟩
 ·obtain⟨_,its,hv,o,e,hc,n,hd⟩:=(show d7 P w H h a (.tup xs) from q.ok hok)
  exact⟨its,o,n,hv,e,hc,hd⟩
 ·exact⟨its.toList,o,n,hv,KX _ _ e,hc,by simp[hd]⟩
mutual
theorem Dw.reads(hok:HOk P w H h)(KX:K.In h):∀(d:WData) (v:V) (u:Value),Dw K H v d->b8 v u->∃as,ReadsW R cl h u d as
 |.none,_,_,x,r=>by
  cases x;cases r;exact⟨_,ReadsW.none⟩
 |.bool b,_,_,x,r=>by
  cases x;cases r;exact⟨_,ReadsW.bool b⟩
 |.int i,_,_,x,r=>by
  cases x;obtain⟨t,rfl⟩:=r;exact⟨_,ReadsW.int i t⟩
 |.str s,_,_,x,r=>by
  cases x;obtain⟨t,rfl⟩:=r;exact⟨_,ReadsW.str s t⟩
 |.bytes b,_,_,x,r=>by
  cases x;obtain⟨t,rfl⟩:=r;exact⟨_,ReadsW.bytes _ t⟩
 |.list ds,_,_,x,r=>by
  cases x with
  |lst hs ha=>
   cases r;obtain⟨its,o,n,rv,ho,hc,hd⟩:=Hh hok KX hs;obtain⟨as,hr⟩:=Dw.readsAll hok KX ds _ its ha rv;exact⟨_,ReadsW.list ho hc hd hr⟩
 |.tuple ds,_,_,x,r=>by
  cases x with
  |tup hs ha=>
   cases r;obtain⟨its,o,n,rv,ho,hc,hd⟩:=Gp hok KX hs;obtain⟨as,hr⟩:=Dw.readsAll hok KX ds _ its ha rv;exact⟨_,ReadsW.tuple ho hc hd hr⟩
 |.float _,_,_,x,_=>by cases x
 |.dict _,_,_,x,_=>by cases x
 |.bytearray _,_,_,x,_=>by cases x
 |.set _,_,_,x,_=>by cases x
 |.frozenset _,_,_,x,_=>by cases x
 |.obj _ _,_,_,x,_=>by cases x
theorem Dw.readsAll(hok:HOk P w H h)(KX:K.In h):∀(ds:List WData) (vs:List V) (us:List Value),ia K H vs ds->aY vs us->∃as,ReadsAllW R cl h us ds as
 |[],_,_,x,r=>by
  cases x;cases r;exact⟨_,ReadsAllW.nil⟩
 |d::ds,_,_,x,r=>by
  cases x with
  |cons h1 h2=>
   cases r with
   |cons r1 r2=>
    obtain⟨as,q1⟩:=Dw.reads hok KX d _ _ h1 r1;obtain⟨bs,q2⟩:=Dw.readsAll hok KX ds _ _ h2 r2;exact⟨_,ReadsAllW.cons q1 q2⟩
end
end
mutual
def plW:WData->Bool
 |.none=>true
 |.bool _=>true
 |.int _=>true
 |.str _=>true
 |.bytes _=>true
 |.list xs=>lL xs
 |.tuple xs=>lL xs
 |_=>false
def lL:List WData->Bool
 |[]=>true
 |x::r=>plW x&&lL r
end
theorem tV{α:Type}{f:α->WData}(h:∀a,plW (f a)=true):∀l:List α,lL (l.map f)=true
 |[]=>rfl
 |x::r=>by
  show(plW (f x)&&lL (r.map f))=true;rw[h x,tV h r]<;>rfl
theorem iD:∀(c:Codec) (a:c.denote),plW (c.enc a)=true
 |.unit,_=>rfl
 |.bool,_=>rfl
 |.int _ _,_=>rfl
 |.nat _ _,_=>rfl
 |.u8,_=>rfl
 |.bytes _ _,_=>rfl
 |.text _ _ _ _,_=>rfl
 |.list _ _ c,a=>tV (fun x=>iD c x) a
 |.pair c d,a=>by
  show(plW (c.enc a.1)&&(plW (d.enc a.2)&&true))=true;rw[iD c a.1,iD d a.2]<;>rfl
 |.triple c d e,a=>by
  show(plW (c.enc a.1)&&(plW (d.enc a.2.1)&&(plW (e.enc a.2.2)&&true)))=true;rw[iD c a.1,iD d a.2.1,iD e a.2.2]<;>rfl
 |.option c,none=>rfl
 |.option c,some x=>iD c x
theorem qb:∀(cs:List Codec) (a:Codec.denoteAll cs),lL (Codec.encAll cs a)=true
 |[],_=>rfl
 |c::cs,a=>by
  show(plW (c.enc a.1)&&lL (Codec.encAll cs a.2))=true;rw[iD c a.1,qb cs a.2]<;>rfl
theorem jD:∀{xs:List WData}{d:WData},d∈xs->d.weight<=WData.weightAll xs
 |[],d,h=>absurd h (by simp)
 |x::r,d,h=>by
  show d.weight<=x.weight+1+WData.weightAll r;rcases List.mem_cons.mp h with e | m
  ·rw[e];omega
  ·have z:=jD m;omega
noncomputable def toV:Value->V
 |.none=>.non
 |.bool b=>.bl b
 |.int i _=>.int i
 |.str x _=>.str x
 |.bytes b _=>.byt b
 |.ref a=>.ref a
 |_=>.non
def OkU(A:List Addr):Value->Prop
 |.none=>True
 |.bool _=>True
 |.int _ _=>True
 |.str _ _=>True
 |.bytes _ _=>True
 |.ref a=>a∈A
 |_=>False
theorem OkU.mono{A B:List Addr}(h:∀a∈A,a∈B):∀{u:Value},OkU A u->OkU B u:=fun {u} x=>by
 cases u with
 |ref a=>exact h a x
 |none=>trivial
 |bool b=>trivial
 |int i t=>trivial
 |str s t=>trivial
 |bytes b t=>trivial
 |_=>exact False.elim x
theorem BL{A:List Addr}{u:Value}(x:OkU A u):b8 (toV u) u:=by
 cases u with
 |ref a=>rfl
 |none=>rfl
 |bool b=>rfl
 |int i t=>exact⟨t,rfl⟩
 |str s t=>exact⟨t,rfl⟩
 |bytes b t=>exact⟨t,rfl⟩
 |_=>exact False.elim x
theorem gW{A:List Addr}:∀{vs:List Value},(∀u∈vs,OkU A u)->aY (vs.map toV) vs
 |[],_=>.nil
 |u::r,h=>.cons (BL (h u (List.mem_cons_self ..))) (gW fun x hx=>h x (List.mem_cons_of_mem _ hx))
def ib(h:Heap)(A:List Addr)(a:Addr):Prop:=∃vs:List Value,vs.length<=sizeLine/\(∀u∈vs,OkU A u)/\
 (h.get? a=some { cls:=.type "list",data:=.seq vs.toArray }\/h.get? a=some { cls:=.type "tuple",data:=.seq vs.toArray })
theorem ib.mono{h:Heap}{A B:List Addr}{a:Addr}(k:∀a∈A,a∈B)(x:ib h A a):ib h B a:=by
 obtain⟨vs,h1,h2,h3⟩:=x;exact⟨vs,h1,fun u hu=>(h2 u hu).mono k,h3⟩
theorem gb{P:Params}{h:Heap}:∀{vs:List Value}{ds:List WData},WellAll P h vs ds->vs.length=ds.length
 |_,_,.nil=>rfl
 |_,_,.cons _ b=>by
  show _+1=_+1;rw[gb b]
theorem pJ{P:Params}{h:Heap}{v:Value}{ds:List WData}(x:Well P h v (.list ds)):∃(a:Addr) (vs:List Value),v=.ref a/\h.get? a=some { cls:=.type "list",data:=.seq vs.toArray }/\WellAll P h vs ds:=by
 cases x with
 |list ho hall=>exact⟨_,_,rfl,ho,hall⟩
theorem mY{P:Params}{h:Heap}{v:Value}{ds:List WData}(x:Well P h v (.tuple ds)):∃(a:Addr) (vs:List Value),v=.ref a/\h.get? a=some { cls:=.type "tuple",data:=.seq vs.toArray }/\WellAll P h vs ds:=by
 cases x with
 |tuple ho hall=>exact⟨_,_,rfl,ho,hall⟩
theorem oS{P:Params}{h:Heap}{us:List Value}{d:WData}{ds:List WData}(x:WellAll P h us (d::ds)):∃(v:Value) (vs:List Value),us=v::vs/\Well P h v d/\WellAll P h vs ds:=by
 cases x with
 |cons a b=>exact⟨_,_,rfl,a,b⟩
theorem wW{n:Nat}(h:n<=1048576):n<=sizeLine:=Nat.le_trans h (by decide)
section
variable{P:Params}{h:Heap}
mutual
theorem An:∀(d:WData) (v:Value),Well P h v d->plW d=true->d.weight<=1048576->∃A:List Addr,OkU A v/\∀a∈A,ib h A a
 |.none,_,x,_,_=>by
  cases x;exact⟨[],trivial,fun a m=>absurd m (by simp)⟩
 |.bool b,_,x,_,_=>by
  cases x;exact⟨[],trivial,fun a m=>absurd m (by simp)⟩
 |.int i,_,x,_,_=>by
  cases x;exact⟨[],trivial,fun a m=>absurd m (by simp)⟩
 |.str s,_,x,_,_=>by
  cases x;exact⟨[],trivial,fun a m=>absurd m (by simp)⟩
 |.bytes b,_,x,_,_=>by
  cases x;exact⟨[],trivial,fun a m=>absurd m (by simp)⟩
 |.list ds,_,x,p,z=>by
  obtain⟨a,vs,rfl,ho,hall⟩:=pJ x;have z2:WData.weightAll ds<=1048576:=z;obtain⟨A,h1,h2⟩:=jT ds _ hall p fun d hd=>Nat.le_trans (jD hd) z2
  have k:∀b∈A,b∈a::A:=fun b hb=>List.mem_cons_of_mem _ hb
  refine⟨a::A,List.mem_cons_self ..,fun b hb=>?_⟩
  rcases List.mem_cons.mp hb with e | m
  ·rw[e];exact⟨vs,wW (by rw[gb hall];exact Nat.le_trans (PySem.W.length_le_weightAllW ds) z2),fun u hu=>(h1 u hu).mono k,.inl ho⟩
  ·exact(h2 b m).mono k
 |.tuple ds,_,x,p,z=>by
  obtain⟨a,vs,rfl,ho,hall⟩:=mY x;have z2:WData.weightAll ds<=1048576:=z;obtain⟨A,h1,h2⟩:=jT ds _ hall p fun d hd=>Nat.le_trans (jD hd) z2
  have k:∀b∈A,b∈a::A:=fun b hb=>List.mem_cons_of_mem _ hb
  refine⟨a::A,List.mem_cons_self ..,fun b hb=>?_⟩
  rcases List.mem_cons.mp hb with e | m
  ·rw[e];exact⟨vs,wW (by rw[gb hall];exact Nat.le_trans (PySem.W.length_le_weightAllW ds) z2),fun u hu=>(h1 u hu).mono k,.inr ho⟩
  ·exact(h2 b m).mono k
 |.float _,_,_,p,_=>Bool.noConfusion (show false=true from p)
 |.dict _,_,_,p,_=>Bool.noConfusion (show false=true from p)
 |.bytearray _,_,_,p,_=>Bool.noConfusion (show false=true from p)
 |.set _,_,_,p,_=>Bool.noConfusion (show false=true from p)
 |.frozenset _,_,_,p,_=>Bool.noConfusion (show false=true from p)
 |.obj _ _,_,_,p,_=>Bool.noConfusion (show false=true from p)
theorem jT:∀(ds:List WData) (vs:List Value),WellAll P h vs ds->lL ds=true->(∀d∈ds,d.weight<=1048576)->∃A:List Addr,(∀u∈vs,OkU A u)/\∀a∈A,ib h A a
 |[],_,x,_,_=>by
  cases x;exact⟨[],fun u m=>absurd m (by simp),fun a m=>absurd m (by simp)⟩
 |d::ds,_,x,p,z=>by
  obtain⟨v,vs,rfl,x1,x2⟩:=oS x;have q:plW d=true/\lL ds=true:=Bool.and_eq_true_iff.mp p;obtain⟨A,a1,a2⟩:=An d v x1 q.1 (z d (List.mem_cons_self ..));obtain⟨B,b1,b2⟩:=jT ds vs x2 q.2 fun e he=>z e (List.mem_cons_of_mem _ he)
  have kA:∀b∈A,b∈A++B:=fun b hb=>List.mem_append.mpr (.inl hb)
  have kB:∀b∈B,b∈A++B:=fun b hb=>List.mem_append.mpr (.inr hb)
  refine⟨A++B,fun u hu=>?_,fun b hb=>?_⟩
  ·rcases List.mem_cons.mp hu with e | m
   ·rw[e];exact a1.mono kA
   ·exact(b1 u m).mono kB
  ·rcases List.mem_append.mp hb with m | m
   ·exact(a2 b m).mono kA
   ·exact(b2 b m).mono kB
end
end
def DV(o:Obj):Option HO:=match o.data with
 |.seq vs _=>if(o.cls==Value.type "list")=true then some (.frz o (.lst (vs.toList.map toV))) else some (.frz o (.tup (vs.toList.map toV)))
 |_=>none
def hW(K:PySem.W.Frag)(h:Heap)(A:List Addr):Hp:=fun b=>if b∈A then(if(K.lookup b).isNone=true then(h.get? b).bind DV else none) else none
def uy(H:Hp):Prop:=∀b,H b=none\/∃o u,H b=some (.frz o u)
theorem sJ(vs:List Value):DV { cls:=.type "list",data:=.seq vs.toArray }=some (.frz { cls:=.type "list",data:=.seq vs.toArray } (.lst (vs.map toV))):=by
 show(if(Value.type "list" == Value.type "list")=true then some (HO.frz { cls:=.type "list",data:=.seq vs.toArray } (.lst (vs.toArray.toList.map toV))) else some (HO.frz { cls:=.type "list",data:=.seq vs.toArray } (.tup (vs.toArray.toList.map toV))))=_
 rw[if_pos (beq_self_eq_true _)]
theorem uh(vs:List Value):DV { cls:=.type "tuple",data:=.seq vs.toArray }=some (.frz { cls:=.type "tuple",data:=.seq vs.toArray } (.tup (vs.map toV))):=by
 show(if(Value.type "tuple" == Value.type "list")=true then some (HO.frz { cls:=.type "tuple",data:=.seq vs.toArray } (.lst (vs.toArray.toList.map toV))) else some (HO.frz { cls:=.type "tuple",data:=.seq vs.toArray } (.tup (vs.toArray.toList.map toV))))=_
 rw[if_neg (by decide)]
section
variable{P:Program}{w:World}{K:PySem.W.Frag}{h:Heap}{A:List Addr}
theorem lZ{b:Addr}{o:Obj}(hb:b∈A)(hk:K.lookup b=none)(e:h.get? b=some o):hW K h A b=DV o:=by
 unfold hW;rw[if_pos hb,hk,if_pos (show(none:Option Obj).isNone=true from rfl),e]<;>rfl
theorem DB{b:Addr}{u:HO}(q:hW K h A b=some u):b∈A/\K.lookup b=none:=by
 unfold hW at q;by_cases hb:b∈A
 ·rw[if_pos hb] at q;cases hk:K.lookup b with
  |none=>exact⟨hb,rfl⟩
  |some o=>
   rw[hk,if_neg (by simp)] at q
   cases q
 ·rw[if_neg hb] at q;cases q
theorem lW(ar:∀a∈A,ib h A a){b:Addr}{u:HO}(q:hW K h A b=some u):K.lookup b=none/\∃vs:List Value,vs.length<=sizeLine/\(∀u∈vs,OkU A u)/\
  ((h.get? b=some { cls:=.type "list",data:=.seq vs.toArray }/\u=.frz { cls:=.type "list",data:=.seq vs.toArray } (.lst (vs.map toV)))\/
   (h.get? b=some { cls:=.type "tuple",data:=.seq vs.toArray }/\u=.frz { cls:=.type "tuple",data:=.seq vs.toArray } (.tup (vs.map toV)))):=by
 obtain⟨hb,hk⟩:=DB q;obtain⟨vs,h1,h2,h3⟩:=ar b hb;refine⟨hk,vs,h1,h2,?_⟩;rcases h3 with e | e
 ·rw[lZ hb hk e,sJ] at q;exact .inl ⟨e,(Option.some.inj q).symm⟩
 ·rw[lZ hb hk e,uh] at q;exact .inr ⟨e,(Option.some.inj q).symm⟩
theorem yK(ar:∀a∈A,ib h A a):uy (hW K h A):=fun b=>by
 cases q:hW K h A b with
 |none=>exact .inl rfl
 |some u=>
  obtain⟨_,vs,_,_,⟨_,e⟩ | ⟨_,e⟩⟩:=lW ar q
  ·exact .inr ⟨_,_,by rw[e]⟩
  ·exact .inr ⟨_,_,by rw[e]⟩
theorem DM(ar:∀a∈A,ib h A a):HOk P w (hW K h A) h:=fun b u q=>by
 obtain⟨_,vs,h1,h2,⟨e,rfl⟩ | ⟨e,rfl⟩⟩:=lW ar q
 ·exact⟨e,by rw[List.length_map];exact h1,vs,_,gW h2,e⟩
 ·exact⟨e,by rw[List.length_map];exact h1,vs,gW h2,_,e,rfl,_,rfl⟩
theorem m9{c c':Value}{vs us:List Value}(e:(some { cls:=c,data:=.seq vs.toArray }:Option Obj)=some { cls:=c',data:=.seq us.toArray }):c=c'/\vs=us:=by
 have e1:=Option.some.inj e;have e2:c=c':=congrArg Obj.cls e1;have e3:Data.seq vs.toArray=Data.seq us.toArray:=congrArg Obj.data e1;injection e3 with e4
 refine⟨e2,?_⟩;have e5:=congrArg Array.toList e4;simpa using e5
theorem Jf(KX:K.In h)(ar:∀a∈A,ib h A a){a:Addr}{vs:List Value}(ha:a∈A)(e:h.get? a=some { cls:=.type "list",data:=.seq vs.toArray }):(∀u∈vs,OkU A u)/\SqL K (hW K h A) a (vs.map toV):=by
 obtain⟨us,h1,h2,h3⟩:=ar a ha;have hu:us=vs:=by
  rcases h3 with q | q
  ·rw[e] at q;exact(m9 q).2.symm
  ·rw[e] at q;exact absurd (Value.type.inj (m9 q).1) (by decide)
 subst hu;refine⟨h2,?_⟩;cases hk:K.lookup a with
 |none=>exact .inl (.inr ⟨_,by rw[lZ ha hk e,sJ]⟩)
 |some o=>
  have e2:=KX a o hk;rw[e] at e2;obtain rfl:=Option.some.inj e2;exact .inr ⟨_,us.toArray,_,hk,rfl,rfl,rfl,by rw[List.size_toArray];exact h1,by simpa using gW h2⟩
theorem J0(KX:K.In h)(ar:∀a∈A,ib h A a){a:Addr}{vs:List Value}(ha:a∈A)(e:h.get? a=some { cls:=.type "tuple",data:=.seq vs.toArray }):(∀u∈vs,OkU A u)/\SqT K (hW K h A) a (vs.map toV):=by
 obtain⟨us,h1,h2,h3⟩:=ar a ha;have hu:us=vs:=by
  rcases h3 with q | q
  ·rw[e] at q;exact absurd (Value.type.inj (m9 q).1) (by decide)
  ·rw[e] at q;exact(m9 q).2.symm
 subst hu;refine⟨h2,?_⟩;cases hk:K.lookup a with
 |none=>exact .inl (.inr ⟨_,by rw[lZ ha hk e,uh]⟩)
 |some o=>
  have e2:=KX a o hk;rw[e] at e2;obtain rfl:=Option.some.inj e2;exact .inr ⟨_,us.toArray,_,hk,rfl,rfl,by rw[List.size_toArray];exact h1,by simpa using gW h2⟩
mutual
theorem GN{Pm:Params}(KX:K.In h)(ar:∀a∈A,ib h A a):∀(d:WData) (v:Value),Well Pm h v d->plW d=true->OkU A v->Dw K (hW K h A) (toV v) d
 |.none,_,x,_,_=>by
  cases x;exact .non
 |.bool b,_,x,_,_=>by
  cases x;exact .bl b
 |.int i,_,x,_,_=>by
  cases x;exact .int i
 |.str s,_,x,_,_=>by
  cases x;exact .str s
 |.bytes b,_,x,_,_=>by
  cases x;have z:=Dw.byt (K:=K) (H:=hW K h A) b.toArray;exact z
 |.list ds,_,x,p,hu=>by
  obtain⟨a,vs,rfl,ho,hall⟩:=pJ x;obtain⟨h2,hs⟩:=Jf KX ar hu ho;exact .lst hs (qG KX ar ds _ hall p h2)
 |.tuple ds,_,x,p,hu=>by
  obtain⟨a,vs,rfl,ho,hall⟩:=mY x;obtain⟨h2,hs⟩:=J0 KX ar hu ho;exact .tup hs (qG KX ar ds _ hall p h2)
 |.float _,_,_,p,_=>Bool.noConfusion (show false=true from p)
 |.dict _,_,_,p,_=>Bool.noConfusion (show false=true from p)
 |.bytearray _,_,_,p,_=>Bool.noConfusion (show false=true from p)
 |.set _,_,_,p,_=>Bool.noConfusion (show false=true from p)
 |.frozenset _,_,_,p,_=>Bool.noConfusion (show false=true from p)
 |.obj _ _,_,_,p,_=>Bool.noConfusion (show false=true from p)
theorem qG{Pm:Params}(KX:K.In h)(ar:∀a∈A,ib h A a):∀(ds:List WData) (vs:List Value),WellAll Pm h vs ds->lL ds=true->(∀u∈vs,OkU A u)->ia K (hW K h A) (vs.map toV) ds
 |[],_,x,_,_=>by
  cases x;exact .nil
 |d::ds,_,x,p,hu=>by
  obtain⟨v,vs,rfl,x1,x2⟩:=oS x;have q:plW d=true/\lL ds=true:=Bool.and_eq_true_iff.mp p;exact .cons (GN KX ar d v x1 q.1 (hu _ (List.mem_cons_self ..))) (qG KX ar ds vs x2 q.2 fun u m=>hu u (List.mem_cons_of_mem _ m))
end
end
theorem yh{P:Program}{w:World}{K:PySem.W.Frag}{mg mb:Str->Option Value}{CX:CXT}{k:Nat}{fa:Addr}{fd:FuncData}{ps:List Str}{sp:Sp}{s₁:Shared}{vals:List Value}{ds:List WData}{R:PySem.W.WRecords}{cl:Str->Option Addr}{d0:WData}
  (KX:K.In s₁.heap) (hns:s₁.heap.Ns mainGlobals mg) (hb:s₁.heap.Ns builtinsNs mb) (hbb:∀x:Str,x ≠ "__name__" -> mb x=bootBuiltins x) (hlim:s₁.heap.NoLimit) (hg:s₁.gens=#[])
  (hwl:WellAll w.params s₁.heap vals ds) (hpl:lL ds=true) (hwt:∀d∈ds,d.weight<=1048576) (hr:Room k callerA)
  (F:∀base:Heap,K.In base->base.Ns mainGlobals mg->aT P w K mg base CX k fa fd ps sp) (hbind:∀(s:Shared) (us:List Value),us.length=ps.length->BindsTo s fd ⟨us,[]⟩ (ps.zip us)) (hlen:ds.length=ps.length)
  (hsp:∀(H:Hp) (xs:List V),uy H->ia K H xs ds->sp xs H (fun v H'=>Dw K H' v d0) fun _ _ _=>False)
  (hCX:∀H e s',CX [] H s₁ (fun _ _ _=>False) e s'->False) :
  codeAny (model P w) callerA (.call (.ref fa) ⟨vals,[]⟩) (fun r s'=>∃u as,r=.ok (.ret u)/\ReadsW R cl s'.heap u d0 as/\OldK s₁.heap s'.heap/\s'.os=s₁.os/\AllBare s'.gens) s₁:=by
 obtain⟨A,ho,ar⟩:=jT ds vals hwl hpl hwt;have hO:uy (hW K s₁.heap A):=yK ar;have hok:HOk P w (hW K s₁.heap A) s₁.heap:=DM ar;have hS:=qG KX ar ds vals hwl hpl ho;have hV:=gW ho;have hK:∀b u,hW K s₁.heap A b=some u->K.lookup b=none:=fun b u q=>(lW ar q).1
 have noA:∀{b:Addr} {o:Obj} {es:Array DictEntry} {ep:Nat},s₁.heap.get? b=some o->o.data=.dict es ep->hW K s₁.heap A b=none:=fun {b o es ep} e d=>by
  cases q:hW K s₁.heap A b with
  |none=>rfl
  |some u=>
   obtain⟨_,vs,_,_,⟨e2,_⟩ | ⟨e2,_⟩⟩:=lW ar q
   ·rw[e2] at e;cases e;have d':Data.seq vs.toArray _=Data.dict es ep:=d;cases d'
   ·rw[e2] at e;cases e;have d':Data.seq vs.toArray _=Data.dict es ep:=d;cases d'
 generalize hW K s₁.heap A=H at hO hok hS hK noA;have base_of:∀{b:Addr} {o:Obj},s₁.heap.get? b=some o->H b=none->(qP s₁.heap H).get? b=some o:=fun e n=>AL e n
 have nsK:∀{b:Addr} {m:Str->Option Value},s₁.heap.Ns b m->(qP s₁.heap H).Ns b m:=fun {b m} ⟨o,es,ep,e,d,r⟩=>⟨o,es,ep,base_of e (noA e d),d,r⟩
 have nK:∀b o,K.lookup b=some o->H b=none:=fun b o e=>by
  cases q:H b with
  |none=>rfl
  |some u=>
   rw[hK b u q] at e;cases e
 have hKb:K.In (qP s₁.heap H):=fun b o e=>base_of (KX b o e) (nK b o e)
 have hM:Mod K mg (qP s₁.heap H):=⟨hKb,nsK hns,⟨mb,nsK hb,hbb⟩,let ⟨mc,h1,h2⟩:=hlim;⟨mc,nsK h1,h2⟩⟩;have e0:vO P w K mg (qP s₁.heap H) callerA [] s₁ H:=⟨rfl,hM,fun b o e=>Dg e,Nat.le_of_eq (xX _ _),trivial,fun b hb=>absurd (show b∈([]:List Addr) from hb) (by simp),hok,.of_eq hg⟩
 have hl:vals.length=ps.length:=by rw[gb hwl];exact hlen
 refine codeAny_mono ((F _ hKb (nsK hns)).run callerA [] s₁ H ⟨vals,[]⟩ vals (vals.map toV) _ _ hr e0 (hbind s₁ vals hl) hV (hsp H _ hO hS)) fun r s' x=>?_
 cases r with
 |error e=>exact(hCX H e s' x).elim
 |ok fl=>
  cases fl with
  |next=>exact False.elim x
  |brk=>exact False.elim x
  |cont=>exact False.elim x
  |ret u=>
   obtain⟨v,H',os,bare,un,hok',r',q⟩:=x;have kept:∀b o,s₁.heap.get? b=some o->s'.heap.get? b=some o:=fun b o e=>by
    cases q2:H b with
    |none=>exact un.keep b o e q2 (by intro z;exact absurd (show b∈([]:List Addr) from z) (by simp)) (by simp)
    |some u2=>
     rcases hO b with z | ⟨ob,u3,z⟩
     ·rw[q2] at z;cases z
     ·have z2:=un.frzs b ob _ z;obtain⟨e1,_⟩:=hok b _ z;obtain⟨e2,_⟩:=hok' b _ z2;rw[e] at e1;cases e1;exact e2
   have KX':K.In s'.heap:=fun b o e=>kept b o (KX b o e)
   obtain⟨as,hrd⟩:=Dw.reads (R:=R) (cl:=cl) hok' KX' d0 v u q r';exact⟨u,as,rfl,hrd,OldK.of_keep kept,os,bare⟩
theorem mQ{ds:List WData}(h:WData.layableAll ds=true):∀d∈ds,d.weight<=1048576:=fun d hd=>
 (PySem.W.layableW_iff.mp (List.all_eq_true.mp h d hd)).2.2
theorem mN:∀(cs:List Codec) (a:Codec.denoteAll cs),(Codec.encAll cs a).length=cs.length
 |[],_=>rfl
 |c::cs,a=>by
  show(Codec.encAll cs a.2).length+1=cs.length+1;rw[mN cs a.2]
theorem za{r:OpenSpec}{k:Nat}{q:Program}{loose:List Str}{XP:(Str->Option Value)->Heap->Prop}{YP:World->Heap->Prop}{d:DefRec}{K:Params->PySem.W.Frag}{CX:World->CXT}{ps:List Str}{sp:World->Sp}
  (hwell:r.wellSaid=true) (hdf:d.params.defaults=[]) (hlen:r.args.length=ps.length) (hr:Room k callerA)
  (hY:∀(w:World) (h:Heap),YP w h->(K w.params).In h)
  (F:∀(w:World) (mg:Str->Option Value) (fa:Addr) (h:Heap),YP w h->(K w.params).In h->h.Ns mainGlobals mg->mg d.name=some (.ref fa)->
   ∃fd:FuncData,(∀(s:Shared) (us:List Value),us.length=ps.length->BindsTo s fd ⟨us,[]⟩ (ps.zip us))/\
    ∀base:Heap,(K w.params).In base->base.Ns mainGlobals mg->aT r.prog w (K w.params) mg base (CX w) k fa fd ps (sp w))
  (hsp:∀(w:World) (H:Hp) (xs:List V) (a:Codec.denoteAll r.args),uy H->Codec.withinAll r.args a=true->Codec.app r.args r.asked a=true->ia (K w.params) H xs (Codec.encAll r.args a)->
   sp w xs H (fun v H'=>Dw (K w.params) H' v (r.ret.enc (Codec.app r.args r.f a))) fun _ _ _=>False)
  (hCX:∀(w:World) (H:Hp) (s:Shared) (e:Value) (s':Shared),CX w [] H s (fun _ _ _=>False) e s'->False) :
  PySem.W.WalkOS q loose XP YP r d [] (fun f vs=>PySem.call f vs):=by
 intro w s_0 s₁ mg mb G Y fa o pm cd doc dV kV ho hd hcd hD hmg hg args vals as hpre hlay hrd hwl hlo;obtain⟨a,e1,e2⟩:=PySem.W.os_pre_some hpre;obtain⟨e3,hwi⟩:=Codec.encAll_of_decAll r.args args a e1;subst e3;have KX:=hY w _ Y;obtain⟨fd,hb,hF⟩:=F w mg fa _ Y KX G.T.g hmg;refine PySem.W.enter_call (codeAny_mono (yh (R:=[]) (cl:=classAt s_0.heap) (d0:=r.ret.enc (Codec.app r.args r.f a)) KX G.T.g G.T.b G.T.builtins G.T.nolimit hg hwl (qb _ _) (mQ hlay) hr hF hb (by rw[mN];exact hlen)
  (fun H xs hO hS=>hsp w H xs a hO hwi e2 hS) fun H e s'=>hCX w H s₁ e s') fun r' s' hq=>?_)
 obtain⟨u,as',rfl,h1,h2,h3,h4⟩:=hq;exact⟨.inl ⟨u,_,as',rfl,fun _=>rfl,h1,(OpenSpec.post_iff hwell hwi _ _).mpr rfl,fun z=>Bool.noConfusion (show false=true from z)⟩,h2,h3,h4⟩
theorem vz{r:OpenSpec}{k:Nat}{q:Program}{loose:List Str}{XP:(Str->Option Value)->Heap->Prop}{YP:World->Heap->Prop}{d:DefRec}{K:Params->PySem.W.Frag}{CX:CXT}{ps:List Str}{sp:PySem.W.Frag->Sp}
  (hwell:r.wellSaid=true) (hdf:d.params.defaults=[]) (hlen:r.args.length=ps.length) (hr:Room k callerA)
  (hY:∀(w:World) (h:Heap),YP w h->(K w.params).In h)
  (F:∀(w:World) (mg:Str->Option Value) (fa:Addr) (h:Heap),YP w h->(K w.params).In h->h.Ns mainGlobals mg->mg d.name=some (.ref fa)->
   ∃fd:FuncData,(∀(s:Shared) (us:List Value),us.length=ps.length->BindsTo s fd ⟨us,[]⟩ (ps.zip us))/\
    ∀base:Heap,(K w.params).In base->base.Ns mainGlobals mg->aT r.prog w (K w.params) mg base CX k fa fd ps (sp (K w.params)))
  (hsp:∀(K:PySem.W.Frag) (H:Hp) (xs:List V) (a:Codec.denoteAll r.args),uy H->Codec.withinAll r.args a=true->Codec.app r.args r.asked a=true->ia K H xs (Codec.encAll r.args a)->
   sp K xs H (fun v H'=>Dw K H' v (r.ret.enc (Codec.app r.args r.f a))) fun _ _ _=>False)
  (hCX:∀(H:Hp) (s:Shared) (e:Value) (s':Shared),CX [] H s (fun _ _ _=>False) e s'->False) :
  PySem.W.WalkOS q loose XP YP r d [] (fun f vs=>PySem.call f vs):=
 za (K:=K) (CX:=fun _=>CX) (sp:=fun w=>sp (K w.params)) hwell hdf hlen hr hY F (fun w H xs a h1 h2 h3 h4=>hsp (K w.params) H xs a h1 h2 h3 h4) fun _ H s e s'=>hCX H s e s'
end L2
end
end
section
namespace L2
open PySem PySem.Spec PyProof.Rows
section
variable{X:Cx}
theorem nT:Ia X (yz X.K):=by
 intro pins s σ H x y v u Q I rx ry h;obtain⟨p,xs,i,z,rfl,rfl,hq,he,q⟩:=h;cases rx;obtain⟨t,rfl⟩:=ry;obtain⟨its,r,pl,hz⟩:=I.list hq;obtain⟨j,h1,h2,h3,h4,h5⟩:=qu he;obtain⟨w,ew,rw'⟩:=r.get h2;have hl:=r.length;have hn:=jG;have fin:EP X pins σ Q w s:=⟨z,H,I,rw',q⟩;by_cases h0:0<=i
 ·have hj:i.toNat=j:=by
   rw[seqIndex_of h0 h5] at h1;exact Option.some.inj h1
  exact wpAny_getItem_list pl.isList h0 (by omega) (by rw[hj];simpa using ew) fin
 ·have hj:(i+(its.toArray.size:Int)).toNat=j:=by
   rw[seqIndex_neg (by omega) h4] at h1
   rw[List.size_toArray,<-hl];exact Option.some.inj h1
  exact wpAny_getItem_list_neg pl.isList (by omega) (by rw[List.size_toArray]<;>omega) (by omega) (by rw[hj];simpa using ew) fin
end
structure gz(K:PySem.W.Frag)(w:World)(a:Addr)(kvs:List (Str×V)):Prop where
 ex:∃(o:Obj) (es:Array DictEntry) (n:Nat),K.lookup a=some o/\o.ExactDict/\o.data=.dict es n/\Paired (fun(p:Str×V) (e:DictEntry)=>(∃t,e.key=.str p.1 t)/\e.hash=hashStr w p.1/\b8 p.2 e.val) kvs es.toList
 nd:(kvs.map (·.1)).Nodup
 ns:(a==sysModules)=false
theorem tY{P:Program}{w:World}:∀{kvs:List (Str×V)}{es:List DictEntry},Paired (fun(p:Str×V) (e:DictEntry)=>(∃t,e.key=.str p.1 t)/\e.hash=hashStr w p.1/\b8 p.2 e.val) kvs es->
  Pairs (bw P w) es (es.map fun e=>((match e.key with | .str x _=>Sum.inr x | _=>Sum.inl 0:Key),e.val))/\KV (kvs.map fun p=>((Sum.inr p.1:Key),p.2)) (es.map fun e=>((match e.key with | .str x _=>Sum.inr x | _=>Sum.inl 0:Key),e.val))
 |_,_,.nil=>⟨.nil,.nil⟩
 |_,_,.cons (a:=p) (b:=e) ⟨⟨t,hk⟩,hh,hv⟩ r=>by
  obtain⟨r1,r2⟩:=tY (P:=P) r;refine⟨.cons ?_ rfl r1,.cons ?_ r2⟩
  ·dsimp only;rw[hk];exact iH P w p.1 t
  ·dsimp only;rw[hk];exact⟨rfl,hv⟩
theorem gz.map{X:Cx}{pins:List (Addr×Obj)}{σ:St}{H:Hp}{s:Shared}{a:Addr}{kvs:List (Str×V)}(I:Inv X pins σ H s)(D:gz X.K X.w a kvs) :
  ∃f:Key->Option Value,s.heap.MapOf (bw X.prog X.w) a f/\∀k,g8 (cw (kvs.map fun p=>((Sum.inr p.1:Key),p.2)) k) (f k):=by
 obtain⟨o,es,n,hl,hx,hd,hp⟩:=D.ex;obtain⟨h1,h2⟩:=tY (P:=X.prog) hp;refine⟨_,⟨o,es,n,I.kIn a o hl,hx,hd,?_,fun k=>?_⟩,fun k=>KV.val h2 k⟩
 ·intro e he;have go:∀{kvs:List (Str×V)} {es:List DictEntry},Paired (fun(p:Str×V) (e:DictEntry)=>(∃t,e.key=.str p.1 t)/\e.hash=hashStr X.w p.1/\b8 p.2 e.val) kvs es->∀e∈es,∃k,(bw X.prog X.w).is k e.key=true/\e.hash=(bw X.prog X.w).hash k:=by
   intro kvs es q
   induction q with
   |nil=>intro e he;cases he
   |cons hq t ih=>
    intro e he;rcases List.mem_cons.mp he with rfl | he
    ·obtain⟨⟨t,hk⟩,hh,_⟩:=hq;exact⟨Sum.inr _,by rw[hk];exact iH X.prog X.w _ t,hh⟩
    ·exact ih e he
  exact go hp e (Array.mem_toList_iff.mpr he)
 ·have z:=h1.find k;rw[<-z];obtain⟨l⟩:=es;simp[findBy]
section
variable{X:Cx}{o i:Expr}{pos:Pos}{td ty:TE}
def Im(K:PySem.W.Frag)(w:World)(td ty:TE):TE:=fun σ H Q=>td σ H fun x H1=>ty σ H1 fun y H2=>∃a kvs k v,x=.ref a/\y=.str k/\gz K w a kvs/\kvs.lookup k=some v/\Q v H2
def IU(K:PySem.W.Frag)(w:World)(ty td:TE):TE:=fun σ H Q=>ty σ H fun y H1=>td σ H1 fun x H2=>∃a kvs k,x=.ref a/\y=.str k/\gz K w a kvs/\Q (.bl (kvs.lookup k).isSome) H2
theorem kJ(k:Str):∀kvs:List (Str×V),cw (kvs.map fun p=>((Sum.inr p.1:Key),p.2)) (Sum.inr k)=kvs.lookup k
 |[]=>rfl
 |(x,v)::r=>by
  have ih:=kJ k r;by_cases e:x=k
  ·subst e;rw[List.map_cons,cK rfl];simp[List.lookup]
  ·rw[List.map_cons,cx (fun z=>e (Sum.inr.inj z)),ih]
   have:(k==x)=false:=by simpa using fun z:k=x=>e z.symm
   simp[List.lookup,this]
theorem j5(ho:PE X o td)(hi:PE X i ty)(hs:Dr i):PE X (.Subscript o i pos) (Im X.K X.w td ty):=by
 intro pins s σ H Q I h;refine rL PySem.F.slot_dict_getitem.lookup hs (thn (ho pins s σ H _ I h) fun u s1 ⟨x,H1,I1,rx,q1⟩=>thn (hi pins s1 σ H1 _ I1 q1) fun iv s2 ⟨y,H2,I2,ry,a,kvs,k,v,ex,ey,D,l,q2⟩=>?_)
 subst ex ey;obtain rfl:u=Value.ref a:=rx;obtain⟨f,m,hf⟩:=D.map I2;have hk:=hf (Sum.inr k);rw[kJ,l] at hk;obtain⟨w',hw,rw'⟩:=g8.some_of hk;exact⟨m.typeIs,wpAny_getItem_of (jm (k:=Sum.inr k) ry) m hw ⟨v,H2,I2.tok _,rw',q2⟩⟩
theorem uI(hi:PE X i ty)(ho:PE X o td):PC X .In i o (IU X.K X.w ty td):=by
 intro pins s σ H Q I h;refine thn (hi pins s σ H _ I h) fun iv s1 ⟨y,H1,I1,ry,q1⟩=>thn (ho pins s1 σ H1 _ I1 q1) fun u s2 ⟨x,H2,I2,rx,a,kvs,k,ex,ey,D,q2⟩=>?_
 subst ex ey;obtain rfl:u=Value.ref a:=rx;obtain⟨f,m,hf⟩:=D.map I2;have hk:=(hf (Sum.inr k)).isSome_eq;rw[kJ] at hk;refine wpAny_in_of (jm (k:=Sum.inr k) ry) D.ns m ?_;rw[<-hk];exact⟨.bl _,H2,I2.tok _,rfl,q2⟩
end
theorem DQ{x:Str}{g:TG}{tb:TS}{D:jM}{σ:St}{H:Hp}(Pv:Nat->St->Hp->Prop)(h0:Pv 0 σ H)
  (hs:∀i c σ H,x.cps.toList[i]?=some c->Pv i σ H->g (.str ⟨#[c]⟩) σ H fun σ2 H2=>tb { D with nx:=Pv (i+1),ct:=Pv (i+1),bk:=D.nx } σ2 H2) (hd:∀σ H,Pv x.cps.toList.length σ H->D.nx σ H) :
  ∃W:Nat->Nat->St->Hp->Prop,(∃m,W 0 m σ H)/\∀i m σ H,W i m σ H->
   ((Its x).stop i H/\D.nx σ H)\/((Its x).go i H/\∃N:St->Hp->Prop,(∀σ' H',N σ' H'->∃m',m'<m/\W (i+1) m' σ' H')/\∀y H',(Its x).yld i H y H'->g y σ H' fun σ2 H2=>tb { D with nx:=N,ct:=N,bk:=D.nx } σ2 H2):=by
 have hn:x.cps.toList.length=x.cps.size:=by simp
 refine⟨fun i m σ H=>m=x.cps.size-i/\i<=x.cps.size/\Pv i σ H,⟨x.cps.size,by simp,Nat.zero_le _,h0⟩,?_⟩
 rintro i m σ H ⟨rfl,hi,p⟩;by_cases hlt:i<x.cps.size
 ·refine .inr ⟨hlt,Pv (i+1),fun σ' H' p'=>⟨x.cps.size-(i+1),by omega,rfl,hlt,p'⟩,fun y H' z=>?_⟩
  obtain⟨e,c,hc,rfl⟩:=z;subst e;exact hs i c σ _ (by simpa using hc) p
 ·have e:i=x.cps.size:=by omega
  subst e;exact .inl ⟨Nat.le_refl _,hd σ H (by rw[hn];exact p)⟩
theorem fJ{K:PySem.W.Frag}{a:Addr}{xs:List V}{g:TG}{tb:TS}{D:jM}{σ:St}{H:Hp}(Pv:Nat->St->Hp->Prop)(h0:Pv 0 σ H)(hl:∀i σ H,i<=xs.length->Pv i σ H->SqL K H a xs)
  (hs:∀i x σ H T,xs[i]?=some x->Pv i σ H->H T=none->g (.ref T) σ (upd H T (.tup [.int (i:Nat),x])) fun σ2 H2=>tb { D with nx:=Pv (i+1),ct:=Pv (i+1),bk:=D.nx } σ2 H2) (hd:∀σ H,Pv xs.length σ H->D.nx σ H) :
  ∃W:Nat->Nat->St->Hp->Prop,(∃m,W 0 m σ H)/\∀i m σ H,W i m σ H->
   ((Ite K a).stop i H/\D.nx σ H)\/((Ite K a).go i H/\∃N:St->Hp->Prop,(∀σ' H',N σ' H'->∃m',m'<m/\W (i+1) m' σ' H')/\∀x H',(Ite K a).yld i H x H'->g x σ H' fun σ2 H2=>tb { D with nx:=N,ct:=N,bk:=D.nx } σ2 H2):=by
 refine⟨fun i m σ H=>m=xs.length-i/\i<=xs.length/\Pv i σ H,⟨xs.length,by simp,Nat.zero_le _,h0⟩,?_⟩
 rintro i m σ H ⟨rfl,hi,p⟩;have q:=hl i σ H hi p;by_cases hlt:i<xs.length
 ·refine .inr ⟨⟨xs,xs[i],q,by simp[hlt]⟩,Pv (i+1),fun σ' H' p'=>⟨xs.length-(i+1),by omega,rfl,hlt,p'⟩,fun x H' y=>?_⟩
  obtain⟨T,z,rfl,hT,rfl,hz⟩:=y;exact hs i z σ H T (hz xs q) p hT
 ·have e:i=xs.length:=by omega
  subst e;exact .inl ⟨⟨xs,q,Nat.le_refl _⟩,hd σ H p⟩
def bZ(D:Addr)(H H':Hp):Prop:=∀b o,b≠D->H b=some o->H' b=some o
theorem bZ.refl{D:Addr}{H:Hp}:bZ D H H:=fun _ _ _ e=>e
theorem bZ.trans{D:Addr}{H H1 H2:Hp}(a:bZ D H H1)(b:bZ D H1 H2):bZ D H H2:=fun c o n e=>b c o n (a c o n e)
theorem bZ.upd{D:Addr}{H:Hp}{o:HO}:bZ D H (upd H D o):=fun b u n e=>by
 rw[af n];exact e
def bg{β:Type}(H:Hp)(p:Addr)(S:Hp->V->β->Prop)(ys:List β):Prop:=∃vs:List V,H p=some (.lst vs)/\Paired (fun v y=>S H v y) vs ys
theorem fN{α β:Type}{G:α->β->Prop}:∀{l:List α}{m:List β}{a:α}{b:β},Paired G l m->G a b->Paired G (l++[a]) (m++[b])
 |_,_,_,_,.nil,h=>.cons h .nil
 |_,_,_,_,.cons r t,h=>.cons r (fN t h)
theorem b5{α β:Type}{G:α->β->Prop}:∀{l:List α}{m:List β},Paired G l m->l.length=m.length
 |_,_,.nil=>rfl
 |_,_,.cons _ t=>by rw[List.length_cons,List.length_cons,b5 t]
theorem cj{α β:Type}{G:α->β->Prop}:∀{l:List α}{m:List β}{i:Nat}{a:α}{b:β},Paired G l m->l[i]?=some a->m[i]?=some b->G a b
 |_,_,_,_,_,.nil,h,_=>by simp at h
 |_,_,0,_,_,.cons r _,h,k=>by
  simp at h k;subst h k;exact r
 |_,_,i+1,_,_,.cons _ t,h,k=>by
  simp at h k;exact cj t h k
section
variable{α β:Type}{g:TG}{tt:TT}{te:TE}{vs:List Nat}{σ:St}{H1:Hp}{D:Addr}{Qd:Hp->Prop}{p:α->Bool}{f:α->β}{S:Hp->V->β->Prop}
def o7(g:TG)(tt:TT)(te:TE)(vs:List Nat)(σ:St)(D:Addr)(p:α->Bool)(f:α->β)(S:Hp->V->β->Prop)(v:V)(x:α)(H':Hp):Prop:=
 ∀(Fin:V->Hp->Prop) (Nx:Hp->Prop),(p x=true->∀H2 y,aq H' H2->S H2 y (f x)->Fin y H2)->(p x=false->∀H2,aq H' H2->Nx H2)->
  g v (cy σ vs) H' fun σ2 H2=>cy σ2 vs=cy σ vs/\tt σ2 H2 fun b H3=>if b=true then te σ2 H3 Fin else Nx H3
def gT(H1:Hp)(D:Addr)(p:α->Bool)(f:α->β)(S:Hp->V->β->Prop)(xs:List α)(i:Nat)(H:Hp):Prop:=
 bZ D H1 H/\bg H D S (((xs.take i).filter p).map f)
theorem bU{xs:List α}{i:Nat}{x:α}(h:xs[i]?=some x):xs.take (i+1)=xs.take i++[x]:=by
 rw[List.take_add_one,h];rfl
theorem mj{xs:List α}{i:Nat}{x:α}{v:V}{H:Hp}(hz:xs.length<=100000)(hD:H1 D=none)(mono:∀H H' y z acc,H D=some (.lst acc)->bZ D H H'->S H y z->S H' y z)(hx:xs[i]?=some x)(inv:gT H1 D p f S xs i H)
  (turn:o7 g tt te vs σ D p f S v x H) :
  g v (cy σ vs) H fun σ2 H2=>cy σ2 vs=cy σ vs/\tt σ2 H2 fun b H3=>if b=true then te σ2 H3 fun y H4=>∃acc,H4 D=some (.lst acc)/\acc.length<sizeLine/\gT H1 D p f S xs (i+1) (upd H4 D (.lst (acc++[y]))) else gT H1 D p f S xs (i+1) H3:=by
 obtain⟨o1,acc,e1,pr⟩:=inv;have hi:=(List.getElem?_eq_some_iff.mp hx).1;have sD:∀H2,aq H H2->bZ D H H2:=fun H2 s b o _ e=>s b o e
 refine turn (fun y H4=>∃acc,H4 D=some (.lst acc)/\acc.length<sizeLine/\gT H1 D p f S xs (i+1) (upd H4 D (.lst (acc++[y])))) (gT H1 D p f S xs (i+1)) (fun hp H4 y s hS=>⟨acc,s _ _ e1,?_,?_,acc++[y],a7,?_⟩) (fun hp H3 s=>⟨?_,acc,s _ _ e1,?_⟩)
 ·rw[b5 pr,List.length_map];refine Nat.lt_of_le_of_lt (Nat.le_trans (List.length_filter_le _ _) ?_) (show 100000<sizeLine by decide)
  rw[List.length_take];omega
 ·exact(o1.trans (sD _ s)).trans bZ.upd
 ·rw[bU hx,List.filter_append,List.map_append,List.filter_cons,if_pos hp];refine fN (Paired.mapP pr fun v y h=>mono _ _ _ _ acc (s _ _ e1) bZ.upd (mono _ _ _ _ acc e1 (sD _ s) h)) (mono _ _ _ _ acc (s _ _ e1) bZ.upd hS)
 ·exact o1.trans (sD _ s)
 ·rw[bU hx,List.filter_append,List.map_append,List.filter_cons,if_neg (by rw[hp];exact Bool.false_ne_true)]
  rw[List.filter_nil,List.map_nil,List.append_nil];exact Paired.mapP pr fun v y h=>mono _ _ _ _ acc e1 (sD _ s) h
theorem me{xs:List α}(hD:H1 D=none):gT H1 D p f S xs 0 (upd H1 D (.lst [])):=⟨bZ.upd,[],a7,by rw[List.take_zero];exact .nil⟩
theorem dH{K:PySem.W.Frag}{a:Addr}{as:List V}{xs:List α}(hl:as.length=xs.length)(hz:xs.length<=100000)(hD:H1 D=none)(hS:SqL K H1 a as)(mono:∀H H' y z acc,H D=some (.lst acc)->bZ D H H'->S H y z->S H' y z)
  (turn:∀(i:Nat) (v:V) (x:α) (H':Hp),as[i]?=some v->xs[i]?=some x->aq H1 H'->o7 g tt te vs σ D p f S v x H') (hd:∀H,aq H1 H->bg H D S ((xs.filter p).map f)->Qd H) :
  ∃W:Nat->Nat->Hp->Prop,(∃m,W 0 m (upd H1 D (.lst [])))/\∀i m H,W i m H->
   ((Itl K a).stop i H/\Qd H)\/((Itl K a).go i H/\∃Nx:Hp->Prop,(∀H',Nx H'->∃m',m'<m/\W (i+1) m' H')/\∀x H',(Itl K a).yld i H x H'->g x (cy σ vs) H' fun σ2 H2=>cy σ2 vs=cy σ vs/\tt σ2 H2 fun b H3=>
    if b=true then te σ2 H3 fun y H4=>∃acc,H4 D=some (.lst acc)/\acc.length<sizeLine/\Nx (upd H4 D (.lst (acc++[y]))) else Nx H3):=by
 refine xg (K:=K) (a:=a) (xs:=as) (gT H1 D p f S xs) (me hD) (fun i H _ inv=>?_) (fun i v H hv inv=>?_) (fun H inv=>?_)
 ·rcases hS with(h | ⟨o,h⟩) | h
  ·exact .inl (.inl (inv.1 _ _ (a9 h hD) h))
  ·exact .inl (.inr ⟨o,inv.1 _ _ (a9 h hD) h⟩)
  ·exact .inr h
 ·have hi:=(List.getElem?_eq_some_iff.mp hv).1;obtain⟨x,hx⟩:∃x,xs[i]?=some x:=⟨_,List.getElem?_eq_getElem (by omega)⟩
  exact mj hz hD mono hx inv (turn i v x H hv hx fun b o e=>inv.1 b o (a9 e hD) e)
 ·have:=inv.2;rw[hl,List.take_length] at this;exact hd H (fun b o e=>inv.1 b o (a9 e hD) e) this
end
section
variable{β:Type}{g:TG}{tt:TT}{te:TE}{vs:List Nat}{σ:St}{H1:Hp}{D:Addr}{Qd:Hp->Prop}{p:Nat->Bool}{f:Nat->β}{S:Hp->V->β->Prop}
theorem El{lo:Int}{n:Nat}(hz:n<=100000)(hD:H1 D=none)(mono:∀H H' y z acc,H D=some (.lst acc)->bZ D H H'->S H y z->S H' y z)
  (turn:∀i H',i<n->aq H1 H'->o7 g tt te vs σ D p f S (.int (lo+i)) i H') (hd:∀H,aq H1 H->bg H D S (((List.range n).filter p).map f)->Qd H) :
  ∃W:Nat->Nat->Hp->Prop,(∃m,W 0 m (upd H1 D (.lst [])))/\∀i m H,W i m H->
   ((Itr lo n).stop i H/\Qd H)\/((Itr lo n).go i H/\∃Nx:Hp->Prop,(∀H',Nx H'->∃m',m'<m/\W (i+1) m' H')/\∀x H',(Itr lo n).yld i H x H'->g x (cy σ vs) H' fun σ2 H2=>cy σ2 vs=cy σ vs/\tt σ2 H2 fun b H3=>
    if b=true then te σ2 H3 fun y H4=>∃acc,H4 D=some (.lst acc)/\acc.length<sizeLine/\Nx (upd H4 D (.lst (acc++[y]))) else Nx H3):=by
 refine tM (lo:=lo) (n:=n) (gT H1 D p f S (List.range n)) (me hD) (fun i H hi inv=>?_) (fun H inv=>?_)
 ·exact mj (by rw[List.length_range];exact hz) hD mono (List.getElem?_range hi) inv (turn i H hi fun b o e=>inv.1 b o (a9 e hD) e)
 ·have:=inv.2;rw[List.take_of_length_le (by rw[List.length_range];exact Nat.le_refl _)] at this
  exact hd H (fun b o e=>inv.1 b o (a9 e hD) e) this
theorem Ce{x:Str}(hz:x.cps.size<=100000)(hD:H1 D=none)(mono:∀H H' y z acc,H D=some (.lst acc)->bZ D H H'->S H y z->S H' y z)
  (turn:∀(i c:Nat) (H':Hp),x.cps.toList[i]?=some c->aq H1 H'->o7 g tt te vs σ D p f S (.str ⟨#[c]⟩) c H') (hd:∀H,aq H1 H->bg H D S ((x.cps.toList.filter p).map f)->Qd H) :
  ∃W:Nat->Nat->Hp->Prop,(∃m,W 0 m (upd H1 D (.lst [])))/\∀i m H,W i m H->
   ((Its x).stop i H/\Qd H)\/((Its x).go i H/\∃Nx:Hp->Prop,(∀H',Nx H'->∃m',m'<m/\W (i+1) m' H')/\∀y H',(Its x).yld i H y H'->g y (cy σ vs) H' fun σ2 H2=>cy σ2 vs=cy σ vs/\tt σ2 H2 fun b H3=>
    if b=true then te σ2 H3 fun y H4=>∃acc,H4 D=some (.lst acc)/\acc.length<sizeLine/\Nx (upd H4 D (.lst (acc++[y]))) else Nx H3):=by
 have hn:x.cps.toList.length=x.cps.size:=by simp
 refine⟨fun i m H=>m=x.cps.size-i/\i<=x.cps.size/\gT H1 D p f S x.cps.toList i H,⟨x.cps.size,by simp,Nat.zero_le _,me hD⟩,?_⟩
 rintro i m H ⟨rfl,hi,inv⟩;by_cases hlt:i<x.cps.size
 ·refine .inr ⟨hlt,gT H1 D p f S x.cps.toList (i+1),fun H' p'=>⟨x.cps.size-(i+1),by omega,rfl,hlt,p'⟩,fun y H' z=>?_⟩
  obtain⟨e,c,hc,rfl⟩:=z;subst e;have hc':x.cps.toList[i]?=some c:=by simpa using hc
  exact mj (by rw[hn];exact hz) hD mono hc' inv (turn i c _ hc' fun b o e=>inv.1 b o (a9 e hD) e)
 ·have e:i=x.cps.size:=by omega
  subst e;refine .inl ⟨Nat.le_refl _,hd H (fun b o e=>inv.1 b o (a9 e hD) e) ?_⟩
  have:=inv.2;rw[<-hn,List.take_length] at this;exact this
end
theorem wb{K:PySem.W.Frag}{a:Addr}{xs:List V}{g:TG}{tb:TS}{D:jM}{σ:St}{H:Hp}(Pv:Nat->St->Hp->Prop)(h0:Pv 0 σ H)(hl:∀i σ H,i<=xs.length->Pv i σ H->SqL K H a xs)
  (hs:∀i x σ H,xs.reverse[i]?=some x->Pv i σ H->g x σ H fun σ2 H2=>tb { D with nx:=Pv (i+1),ct:=Pv (i+1),bk:=D.nx } σ2 H2) (hd:∀σ H,Pv xs.length σ H->D.nx σ H) :
  ∃W:Nat->Nat->St->Hp->Prop,(∃m,W 0 m σ H)/\∀i m σ H,W i m σ H->
   ((Itv K a xs.length).stop i H/\D.nx σ H)\/((Itv K a xs.length).go i H/\∃N:St->Hp->Prop,(∀σ' H',N σ' H'->∃m',m'<m/\W (i+1) m' σ' H')/\∀x H',(Itv K a xs.length).yld i H x H'->g x σ H' fun σ2 H2=>tb { D with nx:=N,ct:=N,bk:=D.nx } σ2 H2):=by
 refine⟨fun i m σ H=>m=xs.length-i/\i<=xs.length/\Pv i σ H,⟨xs.length,by simp,Nat.zero_le _,h0⟩,?_⟩
 rintro i m σ H ⟨rfl,hi,p⟩;have q:=hl i σ H hi p;by_cases hlt:i<xs.length
 ·have hlt2:xs.length-1-i<xs.length:=by omega
  refine .inr ⟨⟨hlt,xs,xs[xs.length-1-i],q,by simp[hlt2]⟩,Pv (i+1),fun σ' H' p'=>⟨xs.length-(i+1),by omega,rfl,hlt,p'⟩,fun x H' y=>?_⟩
  obtain⟨e,y⟩:=y;subst e;refine hs i x σ _ ?_ p;rw[List.getElem?_reverse hlt];exact y xs q
 ·have e:i=xs.length:=by omega
  subst e;exact .inl ⟨Nat.le_refl _,hd σ H p⟩
theorem sq{t u:TS}{D:jM}{σ:St}{H:Hp}(h:t { D with nx:=u D } σ H):Iz t u D σ H:=h
theorem jt{σ:St}{H:Hp}{te:TE}{Fin:VK}{Nx:Hp->Prop}(h:te σ H Fin):HX σ H fun b H3=>if b=true then te σ H3 Fin else Nx H3:=by
 show if true=true then te σ H Fin else Nx H
 rw[if_pos rfl];exact h
theorem eQ{α:Type}(l:List α):l.filter (fun _=>true)=l:=List.filter_eq_self.mpr fun _ _=>rfl
theorem g9{tc:TT}{t u:TS}{D:jM}{σ:St}{H:Hp}(Post:St->Hp->Prop)(hk:∀σ' H',Post σ' H'->D.nx σ' H')(h:(∀σ' H',Post σ' H'->D.nx σ' H')->FH tc t u D σ H):FH tc t u D σ H:=h hk
section
variable{X:Cx}
def Gm(K:PySem.W.Frag):List V->Hp->VK->Prop:=fun vs H Q=>∃(a:Addr) (ns:List Int),vs=[V.ref a]/\SqL K H a (ns.map V.int)/\ns.length<=1000/\
 ∀p,H p=none->Q (.ref p) (upd H p (.set (fun k=>(firstMet (fun i=>ns.getD i 0) ns.length).any (·==k)) (firstMet (fun i=>ns.getD i 0) ns.length).length))
theorem Ga(hc:X.calm=true):gI X (.type "set") (Gm X.K):=by
 intro pins s σ H vs us Q I r h;obtain⟨a,ns,rfl,hs,hz,q⟩:=h;obtain⟨its,rv,hl,_⟩:=I.list hs;rw[aY.ref1 r];have hi:=rv.ints;have hlen:its.length=ns.length:=by
  have:=rv.length;rw[List.length_map] at this;exact this.symm
 refine PySem.call_set_list (I.ok.hd hc) hl.isList (by simpa using hi) (by rw[List.size_toArray,hlen];unfold scanBound;omega) fun h' tk hS hk=>?_
 have es:its.toArray.size=ns.length:=by rw[List.size_toArray,hlen]
 rw[es] at hS;exact⟨.ref s.heap.objs.size,_,I.laid (o:=.set (fun k=>(firstMet (fun i=>ns.getD i 0) ns.length).any (·==k)) (firstMet (fun i=>ns.getD i 0) ns.length).length) (t':=tk) (fun b o e=>hk b o (Heap.lt_size e) e) (Nat.le_refl _) hS,rfl,q _ (I.hok.fresh (Nat.le_refl _))⟩
theorem yX:gI X (.builtin "len") (fun xs H Q=>∃a S n,xs=[V.ref a]/\H a=some (.set S n)/\n<=1000/\Q (.int (n:Nat)) H):=by
 intro pins s σ H xs us Q I r h;obtain⟨a,S,n,rfl,ha,hn,q⟩:=h;rw[aY.ref1 r];obtain⟨o,es,ep,t,e,hx,hd,_,_,_,hf,rfl⟩:=I.hok a _ ha;exact PySem.call_len_set e hx hd hf (by omega) ⟨.int _,H,(I.tok _).tok _,⟨_,rfl⟩,q⟩
def I0:List V->Hp->VK->Prop:=fun vs H Q=>∃i j:Int,vs=[.int i,.int j]/\∀p,H p=none->Q (.ref p) (upd H p (.rng i j))
theorem yJ:gI X (.type "range") I0:=by
 intro pins s σ H vs us Q I r h;obtain⟨i,j,rfl,q⟩:=h;obtain⟨u,w',rfl,⟨t,rfl⟩,⟨t',rfl⟩⟩:=IC r;refine PySem.call_range_2 ?_;exact⟨.ref s.heap.objs.size,_,I.laid (o:=.rng i j) (t':=s.toks+1) (fun b o e=>Heap.get?_push_of_some _ e) (Nat.le_refl _) ⟨t,t',s.toks,Heap.get?_push_size _ rfl⟩,rfl,q _ (I.hok.fresh (Nat.le_refl _))⟩
def GB:List V->Hp->VK->Prop:=fun vs H Q=>∃(a:Addr) (i:Int) (n:Nat),vs=[.ref a]/\H a=some (.rng i (i+n))/\-(2 ^ 30)<=i/\i<2 ^ 30/\n<=1000/\∀p,H p=none->Q (.ref p) (upd H p (.lst ((List.range n).map fun k=>V.int (i+(k:Nat)))))
theorem AY(hc:X.calm=true):gI X (.type "list") GB:=by
 intro pins s σ H vs us Q I r h;obtain⟨a,i,n,rfl,ha,h1,h2,hn,q⟩:=h;rw[aY.ref1 r];obtain⟨t,u,v,e⟩:=I.hok a _ ha;have l24:(2:Nat) ^ 24<=sizeLine:=by decide
 refine PySem.call_list_range (n:=n) (I.ok.hd hc) e (small_one (by omega) (by omega) (by omega) (by omega)) (by rw[rangeSize_one];split<;>omega) (by omega) fun h' tk acc c' hk e' hi=>?_
 obtain⟨l⟩:=acc;have hl:l.length=n:=by simpa using hi.1
 have vl:aY ((List.range n).map fun k=>V.int (i+(k:Nat))) l:=by
  have go:∀(m:Nat) (l:List Value) (o:Nat),l.length=m->(∀j v,l[j]?=some v->∃t,v=Value.int (i+((o+j:Nat):Int) * 1) t)->aY ((List.range' o m).map fun k=>V.int (i+(k:Nat))) l:=by
   intro m
   induction m with
   |zero=>
    intro l o hl _;rw[List.length_eq_zero_iff.mp hl];exact .nil
   |succ m ih=>
    intro l o hl hv;cases l with
    |nil=>simp at hl
    |cons v l=>
     obtain⟨t,et⟩:=hv 0 v rfl;refine .cons ⟨t,by rw[et,Nat.add_zero,Int.mul_one]⟩ (ih l (o+1) (by simpa using hl) fun j v' hj=>?_)
     obtain⟨t',e'⟩:=hv (j+1) v' (by simpa using hj)
     exact⟨t',by rw[e',show o+(j+1)=o+1+j by omega]⟩
  have:=go n l 0 hl fun j v hj=>by
   obtain⟨t,e⟩:=hi.2 j v (by simpa using hj)
   exact⟨t,by rw[e,Nat.zero_add]⟩
  rw[List.range_eq_range'];exact this
 refine⟨.ref s.heap.objs.size,_,I.laid (o:=.lst ((List.range n).map fun k=>V.int (i+(k:Nat)))) (t':=tk) hk (Nat.le_refl _) ⟨?_,l,c',vl,e'⟩,rfl,q _ (I.hok.fresh (Nat.le_refl _))⟩
 rw[List.length_map,List.length_range];omega
end
structure jA(K:PySem.W.Frag)(a:Addr)(kvs:List (Int×V)):Prop where
 ex:∃(o:Obj) (es:Array DictEntry) (n:Nat),K.lookup a=some o/\o.ExactDict/\o.data=.dict es n/\Paired (fun(p:Int×V) (e:DictEntry)=>(∃t,e.key=.int p.1 t)/\e.hash=hashInt p.1/\b8 p.2 e.val) kvs es.toList
 ns:(a==sysModules)=false
theorem pY{P:Program}{w:World}:∀{kvs:List (Int×V)}{es:List DictEntry},Paired (fun(p:Int×V) (e:DictEntry)=>(∃t,e.key=.int p.1 t)/\e.hash=hashInt p.1/\b8 p.2 e.val) kvs es->
  Pairs (bw P w) es (es.map fun e=>((match e.key with | .int x _=>Sum.inl x | _=>Sum.inl 0:Key),e.val))/\KV (kvs.map fun p=>((Sum.inl p.1:Key),p.2)) (es.map fun e=>((match e.key with | .int x _=>Sum.inl x | _=>Sum.inl 0:Key),e.val))/\∀e∈es,∃k,(bw P w).is k e.key=true/\e.hash=(bw P w).hash k
 |_,_,.nil=>⟨.nil,.nil,fun e he=>by cases he⟩
 |_,_,.cons (a:=p) (b:=e) ⟨⟨t,hk⟩,hh,hv⟩ r=>by
  obtain⟨r1,r2,r3⟩:=pY (P:=P) (w:=w) r;refine⟨.cons ?_ rfl r1,.cons ?_ r2,fun e' he=>?_⟩
  ·dsimp only;rw[hk];exact iR P w p.1 t
  ·dsimp only;rw[hk];exact⟨rfl,hv⟩
  ·rcases List.mem_cons.mp he with rfl | he
   ·exact⟨Sum.inl p.1,by rw[hk];exact iR P w p.1 t,hh⟩
   ·exact r3 e' he
theorem jA.map{X:Cx}{pins:List (Addr×Obj)}{σ:St}{H:Hp}{s:Shared}{a:Addr}{kvs:List (Int×V)}(I:Inv X pins σ H s)(D:jA X.K a kvs) :
  ∃f:Key->Option Value,s.heap.MapOf (bw X.prog X.w) a f/\∀k,g8 (cw (kvs.map fun p=>((Sum.inl p.1:Key),p.2)) k) (f k):=by
 obtain⟨o,es,n,hl,hx,hd,hp⟩:=D.ex;obtain⟨h1,h2,h3⟩:=pY (P:=X.prog) (w:=X.w) hp;refine⟨_,⟨o,es,n,I.kIn a o hl,hx,hd,fun e he=>h3 e (Array.mem_toList_iff.mpr he),fun k=>?_⟩,fun k=>KV.val h2 k⟩
 have z:=h1.find k;rw[<-z];obtain⟨l⟩:=es;simp[findBy]
theorem j3(k:Int):∀kvs:List (Int×V),cw (kvs.map fun p=>((Sum.inl p.1:Key),p.2)) (Sum.inl k)=kvs.lookup k
 |[]=>rfl
 |(x,v)::r=>by
  have ih:=j3 k r;by_cases e:x=k
  ·subst e;rw[List.map_cons,cK rfl];simp[List.lookup]
  ·rw[List.map_cons,cx (fun z=>e (Sum.inl.inj z)),ih]
   have:(k==x)=false:=by simpa using fun z:k=x=>e z.symm
   simp[List.lookup,this]
section
variable{X:Cx}{o i:Expr}{pos:Pos}{td ty:TE}
def Gi(K:PySem.W.Frag)(td ty:TE):TE:=fun σ H Q=>td σ H fun x H1=>ty σ H1 fun y H2=>∃a kvs k v,x=.ref a/\y=.int k/\jA K a kvs/\kvs.lookup k=some v/\Q v H2
def EC(K:PySem.W.Frag)(neg:Bool)(ty td:TE):TE:=fun σ H Q=>ty σ H fun y H1=>td σ H1 fun x H2=>∃a kvs k,x=.ref a/\y=.int k/\jA K a kvs/\Q (.bl (if neg then !(kvs.lookup k).isSome else(kvs.lookup k).isSome)) H2
theorem tG(ho:PE X o td)(hi:PE X i ty)(hs:Dr i):PE X (.Subscript o i pos) (Gi X.K td ty):=by
 intro pins s σ H Q I h;refine rL PySem.F.slot_dict_getitem.lookup hs (thn (ho pins s σ H _ I h) fun u s1 ⟨x,H1,I1,rx,q1⟩=>thn (hi pins s1 σ H1 _ I1 q1) fun iv s2 ⟨y,H2,I2,ry,a,kvs,k,v,ex,ey,D,l,q2⟩=>?_)
 subst ex ey;obtain rfl:u=Value.ref a:=rx;obtain⟨f,m,hf⟩:=D.map I2;have hk:=hf (Sum.inl k);rw[j3,l] at hk;obtain⟨w',hw,rw'⟩:=g8.some_of hk;exact⟨m.typeIs,wpAny_getItem_of (jm (k:=Sum.inl k) ry) m hw ⟨v,H2,I2.tok _,rw',q2⟩⟩
theorem DS(hi:PE X i ty)(ho:PE X o td):PC X .In i o (EC X.K false ty td):=by
 intro pins s σ H Q I h;refine thn (hi pins s σ H _ I h) fun iv s1 ⟨y,H1,I1,ry,q1⟩=>thn (ho pins s1 σ H1 _ I1 q1) fun u s2 ⟨x,H2,I2,rx,a,kvs,k,ex,ey,D,q2⟩=>?_
 subst ex ey;obtain rfl:u=Value.ref a:=rx;obtain⟨f,m,hf⟩:=D.map I2;have hk:=(hf (Sum.inl k)).isSome_eq;rw[j3] at hk;refine wpAny_in_of (jm (k:=Sum.inl k) ry) D.ns m ?_;rw[<-hk];exact⟨.bl _,H2,I2.tok _,rfl,q2⟩
theorem Bz(hi:PE X i ty)(ho:PE X o td):PC X .NotIn i o (EC X.K true ty td):=by
 intro pins s σ H Q I h;refine thn (hi pins s σ H _ I h) fun iv s1 ⟨y,H1,I1,ry,q1⟩=>thn (ho pins s1 σ H1 _ I1 q1) fun u s2 ⟨x,H2,I2,rx,a,kvs,k,ex,ey,D,q2⟩=>?_
 subst ex ey;obtain rfl:u=Value.ref a:=rx;obtain⟨f,m,hf⟩:=D.map I2;have hk:=(hf (Sum.inl k)).isSome_eq;rw[j3] at hk;refine wpAny_notIn_of (jm (k:=Sum.inl k) ry) D.ns m ?_;rw[<-hk];exact⟨.bl _,H2,I2.tok _,rfl,q2⟩
end
section
variable{X:Cx}
theorem Bk:MtR X "str.rjust" (fun x xs H Q=>∃a i,x=.str a/\xs=[.int i]/\PadOk i=true/\Q (.str (Txt.rjust a i)) H):=by
 intro pins s σ H x xs v us Q I rx rs h;obtain⟨a,i,rfl,rfl,hp,q⟩:=h;obtain⟨t,rfl⟩:=rx;obtain⟨u,rfl,⟨t',rfl⟩⟩:=pP rs;exact PySem.SC.rjust hp fun t2 k=>⟨.str _,H,I.tok k,⟨t2,rfl⟩,q⟩
theorem CC:OpR X (binaryOp .Mult) (fun x y H Q=>∃a n,x=.str a/\y=.int n/\MulOk a n/\Q (.str (Txt.mul a n)) H):=by
 intro pins s σ H x y v u Q I rx ry h;obtain⟨a,n,rfl,rfl,ok,q⟩:=h;obtain⟨t,rfl⟩:=rx;obtain⟨t',rfl⟩:=ry;exact PySem.SB.mul ok fun t2 k=>⟨.str _,H,I.tok k,⟨t2,rfl⟩,q⟩
end
theorem tP:∀(l m:List Int),PyData.eqvAll (l.map PyData.int) (m.map PyData.int)=decide (l=m)
 |[],[]=>by simp[PyData.eqvAll]
 |[],_::_=>by simp[PyData.eqvAll]
 |_::_,[]=>by simp[PyData.eqvAll]
 |a::l,b::m=>by
  rw[List.map_cons,List.map_cons,PyData.eqvAll,tP l m];apply Bool.eq_iff_iff.mpr;simp[PyData.eqv]
theorem sk:∀l:List Int,SeqAt.shaped (.list (l.map PyData.int))=true:=by
 intro l;have d:∀l:List Int,PyData.depthAll (l.map PyData.int)<=1:=by
  intro l
  induction l with
  |nil=>simp[PyData.depthAll]
  |cons a l ih=>
   rw[List.map_cons];simp only[PyData.depthAll,PyData.depth];omega
 have c:∀l:List Int,PyData.canLayAll0 (l.map PyData.int)=true:=by
  intro l
  induction l with
  |nil=>simp[PyData.canLayAll0]
  |cons a l ih=>
   rw[List.map_cons];simp only[PyData.canLayAll0,PyData.canLay0,ih];rfl
 have:=d l;unfold SeqAt.shaped;rw[Bool.and_eq_true];exact⟨by rw[PyData.canLay0];exact c l,decide_eq_true (by rw[PyData.depth];omega)⟩
section
variable{X:Cx}
theorem qw{K:PySem.W.Frag}{H:Hp}:∀l:List Int,oh K H (l.map V.int) (l.map PyData.int)
 |[]=>.nil
 |a::l=>.cons (.int a) (qw l)
def IY(K:PySem.W.Frag):R2:=fun x y H Q=>∃(a b:Addr) (l m:List Int),x=.ref a/\y=.ref b/\SqL K H a (l.map V.int)/\SqL K H b (m.map V.int)/\Q (.bl (!decide (l=m))) H
theorem Gr(hu:X.A.units+64<cLine):OpR X (compareOp .NotEq) (IY X.K):=by
 intro pins s σ H x y v u Q I rx ry h;obtain⟨a,b,l,m,rfl,rfl,h1,h2,q⟩:=h;refine Hy hu pins s σ H _ _ v u Q I rx ry ⟨_,_,.lst h1 (qw l),.lst h2 (qw m),sk l,sk m,?_⟩;rw[PyData.eqv,tP];exact q
end
end L2
end
section
namespace JM
open Pu
noncomputable def cn(c:UInt8):Bool:=decide (48<=c.toNat)&&decide (c.toNat<=57)
noncomputable def dv(c:UInt8):Nat:=c.toNat-48
theorem fz(d:Bytes)(c:UInt8):valueOf (d++[c])=10 * valueOf d+dv c:=by
 unfold valueOf dv;rw[List.foldl_append];rfl
theorem ik:∀d:Nat,d<10->(UInt8.ofNat (Nat.digitChar d).toNat)=UInt8.ofNat (48+d):=by decide
theorem kK{n:Nat}(h:n<10):dec n=[UInt8.ofNat (48+n)]:=by
 unfold dec;rw[Nat.toDigits_of_lt_base h];show[UInt8.ofNat (Nat.digitChar n).toNat]=_;rw[ik n h]
theorem iK{n:Nat}(h:10<=n):dec n=dec (n / 10)++[UInt8.ofNat (48+n % 10)]:=by
 have hm:n % 10<10:=Nat.mod_lt n (by decide)
 have t:Nat.toDigits 10 (n / 10)++Nat.toDigits 10 (n % 10)=Nat.toDigits 10 (10 * (n / 10)+n % 10):=Nat.toDigits_append_toDigits (by decide) (by omega) hm
 rw[Nat.div_add_mod] at t;unfold dec;rw[<-t,List.map_append,Nat.toDigits_of_lt_base hm];show _++[UInt8.ofNat (Nat.digitChar (n % 10)).toNat]=_;rw[ik _ hm]
theorem xH{c:UInt8}(h:cn c=true):UInt8.ofNat (48+dv c)=c:=by
 unfold cn at h;simp only[Bool.and_eq_true,decide_eq_true_eq] at h;unfold dv;rw[show 48+(c.toNat-48)=c.toNat by omega]
 exact UInt8.ofNat_toNat
theorem F6{c:UInt8}(h:cn c=true):dv c<10:=by
 unfold cn at h;simp only[Bool.and_eq_true,decide_eq_true_eq] at h;unfold dv;omega
theorem xM:∀d:Nat,d<10->dv (UInt8.ofNat (48+d))=d:=by decide
theorem nF:∀d:Nat,d<10->cn (UInt8.ofNat (48+d))=true:=by decide
theorem jC(n:Nat):∀c∈dec n,cn c=true:=by
 induction n using Nat.strongRecOn with
 |_ n ih=>
  by_cases h:n<10
  ·rw[kK h];intro c hc;rw[List.mem_singleton.mp hc];exact nF n h
  ·rw[iK (by omega)]
   intro c hc;rcases List.mem_append.mp hc with hc | hc
   ·exact ih (n / 10) (by omega) c hc
   ·rw[List.mem_singleton.mp hc];exact nF _ (Nat.mod_lt n (by decide))
theorem aV(n:Nat):valueOf (dec n)=n:=by
 induction n using Nat.strongRecOn with
 |_ n ih=>
  by_cases h:n<10
  ·rw[kK h];show 10 * 0+dv (UInt8.ofNat (48+n))=n;rw[xM n h];omega
  ·rw[iK (by omega),fz,ih (n / 10) (by omega),xM _ (Nat.mod_lt n (by decide))]
   omega
theorem Bc{v:Nat}{c:UInt8}(hv:v≠0)(hc:cn c=true):dec (10 * v+dv c)=dec v++[c]:=by
 have h:=F6 hc;rw[iK (by omega),show(10 * v+dv c) / 10=v by omega,show(10 * v+dv c) % 10=dv c by omega,xH hc]
theorem vY{c:UInt8}(hc:cn c=true):dec (dv c)=[c]:=by rw[kK (F6 hc),xH hc]
theorem wC:∀(e:Bytes) (b:Nat),b<=e.foldl (fun(a:Nat) (c:UInt8)=>10 * a+(c.toNat-48)) b
 |[],b=>Nat.le_refl b
 |c::e,b=>Nat.le_trans (by omega) (wC e (10 * b+(c.toNat-48)))
theorem qR(d e:Bytes):valueOf d<=valueOf (d++e):=by
 unfold valueOf;rw[List.foldl_append];exact wC e _
def Rg(lo hi:Nat):Prop:=(lo,hi)∈[(0,79),(0,11),(1,80),(0,131),(2,20)]
noncomputable def cbF:Nat->Nat->Nat->Nat->Nat->Bool
 |0,_,_,_,_=>false
 |f+1,a,b,lo,hi=>if a<=hi then(if lo<=b then true else cbF f (a * 10) (b * 10+9) lo hi) else false
def cN(v lo hi:Nat):Bool:=if v=0 then lo==0 else cbF 4 v v lo hi
noncomputable def jc(d:Bytes)(lo hi:Nat):Bool:=(List.range (hi+1)).any fun(n:Nat)=>decide (lo<=n)&&d.isPrefixOf (dec n)
set_option maxRecDepth 100000 in
theorem IS:∀v,v<132->∀p∈[(0,79),(0,11),(1,80),(0,131),(2,20)],cN v p.1 p.2=jc (dec v) p.1 p.2:=by decide +kernel
theorem lG{d e:Bytes}(h:d.isPrefixOf e=true):d=e.take d.length:=by
 obtain⟨t,rfl⟩:=List.isPrefixOf_iff_prefix.mp h;simp
theorem ve{d e:Bytes}(h:d.isPrefixOf e=true):valueOf d<=valueOf e:=by
 obtain⟨t,rfl⟩:=List.isPrefixOf_iff_prefix.mp h;exact qR d t
theorem ko{v lo hi:Nat}(h:Rg lo hi):cN v lo hi=jc (dec v) lo hi:=by
 by_cases hv:v<132
 ·exact IS v hv (lo,hi) h
 ·have hh:hi<v:=by
   unfold Rg at h;simp at h;omega
  have e1:cN v lo hi=false:=by
   unfold cN cbF;rw[if_neg (by omega),if_neg (by omega)]
  rw[e1]
  symm
  unfold jc;rw[List.any_eq_false];intro n hn;have hn:=List.mem_range.mp hn;intro q;rw[Bool.and_eq_true] at q;have z:=ve q.2;rw[aV,aV] at z;omega
set_option maxRecDepth 100000 in
theorem Jg:∀n,n<132->∀k,k<4->k≠0->dec (valueOf ((dec n).take k))=(dec n).take k:=by decide +kernel
theorem J3:∀n,n<132->(dec n).length<=3:=by decide +kernel
theorem Rg.hi{lo hi:Nat}(h:Rg lo hi):hi<132:=by
 unfold Rg at h;simp at h;omega
theorem gV{d:Bytes}{lo hi:Nat}:jc d lo hi=true↔∃n,lo<=n/\n<=hi/\d.isPrefixOf (dec n)=true:=by
 unfold jc;rw[List.any_eq_true];constructor
 ·rintro⟨n,h1,h2⟩;rw[Bool.and_eq_true,decide_eq_true_eq] at h2;exact⟨n,h2.1,by have:=List.mem_range.mp h1;omega,h2.2⟩
 ·rintro⟨n,h1,h2,h3⟩;exact⟨n,List.mem_range.mpr (by omega),by rw[Bool.and_eq_true,decide_eq_true_eq];exact⟨h1,h3⟩⟩
theorem rJ{d:Bytes}{lo hi:Nat}(h:Rg lo hi)(g:jc d lo hi=true):d.length<=3:=by
 obtain⟨n,_,h2,h3⟩:=gV.mp g;have:=h.hi;have z:=J3 n (by omega)
 have e:=lG h3;have:=congrArg List.length e;rw[List.length_take] at this;omega
theorem rM{d:Bytes}{lo hi:Nat}(h:Rg lo hi)(g:jc d lo hi=true)(hd:d≠[]):dec (valueOf d)=d:=by
 obtain⟨n,_,h2,h3⟩:=gV.mp g;have:=h.hi;have l:=rJ h g;have e:=lG h3;have q:=Jg n (by omega) d.length (by omega) (by
  intro z;exact hd (List.length_eq_zero_iff.mp z))
 rw[<-e] at q;exact q
theorem fV{d:Bytes}{lo hi:Nat}(h:Rg lo hi):numberBegins lo hi d=(d==[] || jc d lo hi):=by
 unfold numberBegins;cases e:jc d lo hi with
 |true=>
  have:=rJ h e;unfold jc at e;rw[e,decide_eq_true (show d.length<=6 by omega)]
  rfl
 |false=>
  unfold jc at e;rw[e,Bool.and_false]
theorem sf{d:Bytes}{c:UInt8}{lo hi:Nat}(h:Rg lo hi)(g:numberBegins lo hi d=true) :
  numberBegins lo hi (d++[c])=(cn c&&!(decide (d≠[])&&decide (valueOf d=0))&&cN (10 * valueOf d+dv c) lo hi):=by
 rw[fV h] at g ⊢;have e0:(d++[c]==[])=false:=by
  cases d<;>rfl
 rw[e0,Bool.false_or];by_cases hc:cn c=true
 ·rw[hc,Bool.true_and];by_cases hd:d=[]
  ·subst hd;rw[ko h];show jc [c] lo hi=(!(decide (([]:Bytes)≠[])&&_)&&jc (dec (10 * 0+dv c)) lo hi);rw[show 10 * 0+dv c=dv c by omega,vY hc]
   simp
  ·have gd:jc d lo hi=true:=by
    have:(d==[])=false:=by
     cases d with
     |nil=>exact absurd rfl hd
     |cons _ _=>rfl
    rw[this,Bool.false_or] at g;exact g
   have ed:=rM h gd hd;by_cases hv:valueOf d=0
   ·rw[hv,decide_eq_true hd];show _=false;cases e:jc (d++[c]) lo hi with
    |false=>rfl
    |true=>
     exfalso
     have z:=rM h e (by cases d<;>simp)
     rw[fz,hv,show 10 * 0+dv c=dv c by omega,vY hc] at z
     have:=congrArg List.length z;simp at this;exact hd this
   ·rw[decide_eq_false hv,Bool.and_false];rw[ko h,Bc hv hc,ed];rfl
 ·have hc':cn c=false:=by simpa using hc
  rw[hc',Bool.false_and,Bool.false_and];cases e:jc (d++[c]) lo hi with
  |false=>rfl
  |true=>
   exfalso
   obtain⟨n,_,_,h3⟩:=gV.mp e;obtain⟨t,et⟩:=List.isPrefixOf_iff_prefix.mp h3;exact hc (jC n c (by rw[<-et];simp))
def eC(lo hi:Nat):Nat->Bool->Bytes->Nat
 |_,_,[]=>0
 |v,st,c::r=>if cn c=true/\¬(st=true/\v=0)/\cN (10 * v+dv c) lo hi=true then eC lo hi (10 * v+dv c) true r+1 else 0
theorem oQ(lo hi:Nat):∀(L:Bytes) (v:Nat) (st:Bool),eC lo hi v st L<=L.length
 |[],v,st=>Nat.le_refl _
 |c::r,v,st=>by
  unfold eC;split
  ·have:=oQ lo hi r (10 * v+dv c) true;rw[List.length_cons];omega
  ·exact Nat.zero_le _
theorem jh{lo hi:Nat}(h:Rg lo hi):∀(r d:Bytes),numberBegins lo hi d=true->∀k,k<=r.length->
  (numberBegins lo hi (d++r.take k)=true↔k<=eC lo hi (valueOf d) (decide (d≠[])) r)
 |[],d,g,k,hk=>by
  have:k=0:=by simpa using hk
  subst this;simp[g]
 |c::r,d,g,0,hk=>by simp[g]
 |c::r,d,g,k+1,hk=>by
  have s:=sf (c:=c) h g;have e:d++(c::r).take (k+1)=(d++[c])++r.take k:=by simp
  rw[e];unfold eC;by_cases q:cn c=true/\¬(decide (d≠[])=true/\valueOf d=0)/\cN (10 * valueOf d+dv c) lo hi=true
  ·rw[if_pos q];have gc:numberBegins lo hi (d++[c])=true:=by
    rw[s,q.1,q.2.2];simp only[Bool.true_and,Bool.and_true];have q2:=q.2.1;simp only[decide_eq_true_eq] at q2;simp only[Bool.not_eq_true',Bool.and_eq_false_iff,decide_eq_false_iff_not];by_cases hd:d=[]
    ·exact .inl (by simpa using hd)
    ·exact .inr fun z=>q2 ⟨hd,z⟩
   have ih:=jh h r (d++[c]) gc k (by simpa using hk)
   rw[fz,show decide (d++[c]≠[])=true by simp] at ih
   rw[ih];omega
  ·rw[if_neg q];constructor
   ·intro z
    exfalso
    have gc:numberBegins lo hi (d++[c])=true:=by
     rw[fV h] at z ⊢;rw[Bool.or_eq_true] at z ⊢;rcases z with z | z
     ·exfalso
      have:=eq_of_beq z;simp at this
     ·refine .inr ?_;obtain⟨n,h1,h2,h3⟩:=gV.mp z;refine gV.mpr ⟨n,h1,h2,?_⟩;obtain⟨t,et⟩:=List.isPrefixOf_iff_prefix.mp h3;exact List.isPrefixOf_iff_prefix.mpr ⟨r.take k++t,by rw[<-et];simp⟩
    rw[s] at gc;simp only[Bool.and_eq_true,Bool.not_eq_true',Bool.and_eq_false_iff,decide_eq_false_iff_not] at gc;refine q ⟨gc.1.1,?_,gc.2⟩;rintro⟨a,b⟩;rcases gc.1.2 with z | z
    ·exact z (of_decide_eq_true a)
    ·exact z b
   ·intro z;omega
def bq(lo hi:Nat)(L:Bytes):Nat:=eC lo hi 0 false L
theorem eJ(lo hi:Nat)(L:Bytes):bq lo hi L<=L.length:=oQ lo hi L 0 false
theorem fc{lo hi:Nat}(h:Rg lo hi)(L:Bytes){k:Nat}(hk:k<=L.length):numberBegins lo hi (L.take k)=true↔k<=bq lo hi L:=by
 have e:=jh h L [] (by rfl) k hk
 exact e
theorem gq{lo hi:Nat}:∀(L:Bytes) (v:Nat) (st:Bool) (i:Nat),i<eC lo hi v st L->∃c,L[i]?=some c/\cn c=true
 |[],v,st,i,hi'=>by simp[eC] at hi'
 |c::r,v,st,i,hi'=>by
  unfold eC at hi';split at hi'
  ·rename_i q
   match i with
   |0=>exact⟨c,rfl,q.1⟩
   |i+1=>exact gq (lo:=lo) (hi:=hi) r (10 * v+dv c) true i (by omega)
  ·omega
theorem sC{lo hi:Nat}(h:Rg lo hi)(L:Bytes){k:Nat}(hk:k<=bq lo hi L)(h0:k≠0):dec (valueOf (L.take k))=L.take k:=by
 have hl:=eJ lo hi L;have g:=(fc h L (Nat.le_trans hk hl)).mpr hk;rw[fV h,Bool.or_eq_true] at g;have ne:L.take k≠[]:=by
  intro z;have:=congrArg List.length z;rw[List.length_take,List.length_nil] at this;omega
 rcases g with g | g
 ·exact absurd (eq_of_beq g) ne
 ·exact rM h g ne
theorem nA{lo hi:Nat}(h:Rg lo hi)(L:Bytes):bq lo hi L<=3:=by
 by_cases z:bq lo hi L=0
 ·omega
 ·have g:=(fc h L (eJ lo hi L)).mpr (Nat.le_refl _);have hl:=eJ lo hi L;rw[fV h,Bool.or_eq_true] at g;rcases g with g | g
  ·have:=congrArg List.length (eq_of_beq g);rw[List.length_take,List.length_nil] at this;omega
  ·have:=rJ h g;rw[List.length_take] at this;omega
theorem zg{lo hi:Nat}(h:Rg lo hi)(L:Bytes){k:Nat}(hk:k<=L.length)(hp:bq lo hi L<=k):bq lo hi (L.take k)=bq lo hi L:=by
 have l1:=eJ lo hi (L.take k);have len:(L.take k).length=k:=by rw[List.length_take];omega
 have a:bq lo hi (L.take k)<=bq lo hi L:=by
  have:=(fc h (L.take k) l1).mpr (Nat.le_refl _);rw[List.take_take,show min (bq lo hi (L.take k)) k=bq lo hi (L.take k) by omega] at this
  exact(fc h L (by omega)).mp this
 have b:bq lo hi L<=bq lo hi (L.take k):=by
  have:=(fc h L (eJ lo hi L)).mpr (Nat.le_refl _);refine(fc h (L.take k) (by omega)).mp ?_
  rw[List.take_take,show min (bq lo hi L) k=bq lo hi L by omega]
  exact this
 omega
noncomputable def dN(lo hi v:Nat):Bool:=decide (lo<=v)&&decide (v<=hi)
theorem lA{lo hi:Nat}(h:Rg lo hi)(L:Bytes)(F:Bytes->Bool)(hF:∀c r,cn c=true->F (c::r)=false) :
  ((numbersIn lo hi L).any F)=(decide (bq lo hi L≠0)&&dN lo hi (valueOf (L.take (bq lo hi L)))&&F (L.drop (bq lo hi L))):=by
 have hl:=eJ lo hi L;have h3:=nA h L;apply Bool.eq_iff_iff.mpr;constructor
 ·intro q;obtain⟨r,hr,hFr⟩:=List.any_eq_true.mp q;obtain⟨i,hi',he⟩:=List.mem_filterMap.mp hr;have hi1:=List.mem_range.mp hi';dsimp only at he;split at he
  ·rename_i c
   obtain⟨c1,c2,c3,c4⟩:=c;cases he;have hle:i+1<=L.length:=by omega
   have vEq:(List.foldl (fun(a:Nat) (c:UInt8)=>10 * a+(c.toNat-48)) 0 (L.take (i+1)))=valueOf (L.take (i+1)):=rfl
   rw[vEq] at c2 c3 c4;have g:numberBegins lo hi (L.take (i+1))=true:=by
    rw[fV h,Bool.or_eq_true];refine .inr (gV.mpr ⟨valueOf (L.take (i+1)),c3,c4,?_⟩);rw[c2];exact List.isPrefixOf_iff_prefix.mpr (List.prefix_refl _)
   have hp:=(fc h L hle).mp g;by_cases lt:i+1<bq lo hi L
   ·exfalso
    obtain⟨c,hc,hdc⟩:=gq L 0 false (i+1) lt;obtain⟨hlt,ec⟩:=List.getElem?_eq_some_iff.mp hc;rw[List.drop_eq_getElem_cons hlt,ec,hF c _ hdc] at hFr;cases hFr
   ·have e:bq lo hi L=i+1:=by omega
    rw[e];simp only[Bool.and_eq_true,decide_eq_true_eq,dN];exact⟨⟨by omega,c3,c4⟩,hFr⟩
  ·cases he
 ·intro q;simp only[Bool.and_eq_true,decide_eq_true_eq,dN] at q;obtain⟨⟨q1,q2,q3⟩,q4⟩:=q;refine List.any_eq_true.mpr ⟨_,List.mem_filterMap.mpr ⟨bq lo hi L-1,List.mem_range.mpr (by omega),?_⟩,q4⟩
  dsimp only;rw[show bq lo hi L-1+1=bq lo hi L by omega]
  have vEq:(List.foldl (fun(a:Nat) (c:UInt8)=>10 * a+(c.toNat-48)) 0 (L.take (bq lo hi L)))=valueOf (L.take (bq lo hi L)):=rfl
  rw[vEq];have ed:=sC h L (Nat.le_refl _) q1;rw[if_pos];refine⟨?_,ed,q2,q3⟩;rw[List.all_eq_true];intro c hc;have:=jC _ c (by rw[ed];exact hc)
  exact this
noncomputable def lcp:Bytes->Bytes->Nat
 |a::w,c::r=>if a=c then lcp w r+1 else 0
 |_,_=>0
theorem iS:∀(w L:Bytes),lcp w L<=w.length/\lcp w L<=L.length
 |[],_=>⟨Nat.le_refl _,Nat.zero_le _⟩
 |_::_,[]=>⟨Nat.zero_le _,Nat.le_refl _⟩
 |a::w,c::r=>by
  unfold lcp;have:=iS w r;split<;>simp<;>omega
theorem lY:∀(w L:Bytes) (k:Nat),k<=L.length->((L.take k).isPrefixOf w=true↔k<=lcp w L)
 |w,L,0,_=>by simp
 |[],[],k+1,h=>by simp at h
 |[],c::r,k+1,h=>by simp[lcp,List.isPrefixOf]
 |a::w,[],k+1,h=>by simp at h
 |a::w,c::r,k+1,h=>by
  have ih:=lY w r k (by simpa using h)
  unfold lcp;by_cases e:a=c
  ·subst e;rw[if_pos rfl];simp[List.isPrefixOf,ih]
  ·rw[if_neg e];have e':¬c=a:=fun z=>e z.symm
   simp[List.isPrefixOf,e']
theorem ug{w L:Bytes}(h:w.isPrefixOf L=true):lcp w L=w.length:=by
 obtain⟨t,rfl⟩:=List.isPrefixOf_iff_prefix.mp h
 induction w with
 |nil=>simp[lcp]
 |cons a w ih=>
  show lcp (a::w) (a::(w++t))=_;unfold lcp;rw[if_pos rfl,ih (by simp)]
  rfl
theorem BR{w L:Bytes}(h:w.isPrefixOf L=false):lcp w L<w.length:=by
 have:=(iS w L).1;apply Nat.lt_of_le_of_ne this;intro e;have q:=(lY w L (lcp w L) (iS w L).2).mpr (Nat.le_refl _);have z:=List.isPrefixOf_iff_prefix.mp q;have l1:(L.take (lcp w L)).length=w.length:=by
  rw[List.length_take];have:=(iS w L).2;omega
 have z2:=z.eq_of_length l1;have:w.isPrefixOf L=true:=List.isPrefixOf_iff_prefix.mpr (by rw[<-z2];exact List.take_prefix _ _)
 rw[h] at this;cases this
def run:List Part->Bytes->Nat×Option (List Nat)
 |[],_=>(0,some [])
 |.word w::l,L=>if w.isPrefixOf L=true then((run l (L.drop w.length)).1+w.length,(run l (L.drop w.length)).2) else(lcp w L,none)
 |.num lo hi::l,L=>if(decide (bq lo hi L≠0)&&dN lo hi (valueOf (L.take (bq lo hi L))))=true then
   ((run l (L.drop (bq lo hi L))).1+bq lo hi L,(run l (L.drop (bq lo hi L))).2.map (valueOf (L.take (bq lo hi L))::·)) else(bq lo hi L,none)
 |.tray::_,_=>(0,none)
def wf:List Part->Bool
 |[]=>true
 |.word _::l=>wf l
 |.num lo hi::l=>decide ((lo,hi)∈[(0,79),(0,11),(1,80),(0,131),(2,20)])&&(match l with
  |.word (c::_)::_=>!cn c
  |_=>false)&&wf l
 |.tray::_=>false
theorem js{lo hi:Nat}{l:List Part}(h:wf (.num lo hi::l)=true):Rg lo hi/\wf l=true/\∃c w l',l=.word (c::w)::l'/\cn c=false:=by
 unfold wf at h;rw[Bool.and_eq_true,Bool.and_eq_true] at h;refine⟨by unfold Rg;exact of_decide_eq_true h.1.1,h.2,?_⟩
 have h2:=h.1.2;split at h2
 ·rename_i c w l'
  exact⟨c,w,l',rfl,by simpa using h2⟩
 ·cases h2
theorem zK{c:UInt8}{w:Bytes}{l:List Part}(hc:cn c=false)(d:UInt8)(r:Bytes)(hd:cn d=true):isBy (.word (c::w)::l) (d::r)=false:=by
 have ne:¬c=d:=fun z=>by rw[z,hd] at hc;cases hc
 unfold isBy behind;have:(c::w).isPrefixOf (d::r)=false:=by simp[List.isPrefixOf,ne]
 dsimp only;rw[this];rfl
theorem qp{c:UInt8}{w:Bytes}{l:List Part}(hc:cn c=false)(d:UInt8)(r:Bytes)(hd:cn d=true):beginsBy (.word (c::w)::l) (d::r)=false:=by
 have ne:¬c=d:=fun z=>by rw[z,hd] at hc;cases hc
 have ne':¬d=c:=fun z=>ne z.symm
 unfold beginsBy behind beginsPart;have e1:(c::w).isPrefixOf (d::r)=false:=by simp[List.isPrefixOf,ne]
 have e2:(d::r).isPrefixOf (c::w)=false:=by simp[List.isPrefixOf,ne']
 dsimp only;rw[e1,e2];rfl
theorem uK:∀(f:List Part) (L:Bytes),(run f L).1<=L.length
 |[],L=>Nat.zero_le _
 |.word w::l,L=>by
  unfold run;split
  ·rename_i h
   have ih:=uK l (L.drop w.length);have:=(List.isPrefixOf_iff_prefix.mp h).length_le;rw[List.length_drop] at ih;dsimp only;omega
  ·exact(iS w L).2
 |.num lo hi::l,L=>by
  unfold run;have hl:=eJ lo hi L;split
  ·have ih:=uK l (L.drop (bq lo hi L));rw[List.length_drop] at ih;dsimp only;omega
  ·exact hl
 |.tray::_,L=>Nat.zero_le _
theorem fZ:∀(f:List Part),wf f=true->∀(L:Bytes) (k:Nat),k<=L.length->(beginsBy f (L.take k)=true↔k<=(run f L).1)
 |[],_,L,k,hk=>by
  unfold run beginsBy;constructor
  ·intro q;have:=congrArg List.length (eq_of_beq q);rw[List.length_take,List.length_nil] at this;dsimp only;omega
  ·intro q;have:k=0:=by dsimp only at q;omega
   subst this;rfl
 |.word w::l,h,L,k,hk=>by
  have h':wf l=true:=h;unfold beginsBy beginsPart behind;dsimp only;rw[Bool.or_eq_true,lY w L k hk];unfold run;have ll:=iS w L;by_cases hp:w.isPrefixOf L=true
  ·rw[if_pos hp];dsimp only;rw[ug hp];have hw:=(List.isPrefixOf_iff_prefix.mp hp).length_le;have ih:=fZ l h' (L.drop w.length) (k-w.length) (by rw[List.length_drop];omega)
   by_cases hk2:k<=w.length
   ·simp only[hk2,true_or,true_iff];omega
   ·have hp2:w.isPrefixOf (L.take k)=true:=by
     obtain⟨t,rfl⟩:=List.isPrefixOf_iff_prefix.mp hp;rw[List.isPrefixOf_iff_prefix];rw[List.take_append,List.take_of_length_le (by omega)]
     exact List.prefix_append _ _
    rw[if_pos hp2];simp only[List.any_cons,List.any_nil,Bool.or_false,hk2,false_or];rw[List.drop_take,ih];omega
  ·rw[if_neg hp];dsimp only;have hp2:¬w.isPrefixOf (L.take k)=true:=by
    intro q;apply hp;exact List.isPrefixOf_iff_prefix.mpr (List.IsPrefix.trans (List.isPrefixOf_iff_prefix.mp q) (List.take_prefix _ _))
   rw[if_neg hp2];simp
 |.num lo hi::l,h,L,k,hk=>by
  obtain⟨rg,h',c,w,l',el,hc⟩:=js h;unfold beginsBy beginsPart behind;dsimp only;rw[Bool.or_eq_true,fc rg L hk];have hl:=eJ lo hi L;have hF:∀d r,cn d=true->beginsBy l (d::r)=false:=fun d r hd=>by rw[el];exact qp hc d r hd
  unfold run;by_cases hk2:k<=bq lo hi L
  ·simp only[hk2,true_or,true_iff];split<;>dsimp only<;>omega
  ·simp only[hk2,false_or];rw[lA rg (L.take k) _ hF,zg rg L hk (by omega),List.take_take,show min (bq lo hi L) k=bq lo hi L by omega,List.drop_take]
   have ih:=fZ l h' (L.drop (bq lo hi L)) (k-bq lo hi L) (by rw[List.length_drop];omega)
   by_cases q:(decide (bq lo hi L≠0)&&dN lo hi (valueOf (L.take (bq lo hi L))))=true
   ·rw[if_pos q,q,Bool.true_and,ih];dsimp only;omega
   ·rw[if_neg q];rw[show(decide (bq lo hi L≠0)&&dN lo hi (valueOf (L.take (bq lo hi L))))=false by simpa using q,Bool.false_and]
    dsimp only;simp;omega
 |.tray::_,h,L,k,hk=>by cases h
theorem ku:∀(f:List Part),wf f=true->∀(L:Bytes),(isBy f L=true↔(run f L).2.isSome=true/\(run f L).1=L.length)
 |[],_,L=>by
  unfold run isBy;dsimp only;constructor
  ·intro q;rw[eq_of_beq q];exact⟨rfl,rfl⟩
  ·rintro⟨_,q⟩;rw[List.length_eq_zero_iff.mp q.symm];rfl
 |.word w::l,h,L=>by
  have h':wf l=true:=h;unfold isBy behind run;by_cases hp:w.isPrefixOf L=true
  ·dsimp only;rw[if_pos hp,if_pos hp];have hw:=(List.isPrefixOf_iff_prefix.mp hp).length_le;have ih:=ku l h' (L.drop w.length);simp only[List.any_cons,List.any_nil,Bool.or_false];rw[ih,List.length_drop];constructor
   ·rintro⟨a,b⟩;exact⟨a,by omega⟩
   ·rintro⟨a,b⟩;exact⟨a,by omega⟩
  ·dsimp only;rw[if_neg hp,if_neg hp];simp
 |.num lo hi::l,h,L=>by
  obtain⟨rg,h',c,w,l',el,hc⟩:=js h;have hl:=eJ lo hi L;have hF:∀d r,cn d=true->isBy l (d::r)=false:=fun d r hd=>by rw[el];exact zK hc d r hd
  unfold isBy behind run;dsimp only;rw[lA rg L _ hF];have ih:=ku l h' (L.drop (bq lo hi L));by_cases q:(decide (bq lo hi L≠0)&&dN lo hi (valueOf (L.take (bq lo hi L))))=true
  ·rw[if_pos q,q,Bool.true_and,ih,List.length_drop,Option.isSome_map];dsimp only;constructor
   ·rintro⟨a,b⟩;exact⟨a,by omega⟩
   ·rintro⟨a,b⟩;exact⟨a,by omega⟩
  ·rw[if_neg q];rw[show(decide (bq lo hi L≠0)&&dN lo hi (valueOf (L.take (bq lo hi L))))=false by simpa using q,Bool.false_and]
   simp
 |.tray::_,h,L=>by cases h
theorem dC:∀f∈reportForms,wf f=true:=by decide +kernel
noncomputable def pw:List Part->Nat
 |[]=>0
 |.word w::l=>w.length+pw l
 |.num _ _::l=>3+pw l
 |.tray::_=>0
theorem yn:∀f∈reportForms,pw f<=80:=by decide +kernel
theorem uV:∀(f:List Part),wf f=true->∀L,(run f L).1<=pw f
 |[],_,L=>Nat.zero_le _
 |.word w::l,h,L=>by
  unfold run pw;split
  ·have:=uV l h (L.drop w.length);dsimp only;omega
  ·have:=(iS w L).1;dsimp only;omega
 |.num lo hi::l,h,L=>by
  obtain⟨rg,h',_⟩:=js h;have:=nA rg L;have:=uV l h' (L.drop (bq lo hi L));unfold run pw;split<;>dsimp only<;>omega
 |.tray::_,h,L=>by cases h
abbrev Rd:=Nat×Option (Nat×List Nat)
noncomputable def eY(b q:Rd):Rd:=if b.1<q.1 then q else b
noncomputable def b7(i:Nat):List Part:=reportForms.getD i []
def fj(i:Nat)(L:Bytes):Rd:=((run (b7 i) L).1,(run (b7 i) L).2.map fun vs=>(i,vs))
def eW(L:Bytes):Nat->Rd
 |0=>(0,none)
 |n+1=>eY (eW L n) (fj n L)
def aW(L:Bytes):Rd:=eW L 10
theorem pN:reportForms.length=10:=by decide +kernel
theorem d8{i:Nat}(h:i<10):b7 i∈reportForms:=by
 unfold b7;rw[List.getD_eq_getElem?_getD,List.getElem?_eq_getElem (by rw[pN];exact h)]
 exact List.getElem_mem _
theorem nM{f:List Part}(h:f∈reportForms):∃i,i<10/\b7 i=f:=by
 obtain⟨i,hi,e⟩:=List.mem_iff_getElem.mp h;refine⟨i,by rw[pN] at hi;exact hi,?_⟩
 unfold b7;rw[List.getD_eq_getElem?_getD,List.getElem?_eq_getElem hi];exact e
theorem qE(L:Bytes):∀n i,i<n->(fj i L).1<=(eW L n).1
 |0,i,h=>by omega
 |n+1,i,h=>by
  show _<=(eY (eW L n) (fj n L)).1;unfold eY;by_cases e:i=n
  ·subst e;split<;>omega
  ·have:=qE L n i (by omega)
   split<;>omega
theorem j8(L:Bytes):∀n,eW L n=(0,none)\/∃i,i<n/\eW L n=fj i L
 |0=>.inl rfl
 |n+1=>by
  show eY (eW L n) (fj n L)=_\/_;unfold eY;split
  ·refine .inr ⟨n,by omega,?_⟩
   show eY (eW L n) (fj n L)=_;unfold eY;rw[if_pos (by assumption)]
  ·rename_i q
   rcases j8 L n with h | ⟨i,hi,h⟩
   ·exact .inl h
   ·refine .inr ⟨i,by omega,?_⟩
    show eY (eW L n) (fj n L)=_;unfold eY;rw[if_neg q];exact h
theorem um{p:Nat->Bool}{M:Nat}:∀n,M<=n->(∀k,k<=n->(p k=true↔k<=M))->(List.range (n+1)).reverse.find? p=some M
 |0,hM,h=>by
  have:M=0:=by omega
  subst this;have:=(h 0 (by omega)).mpr (by omega)
  simp[this]
 |n+1,hM,h=>by
  rw[List.range_succ,List.reverse_append];show((n+1)::(List.range (n+1)).reverse).find? p=_;rw[List.find?_cons];by_cases e:M=n+1
  ·rw[(h (n+1) (by omega)).mpr (by omega),e]
  ·have:p (n+1)=false:=by
    cases q:p (n+1) with
    |false=>rfl
    |true=>
     have:=(h (n+1) (by omega)).mp q
     omega
   rw[this];exact um n (by omega) fun k hk=>h k (by omega)
theorem tZ(L:Bytes):(aW L).1<=min L.length 80:=by
 unfold aW;rcases j8 L 10 with h | ⟨i,hi,h⟩
 ·rw[h];exact Nat.zero_le _
 ·rw[h];have m:=d8 hi;have a:=uK (b7 i) L;have b:=uV _ (dC _ m) L;have c:=yn _ m;show(run (b7 i) L).1<=_;omega
theorem qz(L:Bytes):rightTo reportForms L=(aW L).1:=by
 unfold rightTo;rw[um (M:=(aW L).1) _ (tZ L)]
 ·rfl
 ·intro k hk;have hk':k<=L.length:=by omega
  rw[List.any_eq_true];constructor
  ·rintro⟨f,hf,q⟩;obtain⟨i,hi,rfl⟩:=nM hf;have:=(fZ _ (dC _ hf) L k hk').mp q;exact Nat.le_trans this (qE L 10 i hi)
  ·intro q;rcases j8 L 10 with h | ⟨i,hi,h⟩
   ·have:k=0:=by
     unfold aW at q;rw[h] at q;exact Nat.le_zero.mp q
    subst this;exact⟨b7 0,d8 (by decide),(fZ _ (dC _ (d8 (by decide))) L 0 hk').mpr (Nat.zero_le _)⟩
   ·have m:=d8 hi;refine⟨b7 i,m,(fZ _ (dC _ m) L k hk').mpr ?_⟩;unfold aW at q;rw[h] at q;exact q
noncomputable def fq:List Part->Bool
 |[]=>false
 |[.word w]=>w==[10]
 |.word w::p::l=>!w.contains 10&&fq (p::l)
 |.num _ _::l=>fq l
 |.tray::_=>false
theorem j6:∀f∈reportForms,fq f=true:=by decide +kernel
theorem qI:∀(f:List Part),wf f=true->fq f=true->∀(L:Bytes) (i:Nat),i<(run f L).1->L[i]?=some 10->(run f L).2.isSome=true/\(run f L).1=i+1
 |[],_,h,L,i,hi,e=>by cases h
 |[.word w],hw,h,L,i,hi,e=>by
  have ew:w=[10]:=eq_of_beq h;subst ew;unfold run at hi ⊢;by_cases q:([10]:Bytes).isPrefixOf L=true
  ·rw[if_pos q] at hi ⊢;unfold run at hi ⊢;dsimp only at hi ⊢;have:i=0:=by simp at hi;exact hi
   subst this;exact⟨rfl,rfl⟩
  ·rw[if_neg q] at hi;dsimp only at hi;have:=BR (w:=[10]) (L:=L) ((Bool.not_eq_true _).mp q);simp at this;omega
 |.word w::p::l,hw,h,L,i,hi,e=>by
  have h1:¬10∈w:=by
   unfold fq at h;rw[Bool.and_eq_true] at h;simpa using h.1
  have h2:fq (p::l)=true:=by
   unfold fq at h;rw[Bool.and_eq_true] at h;exact h.2
  have nl:∀j,j<lcp w L->L[j]?≠some 10:=fun j hj e'=>by
   have q:=(lY w L (lcp w L) (iS w L).2).mpr (Nat.le_refl _);obtain⟨t,et⟩:=List.isPrefixOf_iff_prefix.mp q;apply h1;rw[<-et];refine List.mem_append_left _ (List.mem_of_getElem? (i:=j) ?_);rw[List.getElem?_take_of_lt hj];exact e'
  unfold run at hi ⊢;by_cases q:w.isPrefixOf L=true
  ·rw[if_pos q] at hi ⊢;dsimp only at hi ⊢;have ge:w.length<=i:=by
    apply Nat.le_of_not_lt;intro lt;exact nl i (by rw[ug q];exact lt) e
   have ih:=qI (p::l) hw h2 (L.drop w.length) (i-w.length) (by omega) (by rw[List.getElem?_drop,show w.length+(i-w.length)=i by omega];exact e)
   exact⟨ih.1,by omega⟩
  ·rw[if_neg q] at hi;exact absurd e (nl i hi)
 |.num lo hi'::l,hw,h,L,i,hi,e=>by
  obtain⟨rg,hw',c,w,l',el,hc⟩:=js hw;have h2:fq l=true:=h;have nl:∀j,j<bq lo hi' L->L[j]?≠some 10:=fun j hj e'=>by
   obtain⟨c,hc,hd⟩:=gq L 0 false j hj;rw[e'] at hc;cases hc
   revert hd
   decide
  unfold run at hi ⊢;by_cases q:(decide (bq lo hi' L≠0)&&dN lo hi' (valueOf (L.take (bq lo hi' L))))=true
  ·rw[if_pos q] at hi ⊢;dsimp only at hi ⊢;have ge:bq lo hi' L<=i:=Nat.le_of_not_lt fun lt=>nl i lt e
   have ih:=qI l hw' h2 (L.drop (bq lo hi' L)) (i-bq lo hi' L) (by omega) (by rw[List.getElem?_drop,show bq lo hi' L+(i-bq lo hi' L)=i by omega];exact e)
   exact⟨by rw[Option.isSome_map];exact ih.1,by omega⟩
  ·rw[if_neg q] at hi;exact absurd e (nl i hi)
 |.tray::_,_,h,L,i,hi,e=>by cases h
theorem iy:∀(f:List Part),wf f=true->fq f=true->∀(L:Bytes),(run f L).2.isSome=true->(run f L).1≠0/\L[(run f L).1-1]?=some 10
 |[],_,h,L,e=>by cases h
 |[.word w],hw,h,L,e=>by
  have ew:w=[10]:=eq_of_beq h;subst ew;unfold run at e ⊢;by_cases q:([10]:Bytes).isPrefixOf L=true
  ·rw[if_pos q];unfold run;refine⟨by simp,?_⟩
   obtain⟨t,rfl⟩:=List.isPrefixOf_iff_prefix.mp q;rfl
  ·rw[if_neg q] at e;cases e
 |.word w::p::l,hw,h,L,e=>by
  have h2:fq (p::l)=true:=by
   unfold fq at h;rw[Bool.and_eq_true] at h;exact h.2
  rw[run] at e ⊢;by_cases q:w.isPrefixOf L=true
  ·rw[if_pos q] at e ⊢;dsimp only at e ⊢;have ih:=iy (p::l) hw h2 (L.drop w.length) e;refine⟨by omega,?_⟩
   have z:=ih.2;rw[List.getElem?_drop] at z;rw[<-z];congr 1;omega
  ·rw[if_neg q] at e;cases e
 |.num lo hi'::l,hw,h,L,e=>by
  obtain⟨rg,hw',c,w,l',el,hc⟩:=js hw;have h2:fq l=true:=h;rw[run] at e ⊢;by_cases q:(decide (bq lo hi' L≠0)&&dN lo hi' (valueOf (L.take (bq lo hi' L))))=true
  ·rw[if_pos q] at e ⊢;dsimp only at e ⊢;have ih:=iy l hw' h2 (L.drop (bq lo hi' L)) (by rw[Option.isSome_map] at e;exact e)
   refine⟨by omega,?_⟩
   have z:=ih.2;rw[List.getElem?_drop] at z;rw[<-z];congr 1;omega
  ·rw[if_neg q] at e;cases e
 |.tray::_,_,h,L,e=>by cases h
def lH(L:Bytes):Prop:=L≠[]/\∀i,L[i]?=some 10->i+1=L.length
theorem iG{L:Bytes}(P:lH L){f:List Part}(hf:f∈reportForms):isBy f L=(run f L).2.isSome:=by
 apply Bool.eq_iff_iff.mpr;rw[ku f (dC f hf) L];constructor
 ·exact fun q=>q.1
 ·intro q;obtain⟨a,b⟩:=iy f (dC f hf) (j6 f hf) L q;have:=P.2 _ b;exact⟨q,by omega⟩
theorem vQ{L:Bytes}(P:lH L){f g:List Part}(hf:f∈reportForms)(hg:g∈reportForms)(w:(run g L).2.isSome=true)(le:(run g L).1<=(run f L).1):(run f L).2.isSome=true:=by
 obtain⟨a,b⟩:=iy g (dC g hg) (j6 g hg) L w;exact(qI f (dC f hf) (j6 f hf) L _ (by omega) b).1
theorem jk{L:Bytes}(P:lH L):(aW L).2=none↔(reportForms.any fun f=>isBy f L)=false:=by
 constructor
 ·intro q;rw[List.any_eq_false];intro g hg w;rw[iG P hg] at w;obtain⟨j,hj,rfl⟩:=nM hg;have ge:=qE L 10 j hj;have nz:=(iy _ (dC _ hg) (j6 _ hg) L w).1;unfold aW at q;rcases j8 L 10 with h | ⟨i,hi,h⟩
  ·rw[h] at ge;exact nz (Nat.le_zero.mp ge)
  ·rw[h] at ge q;have full:=vQ P (d8 hi) hg w ge;have q':((run (b7 i) L).2.map fun vs=>(i,vs))=none:=q
   cases e:(run (b7 i) L).2 with
   |none=>rw[e] at full;cases full
   |some vs=>rw[e] at q';cases q'
 ·intro q;rw[List.any_eq_false] at q;unfold aW;rcases j8 L 10 with h | ⟨i,hi,h⟩
  ·rw[h]
  ·rw[h];have z:=q _ (d8 hi);rw[iG P (d8 hi)] at z;show((run (b7 i) L).2.map fun vs=>(i,vs))=none
   cases e:(run (b7 i) L).2 with
   |none=>rfl
   |some vs=>rw[e] at z;exact absurd rfl z
theorem oK{L:Bytes}{i:Nat}{vs:List Nat}(h:(aW L).2=some (i,vs)):i<10/\(run (b7 i) L).2=some vs/\(aW L).1=(run (b7 i) L).1:=by
 unfold aW at h ⊢;rcases j8 L 10 with q | ⟨j,hj,q⟩
 ·rw[q] at h;cases h
 ·rw[q] at h ⊢;have h':((run (b7 j) L).2.map fun vs=>(j,vs))=some (i,vs):=h
  cases e:(run (b7 j) L).2 with
  |none=>rw[e] at h';cases h'
  |some us=>
   rw[e] at h';have:=Option.some.inj h';cases this;exact⟨hj,e,rfl⟩
noncomputable def eX:List Part->List Nat->Bytes
 |.word w::l,vs=>w++eX l vs
 |.num _ _::l,v::vs=>dec v++eX l vs
 |_,_=>[]
def jV:List Part->List Nat->Bool
 |[],[]=>true
 |.word _::l,vs=>jV l vs
 |.num lo hi::l,v::vs=>dN lo hi v&&jV l vs
 |_,_=>false
theorem jq:∀(f:List Part),wf f=true->∀(L:Bytes) (vs:List Nat),(run f L).2=some vs->L.take (run f L).1=eX f vs/\jV f vs=true
 |[],_,L,vs,e=>by
  unfold run at e ⊢;cases e;exact⟨rfl,rfl⟩
 |.word w::l,h,L,vs,e=>by
  rw[run] at e ⊢;by_cases q:w.isPrefixOf L=true
  ·rw[if_pos q] at e ⊢;dsimp only at e ⊢;obtain⟨a,b⟩:=jq l h (L.drop w.length) vs e;refine⟨?_,b⟩;rw[eX,<-a];obtain⟨t,rfl⟩:=List.isPrefixOf_iff_prefix.mp q;rw[List.drop_left,Nat.add_comm,List.take_length_add_append]
  ·rw[if_neg q] at e;cases e
 |.num lo hi::l,h,L,vs,e=>by
  obtain⟨rg,h',_⟩:=js h;rw[run] at e ⊢;by_cases q:(decide (bq lo hi L≠0)&&dN lo hi (valueOf (L.take (bq lo hi L))))=true
  ·rw[if_pos q] at e ⊢;dsimp only at e ⊢;rw[Bool.and_eq_true,decide_eq_true_eq] at q;cases er:(run l (L.drop (bq lo hi L))).2 with
   |none=>rw[er] at e;cases e
   |some us=>
    rw[er] at e;have e':=Option.some.inj e;subst e';obtain⟨a,b⟩:=jq l h' (L.drop (bq lo hi L)) us er;refine⟨?_,?_⟩
    ·rw[eX,<-a,sC rg L (Nat.le_refl _) q.1,Nat.add_comm,List.take_add]
    ·rw[jV,Bool.and_eq_true];exact⟨q.2,b⟩
  ·rw[if_neg q] at e;cases e
 |.tray::_,h,L,vs,e=>by cases h
def plain(w:Bytes):Prop:=∀c∈w,c≠32/\c≠10
theorem kX:∀(w:Bytes) (s:UInt8) (r:Bytes),plain w->(s=32\/s=10)->wordsOf (w++s::r)=w::wordsOf r
 |[],s,r,_,hs=>by
  show wordsOf (s::r)=_;rw[wordsOf,if_pos hs]
 |c::w,s,r,hw,hs=>by
  have hc:=hw c (by simp)
  show wordsOf (c::(w++s::r))=_;rw[wordsOf,if_neg (by
   rintro(z | z)
   ·exact hc.1 z
   ·exact hc.2 z),kX w s r (fun d hd=>hw d (by simp[hd])) hs]
theorem bt(n:Nat):plain (dec n):=fun c hc=>by
 have:=jC n c hc;constructor<;>rintro rfl<;>revert this<;>decide
noncomputable def He(w:Bytes):Bool:=w.all fun c=>decide (c≠32)&&decide (c≠10)
theorem bX{w:Bytes}(h:He w=true):plain w:=fun c hc=>by
 have:=List.all_eq_true.mp h c hc;rw[Bool.and_eq_true,decide_eq_true_eq,decide_eq_true_eq] at this;exact this
theorem nQ:ascii " " = [32]:=by decide +kernel
theorem mI:ascii (String.ofList [Char.ofNat 10])=[10]:=by decide +kernel
noncomputable def mkR(i:Nat)(vs:List Nat):RLine:=
 match i with
 |0=>.where_ ⟨vs.getD 0 0,vs.getD 1 0,true⟩
 |1=>.where_ ⟨vs.getD 0 0,vs.getD 1 0,false⟩
 |2=>.key ⟨vs.getD 0 0,vs.getD 1 0,vs.getD 2 0,true⟩
 |3=>.key ⟨vs.getD 0 0,vs.getD 1 0,vs.getD 2 0,false⟩
 |4=>.total ⟨false,vs.getD 0 0,vs.getD 1 0,vs.getD 2 0,vs.getD 3 0⟩
 |5=>.total ⟨true,0,0,vs.getD 0 0,vs.getD 1 0⟩
 |6=>.seen ⟨vs.getD 0 0,vs.getD 1 0,vs.getD 2 0⟩
 |7=>.list 1
 |8=>.list 2
 |_=>.list 0
def nR:Nat->List Nat->Prop
 |0,vs | 1,vs=>∃c r,vs=[c,r]/\c<=79/\r<=11
 |2,vs | 3,vs | 6,vs=>∃c n p,vs=[c,n,p]/\c<=79/\1<=n/\n<=80/\p<=131
 |4,vs=>∃c n p w,vs=[c,n,p,w]/\c<=79/\1<=n/\n<=80/\p<=131/\2<=w/\w<=20
 |5,vs=>∃p w,vs=[p,w]/\p<=131/\2<=w/\w<=20
 |_,vs=>vs=[]
theorem bQ{lo hi:Nat}{l:List Part}{vs:List Nat}(h:jV (.num lo hi::l) vs=true):∃v us,vs=v::us/\lo<=v/\v<=hi/\jV l us=true:=by
 cases vs with
 |nil=>cases h
 |cons v us=>
  rw[jV,Bool.and_eq_true] at h;unfold dN at h;simp only[Bool.and_eq_true,decide_eq_true_eq] at h;exact⟨v,us,rfl,h.1.1,h.1.2,h.2⟩
theorem ao{w:Bytes}{l:List Part}{vs:List Nat}(h:jV (.word w::l) vs=true):jV l vs=true:=h
theorem dQ{vs:List Nat}(h:jV [] vs=true):vs=[]:=by
 cases vs with
 |nil=>rfl
 |cons _ _=>cases h
theorem hJ(b:Bool):b7 (if b=true then 0 else 1)=[word_ "where",word_ " ",.num 0 79,word_ " ",.num 0 11,word_ " ",word_ (if b=true then "yes" else "no"),word_ (String.ofList [Char.ofNat 10])]:=by
 cases b<;>rfl
theorem jI(b:Bool):b7 (if b=true then 2 else 3)=[word_ "key",word_ " ",.num 0 79,word_ " ",.num 1 80,word_ " ",word_ "at",word_ " ",.num 0 131,word_ " ",word_ "by",word_ " ",word_ (if b=true then "holes" else "top"),word_ (String.ofList [Char.ofNat 10])]:=by
 cases b<;>rfl
theorem tI:b7 4=[word_ "sum",word_ " ",.num 0 79,word_ " ",.num 1 80,word_ " ",word_ "at",word_ " ",.num 0 131,word_ " ",.num 2 20,word_ (String.ofList [Char.ofNat 10])]:=rfl
theorem nh:b7 5=[word_ "count",word_ " ",word_ "at",word_ " ",.num 0 131,word_ " ",.num 2 20,word_ (String.ofList [Char.ofNat 10])]:=rfl
theorem tQ:b7 6=[word_ "see",word_ " ",.num 0 79,word_ " ",.num 1 80,word_ " ",word_ "at",word_ " ",.num 0 131,word_ (String.ofList [Char.ofNat 10])]:=rfl
theorem yl{i:Nat}{vs:List Nat}(hi:i<10)(h:jV (b7 i) vs=true):nR i vs:=by
 match i,hi with
 |0,_=>
  rw[show b7 0=_ from hJ true] at h
  obtain⟨c,us,rfl,_,h1,h⟩:=bQ (ao (ao h));obtain⟨r,us,rfl,_,h2,h⟩:=bQ (ao h);cases dQ (ao (ao (ao h)));exact⟨c,r,rfl,h1,h2⟩
 |1,_=>
  rw[show b7 1=_ from hJ false] at h
  obtain⟨c,us,rfl,_,h1,h⟩:=bQ (ao (ao h));obtain⟨r,us,rfl,_,h2,h⟩:=bQ (ao h);cases dQ (ao (ao (ao h)));exact⟨c,r,rfl,h1,h2⟩
 |2,_=>
  rw[show b7 2=_ from jI true] at h
  obtain⟨c,us,rfl,_,h1,h⟩:=bQ (ao (ao h));obtain⟨n,us,rfl,h2,h3,h⟩:=bQ (ao h);obtain⟨p,us,rfl,_,h4,h⟩:=bQ (ao (ao (ao h)));cases dQ (ao (ao (ao (ao (ao h)))));exact⟨c,n,p,rfl,h1,h2,h3,h4⟩
 |3,_=>
  rw[show b7 3=_ from jI false] at h
  obtain⟨c,us,rfl,_,h1,h⟩:=bQ (ao (ao h));obtain⟨n,us,rfl,h2,h3,h⟩:=bQ (ao h);obtain⟨p,us,rfl,_,h4,h⟩:=bQ (ao (ao (ao h)));cases dQ (ao (ao (ao (ao (ao h)))));exact⟨c,n,p,rfl,h1,h2,h3,h4⟩
 |4,_=>
  rw[tI] at h;obtain⟨c,us,rfl,_,h1,h⟩:=bQ (ao (ao h));obtain⟨n,us,rfl,h2,h3,h⟩:=bQ (ao h);obtain⟨p,us,rfl,_,h4,h⟩:=bQ (ao (ao (ao h)));obtain⟨w,us,rfl,h5,h6,h⟩:=bQ (ao h);cases dQ (ao h);exact⟨c,n,p,w,rfl,h1,h2,h3,h4,h5,h6⟩
 |5,_=>
  rw[nh] at h;obtain⟨p,us,rfl,_,h4,h⟩:=bQ (ao (ao (ao (ao h))));obtain⟨w,us,rfl,h5,h6,h⟩:=bQ (ao h);cases dQ (ao h);exact⟨p,w,rfl,h4,h5,h6⟩
 |6,_=>
  rw[tQ] at h;obtain⟨c,us,rfl,_,h1,h⟩:=bQ (ao (ao h));obtain⟨n,us,rfl,h2,h3,h⟩:=bQ (ao h);obtain⟨p,us,rfl,_,h4,h⟩:=bQ (ao (ao (ao h)));cases dQ (ao h);exact⟨c,n,p,rfl,h1,h2,h3,h4⟩
 |7,_=>exact dQ (ao (ao (ao (ao (show jV (b7 7) vs=true from h)))))
 |8,_=>exact dQ (ao (ao (ao (ao (show jV (b7 8) vs=true from h)))))
 |9,_=>exact dQ (ao (ao (ao (ao (show jV (b7 9) vs=true from h)))))
 |i+10,h=>omega
theorem rn{i:Nat}{vs:List Nat}(hi:i<10)(h:nR i vs):rlineOf (eX (b7 i) vs)=mkR i vs:=by
 have cut:∀(w r:Bytes),plain w->wordsOf (w++([32]++r))=w::wordsOf r:=fun w r hw=>kX w 32 r hw (.inl rfl)
 have cute:∀(w r:Bytes),plain w->wordsOf (w++([10]++r))=w::wordsOf r:=fun w r hw=>kX w 10 r hw (.inr rfl)
 have wn:wordsOf []=[]:=rfl
 match i,hi with
 |0,_=>
  obtain⟨c,r,rfl,_,_⟩:=h;rw[show b7 0=_ from hJ true]
  simp only[word_,eX,nQ,mI,if_true];unfold rlineOf;rw[cut _ _ (bX (by decide +kernel)),cut _ _ (bt c),cut _ _ (bt r),cute _ _ (bX (by decide +kernel)),wn]
  dsimp only;rw[if_pos rfl];show RLine.where_ ⟨valueOf (dec c),valueOf (dec r),_⟩=_;rw[aV,aV];rfl
 |1,_=>
  obtain⟨c,r,rfl,_,_⟩:=h;rw[show b7 1=_ from hJ false]
  simp only[word_,eX,nQ,mI];unfold rlineOf;rw[cut _ _ (bX (by decide +kernel)),cut _ _ (bt c),cut _ _ (bt r),cute _ _ (bX (by decide +kernel)),wn]
  dsimp only;rw[if_pos rfl];show RLine.where_ ⟨valueOf (dec c),valueOf (dec r),_⟩=_;rw[aV,aV];rfl
 |2,_=>
  obtain⟨c,n,p,rfl,_⟩:=h;rw[show b7 2=_ from jI true]
  simp only[word_,eX,nQ,mI,if_true];unfold rlineOf;rw[cut _ _ (bX (by decide +kernel)),cut _ _ (bt c),cut _ _ (bt n),cut _ _ (bX (by decide +kernel)),cut _ _ (bt p),cut _ _ (bX (by decide +kernel)),cute _ _ (bX (by decide +kernel)),wn]
  dsimp only;rw[if_neg (by decide +kernel),if_pos rfl]
  show RLine.key ⟨valueOf (dec c),valueOf (dec n),valueOf (dec p),_⟩=_;rw[aV,aV,aV];rfl
 |3,_=>
  obtain⟨c,n,p,rfl,_⟩:=h;rw[show b7 3=_ from jI false]
  simp only[word_,eX,nQ,mI];unfold rlineOf;rw[cut _ _ (bX (by decide +kernel)),cut _ _ (bt c),cut _ _ (bt n),cut _ _ (bX (by decide +kernel)),cut _ _ (bt p),cut _ _ (bX (by decide +kernel)),cute _ _ (bX (by decide +kernel)),wn]
  dsimp only;rw[if_neg (by decide +kernel),if_pos rfl]
  show RLine.key ⟨valueOf (dec c),valueOf (dec n),valueOf (dec p),_⟩=_;rw[aV,aV,aV];rfl
 |4,_=>
  obtain⟨c,n,p,w,rfl,_⟩:=h;rw[tI];simp only[word_,eX,nQ,mI];unfold rlineOf;rw[cut _ _ (bX (by decide +kernel)),cut _ _ (bt c),cut _ _ (bt n),cut _ _ (bX (by decide +kernel)),cut _ _ (bt p),cute _ _ (bt w),wn]
  dsimp only;rw[if_neg (by decide +kernel),if_neg (by decide +kernel),if_pos rfl]
  show RLine.total ⟨false,valueOf (dec c),valueOf (dec n),valueOf (dec p),valueOf (dec w)⟩=_;rw[aV,aV,aV,aV];rfl
 |5,_=>
  obtain⟨p,w,rfl,_⟩:=h;rw[nh];simp only[word_,eX,nQ,mI];unfold rlineOf;rw[cut _ _ (bX (by decide +kernel)),cut _ _ (bX (by decide +kernel)),cut _ _ (bt p),cute _ _ (bt w),wn]
  dsimp only;rw[if_neg (by decide +kernel),if_neg (by decide +kernel),if_neg (by decide +kernel),if_pos rfl]
  show RLine.total ⟨true,0,0,valueOf (dec p),valueOf (dec w)⟩=_;rw[aV,aV];rfl
 |6,_=>
  obtain⟨c,n,p,rfl,_⟩:=h;rw[tQ];simp only[word_,eX,nQ,mI];unfold rlineOf;rw[cut _ _ (bX (by decide +kernel)),cut _ _ (bt c),cut _ _ (bt n),cut _ _ (bX (by decide +kernel)),cute _ _ (bt p),wn]
  dsimp only;rw[if_neg (by decide +kernel),if_neg (by decide +kernel),if_neg (by decide +kernel),if_neg (by decide +kernel),if_pos rfl]
  show RLine.seen ⟨valueOf (dec c),valueOf (dec n),valueOf (dec p)⟩=_;rw[aV,aV,aV];rfl
 |7,_=>
  obtain rfl:vs=[]:=h
  decide +kernel
 |8,_=>
  obtain rfl:vs=[]:=h
  decide +kernel
 |9,_=>
  obtain rfl:vs=[]:=h
  decide +kernel
 |i+10,h=>omega
theorem iz:∀(w r:Bytes),(10:UInt8) ∉ w->pieces (w++10::r)=(w++[10])::pieces r
 |[],r,_=>by
  show pieces (10::r)=_;rw[pieces,if_pos rfl];rfl
 |c::w,r,h=>by
  have hc:¬c=10:=fun z=>h (by rw[z];simp)
  show pieces (c::(w++10::r))=_;rw[pieces,if_neg hc,iz w r (fun z=>h (by simp[z]))]
  rfl
theorem iT:∀(w:Bytes),(10:UInt8) ∉ w->w≠[]->pieces w=[w]
 |[],_,h=>absurd rfl h
 |[c],h,_=>by
  have hc:¬c=10:=fun z=>h (by rw[z];simp)
  rw[pieces,if_neg hc];rfl
 |c::d::w,h,_=>by
  have hc:¬c=10:=fun z=>h (by rw[z];simp)
  rw[pieces,if_neg hc,iT (d::w) (fun z=>h (by simp[z])) (by simp)]
theorem oY:∀{l:Bytes},(10:UInt8)∈l->∃w t,l=w++10::t/\(10:UInt8) ∉ w
 |[],h=>by cases h
 |c::l,h=>by
  by_cases hc:c=10
  ·exact⟨[],l,by rw[hc];rfl,by simp⟩
  ·rcases List.mem_cons.mp h with z | z
   ·exact absurd z.symm hc
   ·obtain⟨w,t,e,hw⟩:=oY z;refine⟨c::w,t,by rw[e];rfl,?_⟩
    intro q;rcases List.mem_cons.mp q with q | q
    ·exact hc q.symm
    ·exact hw q
theorem fQ:∀(n:Nat) (b:Bytes),b.length<=n->∀p∈pieces b,lH p
 |n,[],_,p,hp=>by cases hp
 |0,c::r,h,p,hp=>by simp at h
 |n+1,c::r,h,p,hp=>by
  by_cases hm:(10:UInt8)∈c::r
  ·obtain⟨w,t,e,hw⟩:∃w t,c::r=w++10::t/\(10:UInt8) ∉ w:=oY hm;rw[e,iz w t hw] at hp;rcases List.mem_cons.mp hp with rfl | hp
   ·refine⟨by simp,fun i hi=>?_⟩
    by_cases lt:i<w.length
    ·rw[List.getElem?_append_left lt] at hi;exact absurd (List.mem_of_getElem? hi) hw
    ·have:=(List.getElem?_eq_some_iff.mp hi).1;rw[List.length_append,List.length_singleton] at this ⊢;omega
   ·have hl:=congrArg List.length e;simp at hl h;exact fQ n t (by omega) p hp
  ·rw[iT _ hm (by simp)] at hp
   rcases List.mem_singleton.mp hp with rfl
   refine⟨by simp,fun i hi=>absurd (List.mem_of_getElem? hi) hm⟩
abbrev Pt:=Nat×List Nat
def aw:List Bytes->List Pt
 |[]=>[]
 |L::r=>match(aW L).2 with
  |none=>[]
  |some x=>x::aw r
def rl(x:Pt):RLine:=mkR x.1 x.2
theorem gD:∀(ls:List Bytes),(aw ls).length<=ls.length
 |[]=>Nat.le_refl _
 |L::r=>by
  unfold aw;split
  ·exact Nat.zero_le _
  ·have:=gD r;simp;omega
theorem oT:∀(ls:List Bytes) (i:Nat),i<(aw ls).length->∃L x,ls[i]?=some L/\(aw ls)[i]?=some x/\(aW L).2=some x
 |[],i,h=>by simp[aw] at h
 |L::r,i,h=>by
  unfold aw at h ⊢;cases e:(aW L).2 with
  |none=>rw[e] at h;simp at h
  |some x=>
   rw[e] at h;dsimp only at h ⊢
   match i with
   |0=>exact⟨L,x,rfl,rfl,e⟩
   |i+1=>exact oT r i (by simpa using h)
theorem nP:∀(ls:List Bytes),(aw ls).length<ls.length->∃L,ls[(aw ls).length]?=some L/\(aW L).2=none
 |[],h=>by simp at h
 |L::r,h=>by
  unfold aw at h ⊢;cases e:(aW L).2 with
  |none=>exact⟨L,rfl,e⟩
  |some x=>
   rw[e] at h;dsimp only at h ⊢;exact nP r (by simpa using h)
theorem sx{α:Type}{p:α×Nat->Bool}:∀(l:List α) (o n:Nat),(∀i,i<n->∀x,l[i]?=some x->p (x,i+o)=false)->(∀x,l[n]?=some x->p (x,n+o)=true)->
  (l.zipIdx o).find? p=l[n]?.map fun x=>(x,n+o)
 |[],o,n,_,_=>by simp
 |a::l,o,0,_,h=>by
  rw[List.zipIdx_cons,List.find?_cons];have:=h a rfl;rw[Nat.zero_add] at this;rw[this];simp
 |a::l,o,n+1,h1,h2=>by
  rw[List.zipIdx_cons,List.find?_cons];have:=h1 0 (by omega) a rfl
  rw[Nat.zero_add] at this;rw[this];dsimp only;rw[sx l (o+1) n (fun i hi x hx=>by
   have:=h1 (i+1) (by omega) x (by simpa using hx)
   rw[show i+(o+1)=i+1+o by omega]
   exact this) (fun x hx=>by
   have:=h2 x (by simpa using hx)
   rw[show n+(o+1)=n+1+o by omega]
   exact this)]
  rw[List.getElem?_cons_succ];congr 1;funext x;rw[show n+(o+1)=n+1+o by omega]
theorem Af(ls:List Bytes)(P:∀p∈ls,lH p):(ls.zipIdx.find? fun(x:Bytes×Nat)=>decide (REPORTLINES<=x.2) || !reportForms.any fun(f:List Part)=>isBy f x.1) =
  ls[(aw (ls.take 64)).length]?.map fun L=>(L,(aw (ls.take 64)).length):=by
 have hlen:(aw (ls.take 64)).length<=64:=by
  have:=gD (ls.take 64);rw[List.length_take] at this;omega
 refine sx ls 0 (aw (ls.take 64)).length ?_ ?_
 ·intro i hi x hx;obtain⟨L,y,e1,e2,e3⟩:=oT (ls.take 64) i hi;rw[List.getElem?_take_of_lt (by omega),hx] at e1
  cases e1;have e4:¬(aW x).2=none:=by rw[e3];simp
  rw[jk (P x (List.mem_of_getElem? hx))] at e4;dsimp only;rw[decide_eq_false (show ¬REPORTLINES<=i+0 by show ¬64<=i+0;omega),Bool.false_or]
  simpa using e4
 ·intro x hx;have hl:=(List.getElem?_eq_some_iff.mp hx).1;dsimp only;by_cases e:(aw (ls.take 64)).length=64
  ·rw[decide_eq_true (show REPORTLINES<=(aw (ls.take 64)).length+0 by show 64<=_+0;omega),Bool.true_or]
  ·obtain⟨L,e1,e2⟩:=nP (ls.take 64) (by rw[List.length_take];omega)
   rw[List.getElem?_take_of_lt (by omega),hx] at e1
   cases e1;rw[jk (P x (List.mem_of_getElem? hx))] at e2;rw[e2];simp
theorem vH(b:Bytes):textFault reportForms REPORTLINES b =
  (pieces b)[(aw ((pieces b).take 64)).length]?.map fun L=>((aw ((pieces b).take 64)).length,if(aw ((pieces b).take 64)).length=64 then 0 else(aW L).1):=by
 have hlen:(aw ((pieces b).take 64)).length<=64:=by
  have:=gD ((pieces b).take 64);rw[List.length_take] at this;omega
 unfold textFault;rw[Af (pieces b) (fQ b.length b (Nat.le_refl _)),Option.map_map];congr 1;funext L;show((aw ((pieces b).take 64)).length,if 64<=(aw ((pieces b).take 64)).length then 0 else rightTo reportForms L)=_
 rw[qz];by_cases e:(aw ((pieces b).take 64)).length=64
 ·rw[if_pos e,if_pos (by omega)]
 ·rw[if_neg e,if_neg (by omega)]
theorem ji{L:Bytes}{x:Pt}(P:lH L)(h:(aW L).2=some x):x.1<10/\nR x.1 x.2/\rlineOf L=rl x:=by
 obtain⟨i,vs⟩:=x;obtain⟨hi,h2,_⟩:=oK h;have m:=d8 hi;have w:=dC _ m;obtain⟨e1,e2⟩:=jq (b7 i) w L vs h2;have by_:isBy (b7 i) L=true:=by
  rw[iG P m,h2];rfl
 have full:=((ku (b7 i) w L).mp by_).2;rw[full,List.take_length] at e1;have ok:=yl hi e2;refine⟨hi,ok,?_⟩;rw[e1];exact rn hi ok
theorem p7:∀(ls:List Bytes),(∀p∈ls,lH p)->(aw ls).length=ls.length->ls.map rlineOf=(aw ls).map rl
 |[],_,_=>rfl
 |L::r,P,h=>by
  unfold aw at h ⊢;cases e:(aW L).2 with
  |none=>rw[e] at h;simp at h
  |some x=>
   rw[e] at h;dsimp only at h ⊢;rw[List.map_cons,List.map_cons,(ji (P L (by simp)) e).2.2,p7 r (fun p hp=>P p (by simp[hp])) (by simpa using h)]
theorem ow:∀(ls:List Bytes),(∀p∈ls,lH p)->∀x∈aw ls,x.1<10/\nR x.1 x.2
 |[],_,x,hx=>by cases hx
 |L::r,P,x,hx=>by
  unfold aw at hx;cases e:(aW L).2 with
  |none=>rw[e] at hx;cases hx
  |some y=>
   rw[e] at hx;rcases List.mem_cons.mp hx with rfl | hx
   ·have:=ji (P L (by simp)) e
    exact⟨this.1,this.2.1⟩
   ·exact ow r (fun p hp=>P p (by simp[hp])) x hx
def bj(b:Bytes):List Pt:=aw ((pieces b).take 64)
noncomputable def iW(l:List RLine):Option Nat:=(List.range l.length).find? fun(i:Nat)=>!lineFine l i
def bG(b:Bytes):List Int:=
 if(bj b).length<(pieces b).length then[1,((bj b).length:Int),if(bj b).length=64 then 0 else((aW ((pieces b).getD (bj b).length [])).1:Int)]
 else match iW ((bj b).map rl) with
  |some i=>[2,(i:Int),0]
  |none=>if((bj b).map rl).getLast?.map RLine.sort=some 4 then[] else[3,((bj b).length:Int),0]
theorem GX{b:Bytes}(h:¬(bj b).length<(pieces b).length):(pieces b).map rlineOf=(bj b).map rl:=by
 have l1:=gD ((pieces b).take 64);have e:(pieces b).take 64=pieces b:=by
  rw[List.length_take] at l1;apply List.take_of_length_le;show _<=64;have:(aw ((pieces b).take 64)).length=(bj b).length:=rfl;omega
 have P:=fQ b.length b (Nat.le_refl _);unfold bj at h ⊢;rw[e] at h ⊢ l1;exact p7 (pieces b) P (by omega)
theorem sX(b:Bytes):readReport b=if bG b=[] then .ok (reportOf ((bj b).map rl)) else .error ⟨((bG b).getD 0 0).toNat,((bG b).getD 1 0).toNat,((bG b).getD 2 0).toNat⟩:=by
 unfold readReport;rw[vH];unfold bG;by_cases h:(bj b).length<(pieces b).length
 ·rw[if_pos h];have:(pieces b)[(bj b).length]?=some ((pieces b).getD (bj b).length []):=by
   rw[List.getD_eq_getElem?_getD,List.getElem?_eq_getElem h];rfl
  unfold bj at this ⊢;rw[this];dsimp only[Option.map_some];by_cases e:(aw ((pieces b).take 64)).length=64
  ·rw[if_pos e,if_pos e,if_neg (List.cons_ne_nil _ _)];rfl
  ·rw[if_neg e,if_neg e,if_neg (List.cons_ne_nil _ _)];rfl
 ·rw[if_neg h];have:(pieces b)[(bj b).length]?=none:=by
   rw[List.getElem?_eq_none_iff];omega
  unfold bj at this ⊢;rw[this];dsimp only[Option.map_none];rw[GX h];unfold bj iW;cases e:(List.range (List.map rl (aw ((pieces b).take 64))).length).find? fun(i:Nat)=>!lineFine (List.map rl (aw ((pieces b).take 64))) i with
  |some i=>
   dsimp only;rw[if_neg (List.cons_ne_nil _ _)];rfl
  |none=>
   dsimp only;split
   ·rw[if_pos rfl]
   ·rw[if_neg (List.cons_ne_nil _ _),List.length_map];rfl
noncomputable def aO(k:Nat):Nat:=if k<2 then 0 else if k<4 then 1 else if k<6 then 2 else if k<7 then 3 else 4
theorem fF(x:Pt):(rl x).sort=aO x.1:=by
 obtain⟨k,vs⟩:=x;unfold rl mkR aO
 match k with
 |0 | 1 | 2 | 3 | 4 | 5 | 6 | 7 | 8 | 9=>rfl
 |k+10=>
  show 4=_;rw[if_neg (by show ¬k+10<2;omega),if_neg (by show ¬k+10<4;omega),if_neg (by show ¬k+10<6;omega),if_neg (by show ¬k+10<7;omega)]
noncomputable def iJ(x:Pt):Bool:=match x.1 with
 |2 | 3 | 6=>decide (x.2.getD 0 0+x.2.getD 1 0<=80)&&decide (x.2.getD 2 0+x.2.getD 1 0<=132)
 |4=>(decide (x.2.getD 0 0+x.2.getD 1 0<=80)&&decide (x.2.getD 1 0<=18))&&decide (x.2.getD 2 0+x.2.getD 3 0<=132)
 |5=>decide (x.2.getD 0 0+x.2.getD 1 0<=132)
 |_=>true
noncomputable def cf(x:Pt):Nat:=match x.1 with
 |2=>12 * x.2.getD 1 0
 |3=>x.2.getD 1 0
 |_=>0
def eB(x:Pt):Prop:=x.1<10/\nR x.1 x.2
theorem y3{x:Pt}(h:eB x):(rl x).fine=iJ x:=by
 obtain⟨k,vs⟩:=x;obtain⟨hk,h⟩:=h;dsimp only at hk h
 match k,hk with
 |0,_=>
  obtain⟨c,r,rfl,h1,h2⟩:=h;show(decide (c<80)&&decide (r<12))=true;rw[decide_eq_true (by omega),decide_eq_true (by omega)]
  rfl
 |1,_=>
  obtain⟨c,r,rfl,h1,h2⟩:=h;show(decide (c<80)&&decide (r<12))=true;rw[decide_eq_true (by omega),decide_eq_true (by omega)]
  rfl
 |2,_=>
  obtain⟨c,n,p,rfl,h1,h2,h3,h4⟩:=h;show((decide (1<=n)&&decide (c+n<=80))&&decide (p+n<=132))=(decide (c+n<=80)&&decide (p+n<=132));rw[decide_eq_true h2,Bool.true_and]
 |3,_=>
  obtain⟨c,n,p,rfl,h1,h2,h3,h4⟩:=h;show((decide (1<=n)&&decide (c+n<=80))&&decide (p+n<=132))=(decide (c+n<=80)&&decide (p+n<=132));rw[decide_eq_true h2,Bool.true_and]
 |4,_=>
  obtain⟨c,n,p,w,rfl,h1,h2,h3,h4,h5,h6⟩:=h;show((if false=true then _ else(decide (1<=n)&&decide (c+n<=80))&&decide (n<=18))&&(decide (2<=w)&&(decide (w<=20)&&decide (p+w<=132))))=((decide (c+n<=80)&&decide (n<=18))&&decide (p+w<=132))
  rw[if_neg (by decide),decide_eq_true h2,decide_eq_true h5,decide_eq_true h6,Bool.true_and,Bool.true_and,Bool.true_and]
 |5,_=>
  obtain⟨p,w,rfl,h4,h5,h6⟩:=h;show((if true=true then((0:Nat)==0&&(0:Nat)==0) else(isField 0 0&&decide (0<=MOSTFIGURES)))&&(decide (2<=w)&&(decide (w<=20)&&decide (p+w<=132))))=decide (p+w<=132)
  rw[if_pos rfl,decide_eq_true h5,decide_eq_true h6,Bool.true_and,Bool.true_and];rfl
 |6,_=>
  obtain⟨c,n,p,rfl,h1,h2,h3,h4⟩:=h;show((decide (1<=n)&&decide (c+n<=80))&&decide (p+n<=132))=(decide (c+n<=80)&&decide (p+n<=132));rw[decide_eq_true h2,Bool.true_and]
 |7,_=>rfl
 |8,_=>rfl
 |9,_=>rfl
 |k+10,h=>omega
theorem xy(x:Pt):passesIn [rl x]=cf x:=by
 obtain⟨k,vs⟩:=x;unfold rl mkR cf
 match k with
 |0 | 1 | 2 | 3 | 4 | 5 | 6 | 7 | 8 | 9=>rfl
 |k+10=>rfl
theorem i6(l m:List RLine):passesIn (l++m)=passesIn l+passesIn m:=by
 unfold passesIn;rw[List.map_append,List.sum_append]
theorem oN(l:List RLine)(x:Pt):passesIn (l++[rl x])=passesIn l+cf x:=by
 rw[i6,xy]
theorem ng:∀ps:List Pt,passesIn (ps.map rl)=(ps.map cf).sum
 |[]=>rfl
 |x::r=>by
  have e:passesIn ((x::r).map rl)=passesIn ([rl x]++r.map rl):=rfl;rw[e,i6,xy,ng r,List.map_cons,List.sum_cons]
theorem cH{α:Type}{l:List α}{i:Nat}{x:α}(h:l[i]?=some x):l.take (i+1)=l.take i++[x]:=by
 rw[List.take_add_one,h];rfl
def cnt(ps:List Pt)(s:Nat):Nat:=(ps.filter fun y=>aO y.1==s).length
def cg(ps:List Pt):Nat:=(ps.getLast?.map fun y=>aO y.1).getD 0
theorem DC{ps:List Pt}:∀i,i<=ps.length->(∀j,j<i->lineFine (ps.map rl) j=true)->∀y∈ps.take i,aO y.1<=cg (ps.take i)
 |0,_,_,y,hy=>by simp at hy
 |i+1,hi,h,y,hy=>by
  have hx:ps[i]?=some ps[i]:=List.getElem?_eq_getElem (by omega)
  rw[cH hx] at hy ⊢;have el:cg (ps.take i++[ps[i]])=aO ps[i].1:=by
   unfold cg;rw[List.getLast?_append];rfl
  rw[el];rcases List.mem_append.mp hy with hy | hy
  ·have f:=h i (by omega)
   unfold lineFine at f;rw[List.getElem?_map,hx] at f;dsimp only[Option.map_some] at f;rw[Bool.and_eq_true] at f;have a:=List.all_eq_true.mp f.1 (rl y) (by rw[<-List.map_take];exact List.mem_map_of_mem hy)
   rw[fF,fF] at a;exact of_decide_eq_true a
  ·rw[List.mem_singleton.mp hy];exact Nat.le_refl _
theorem DD(ps:List Pt)(s:Nat):((ps.map rl).filter fun(y:RLine)=>y.sort==s).length=cnt ps s:=by
 unfold cnt;rw[List.filter_map,List.length_map];congr 2;funext y;show((rl y).sort==s)=_;rw[fF]
def tm(ps:List Pt)(i:Nat)(x:Pt):Bool:=
 !(decide (aO x.1<cg (ps.take i)) || decide (mostOf (aO x.1)<cnt (ps.take i) (aO x.1)+1))&&!(decide (250<((ps.take i).map cf).sum+cf x) || !iJ x)
theorem iO(ps:List Pt)(x:Pt):cnt (ps++[x]) (aO x.1)=cnt ps (aO x.1)+1:=by
 unfold cnt;rw[List.filter_append,List.length_append];simp
theorem kT{ps:List Pt}{i:Nat}{x:Pt}(hx:ps[i]?=some x)(ok:eB x)(h:∀j,j<i->lineFine (ps.map rl) j=true):lineFine (ps.map rl) i=tm ps i x:=by
 have hi:i<ps.length:=(List.getElem?_eq_some_iff.mp hx).1;have hx':(ps.map rl)[i]?=some (rl x):=by rw[List.getElem?_map,hx];rfl
 unfold lineFine tm;rw[hx'];dsimp only;have e1:((List.map rl ps).take i).all (fun(y:RLine)=>decide (y.sort<=(rl x).sort))=!decide (aO x.1<cg (ps.take i)):=by
  rw[<-List.map_take,fF];apply Bool.eq_iff_iff.mpr;rw[List.all_eq_true];constructor
  ·intro q;rw[Bool.not_eq_true',decide_eq_false_iff_not];intro lt;unfold cg at lt;cases e:(ps.take i).getLast? with
   |none=>rw[e] at lt;simp at lt
   |some z=>
    rw[e] at lt;have m:=List.mem_of_getLast? e;have:=of_decide_eq_true (q (rl z) (List.mem_map_of_mem m));rw[fF] at this;simp at lt;omega
  ·intro q y hy;rw[Bool.not_eq_true',decide_eq_false_iff_not] at q;obtain⟨z,hz,rfl⟩:=List.mem_map.mp hy;have:=DC i (by omega) h z hz
   rw[fF];exact decide_eq_true (by omega)
 have e2:((List.map rl ps).take (i+1)).filter (fun(y:RLine)=>y.sort==(rl x).sort)=((List.map rl (ps.take (i+1))).filter fun(y:RLine)=>y.sort==(rl x).sort):=by rw[List.map_take]
 rw[e1,e2,DD,fF,cH hx,iO,y3 ok];rw[<-List.map_take,cH hx,List.map_append];show(_&&(_&&(_&&decide (passesIn (List.map rl (ps.take i)++[rl x])<=PASSES))))=_;rw[oN,ng];show _=_;have e3:decide (((ps.take i).map cf).sum+cf x<=PASSES)=!decide (250<((ps.take i).map cf).sum+cf x):=by
  by_cases q:250<((ps.take i).map cf).sum+cf x
  ·rw[decide_eq_true q,decide_eq_false (by show ¬_<=250;omega)]
   rfl
  ·rw[decide_eq_false q,decide_eq_true (by show _<=250;omega)]
   rfl
 have e4:decide (cnt (ps.take i) (aO x.1)+1<=mostOf (aO x.1))=!decide (mostOf (aO x.1)<cnt (ps.take i) (aO x.1)+1):=by
  by_cases q:mostOf (aO x.1)<cnt (ps.take i) (aO x.1)+1
  ·rw[decide_eq_true q,decide_eq_false (by omega)]
   rfl
  ·rw[decide_eq_false q,decide_eq_true (by omega)]
   rfl
 rw[e3,e4];generalize decide (aO x.1<cg (ps.take i))=a;generalize decide (mostOf (aO x.1)<cnt (ps.take i) (aO x.1)+1)=b;generalize decide (250<((ps.take i).map cf).sum+cf x)=c;generalize iJ x=d
 revert a b c d
 decide
theorem nU{p:Nat->Bool}:∀n i,i<n->(∀j,j<i->p j=false)->p i=true->(List.range n).find? p=some i
 |0,i,h,_,_=>by omega
 |n+1,i,h,h1,h2=>by
  rw[List.range_succ,List.find?_append];by_cases e:i<n
  ·rw[nU n i e h1 h2];rfl
  ·have:i=n:=by omega
   subst this;have z:(List.range i).find? p=none:=by
    rw[List.find?_eq_none];intro j hj;rw[h1 j (List.mem_range.mp hj)]
    decide
   rw[z];simp[h2]
theorem vF{l:List RLine}{i:Nat}(hi:i<l.length)(h:∀j,j<i->lineFine l j=true)(e:lineFine l i=false):iW l=some i:=by
 unfold iW;exact nU l.length i hi (fun j hj=>by rw[h j hj];rfl) (by rw[e];rfl)
theorem vv{l:List RLine}(h:∀j,j<l.length->lineFine l j=true):iW l=none:=by
 unfold iW;rw[List.find?_eq_none];intro j hj;rw[h j (List.mem_range.mp hj)]
 decide
noncomputable def bz(c:Nat):Option (Nat×Nat):=if c=67 then some (0,79) else if c=82 then some (0,11) else if c=78 then some (1,80) else if c=80 then some (0,131) else if c=87 then some (2,20) else none
theorem vh{c lo hi:Nat}(h:bz c=some (lo,hi)):Rg lo hi:=by
 unfold bz at h;unfold Rg
 repeat' split at h
 all_goals first | (cases h;done) | (cases h;decide)
noncomputable def jP(lo hi:Nat):Nat:=if hi=79 then 67 else if hi=11 then 82 else if hi=80 then 78 else if hi=131 then 80 else 87
theorem rh{lo hi:Nat}(h:Rg lo hi):bz (jP lo hi)=some (lo,hi):=by
 unfold Rg at h;simp at h;rcases h with⟨rfl,rfl⟩ | ⟨rfl,rfl⟩ | ⟨rfl,rfl⟩ | ⟨rfl,rfl⟩ | ⟨rfl,rfl⟩<;>rfl
def dq(c:Nat)(L:Bytes):Nat:=match bz c with
 |some (lo,hi)=>bq lo hi L
 |none=>match L with
  |b::_=>if b.toNat=c then 1 else 0
  |[]=>0
def fm(c:Nat)(d:Bytes):Bool:=decide (d≠[])&&(match bz c with
 |some (lo,hi)=>dN lo hi (valueOf d)
 |none=>true)
theorem zY(c:Nat)(L:Bytes):dq c L<=L.length:=by
 unfold dq;split
 ·exact eJ _ _ L
 ·split
  ·split<;>simp
  ·exact Nat.zero_le _
theorem rH{c:Nat}{L:Bytes}(h:(bz c).isSome=true):∀x∈L.take (dq c L),cn x=true:=by
 intro x hx;unfold dq at hx;cases e:bz c with
 |none=>rw[e] at h;cases h
 |some p=>
  rw[e] at hx;obtain⟨lo,hi⟩:=p;dsimp only at hx;obtain⟨i,hi',ex⟩:=List.mem_iff_getElem.mp hx;rw[List.length_take] at hi';obtain⟨d,hd,hdd⟩:=gq L 0 false i (show i<bq lo hi L by omega)
  rw[List.getElem_take] at ex;obtain⟨z1,z2⟩:=List.getElem?_eq_some_iff.mp hd;rw[<-ex,z2];exact hdd
def ff:List Nat->Bytes->Nat×Option (List Nat)
 |[],_=>(0,some [])
 |c::s,L=>if fm c (L.take (dq c L))=true then((ff s (L.drop (dq c L))).1+dq c L,(ff s (L.drop (dq c L))).2.map fun vs=>if(bz c).isSome=true then valueOf (L.take (dq c L))::vs else vs) else(dq c L,none)
def sgs:List Part->List Nat
 |[]=>[]
 |.word w::l=>w.map UInt8.toNat++sgs l
 |.num lo hi::l=>jP lo hi::sgs l
 |.tray::_=>[]
def mn:List Part->Bool
 |[]=>true
 |.word w::l=>(w.all fun c=>(bz c.toNat).isNone)&&mn l
 |.num _ _::l=>mn l
 |.tray::_=>false
theorem tN:∀f∈reportForms,mn f=true:=by decide +kernel
theorem n6(s:List Nat)(X:Bytes->Nat×Option (List Nat))(hX:∀L,ff s L=X L):∀(w L:Bytes),(w.all fun c=>(bz c.toNat).isNone)=true->
  ff (w.map UInt8.toNat++s) L=if w.isPrefixOf L=true then((X (L.drop w.length)).1+w.length,(X (L.drop w.length)).2) else(lcp w L,none)
 |[],L,_=>by
  show ff s L=_;rw[hX];simp
 |c::w,L,h=>by
  rw[List.all_cons,Bool.and_eq_true] at h;have hc:bz c.toNat=none:=by simpa using h.1
  show ff (c.toNat::(w.map UInt8.toNat++s)) L=_;rw[ff];cases L with
  |nil=>
   have:dq c.toNat []=0:=by unfold dq;rw[hc]
   rw[this];have w0:fm c.toNat ([].take 0)=false:=by unfold fm;simp
   rw[if_neg (by rw[w0];decide)]
   rw[if_neg (by simp)]
   rfl
  |cons b r=>
   by_cases e:c=b
   ·subst e;have:dq c.toNat (c::r)=1:=by unfold dq;rw[hc];simp
    rw[this];have w1:fm c.toNat ((c::r).take 1)=true:=by unfold fm;rw[hc];simp
    rw[if_pos w1];have d1:(c::r).drop 1=r:=rfl;rw[d1,n6 s X hX w r h.2];have pe:(c::w).isPrefixOf (c::r)=w.isPrefixOf r:=by simp[List.isPrefixOf]
    rw[pe];by_cases q:w.isPrefixOf r=true
    ·rw[if_pos q,if_pos q];dsimp only;rw[hc];have d2:(c::r).drop (c::w).length=r.drop w.length:=rfl;rw[d2];simp[Nat.add_assoc]
    ·rw[if_neg q,if_neg q];dsimp only[Option.map_none];rw[show lcp (c::w) (c::r)=lcp w r+1 by rw[lcp,if_pos rfl]]
   ·have ne:¬b.toNat=c.toNat:=fun z=>e (UInt8.toNat_inj.mp z.symm)
    have:dq c.toNat (b::r)=0:=by unfold dq;rw[hc];simp[ne]
    rw[this];have w0:fm c.toNat ((b::r).take 0)=false:=by unfold fm;simp
    rw[if_neg (by rw[w0];decide)]
    rw[if_neg (by simp[List.isPrefixOf,e])]
    unfold lcp;rw[if_neg e]
theorem kU:∀(f:List Part),wf f=true->mn f=true->∀L,ff (sgs f) L=run f L
 |[],_,_,L=>rfl
 |.word w::l,h1,h2,L=>by
  rw[mn,Bool.and_eq_true] at h2;rw[sgs,n6 (sgs l) (run l) (kU l h1 h2.2) w L h2.1,run]
 |.num lo hi::l,h1,h2,L=>by
  obtain⟨rg,h1',_⟩:=js h1;have hr:=rh rg;rw[sgs,ff,run];have e1:dq (jP lo hi) L=bq lo hi L:=by unfold dq;rw[hr]
  rw[e1];have e2:fm (jP lo hi) (L.take (bq lo hi L))=(decide (bq lo hi L≠0)&&dN lo hi (valueOf (L.take (bq lo hi L)))):=by
   unfold fm;rw[hr];dsimp only;congr 1;apply Bool.eq_iff_iff.mpr;rw[decide_eq_true_eq,decide_eq_true_eq];have hl:=eJ lo hi L;constructor
   ·intro q z;apply q;rw[z];rfl
   ·intro q z;have:=congrArg List.length z;rw[List.length_take,List.length_nil] at this;omega
  rw[e2,kU l h1' h2,hr];rfl
 |.tray::_,h,_,L=>by cases h
noncomputable def EH:List String:=["where C R yes\n", "where C R no\n", "key C N at P by holes\n", "key C N at P by top\n", "sum C N at P W\n", "count at P W\n", "see C N at P\n", "list all\n", "list first\n", "list none\n"]
def jg(i:Nat):List Nat:=(EH.getD i "").toList.map Char.toNat
theorem yu:∀i,i<10->jg i=sgs (b7 i):=by decide +kernel
theorem Ee{i:Nat}(h:i<10)(L:Bytes):fj i L=((ff (jg i) L).1,(ff (jg i) L).2.map fun vs=>(i,vs)):=by
 have m:=d8 h;rw[yu i h,kU _ (dC _ m) (tN _ m)];rfl
def cE(cs:List Nat):List Nat:=cs.filter fun c=>(bz c).isSome
theorem vm:∀i,i<10->(cE (jg i)).Nodup:=by decide +kernel
theorem xG(f a b lo hi:Nat):cbF (f+1) a b lo hi=if a<=hi then(if lo<=b then true else cbF f (a * 10) (b * 10+9) lo hi) else false:=rfl
def g0(b:Bytes):List Int:=if 4096<b.length then[-1] else if bG b=[] then[] else -6::bG b
theorem uO(b:Bytes)(f:¬bG b=[]):[(((bG b).getD 0 0).toNat:Int),(((bG b).getD 1 0).toNat:Int),(((bG b).getD 2 0).toNat:Int)]=bG b:=by
 unfold bG at f ⊢;by_cases h1:(bj b).length<(pieces b).length
 ·rw[if_pos h1];by_cases e:(bj b).length=64
  ·rw[if_pos e];rfl
  ·rw[if_neg e];rfl
 ·rw[if_neg h1] at f ⊢;cases u:iW ((bj b).map rl) with
  |some i=>rfl
  |none=>
   rw[u] at f;dsimp only at f ⊢;split
   ·rename_i z
    rw[if_pos z] at f;exact absurd rfl f
   ·rfl
def HC(b:Bytes):Report:=reportOf ((bj b).map rl)
theorem zi(b:Bytes)(f:Report->Reports.Answer):ReportsNeutral.told (Reports.onReport b f)=if g0 b=[] then ReportsNeutral.told (f (HC b)) else g0 b:=by
 unfold Reports.onReport Reports.reportIn g0;by_cases h:4096<b.length
 ·rw[if_pos h,if_pos (show REPORTTEXT<b.length from h),if_neg (List.cons_ne_nil _ _)]
  rfl
 ·rw[if_neg h,if_neg (show ¬REPORTTEXT<b.length from h),sX]
  by_cases e:bG b=[]
  ·rw[if_pos e,if_pos e,if_pos rfl];rfl
  ·rw[if_neg e,if_neg e,if_neg (List.cons_ne_nil _ _)];show(-6:Int)::[(((bG b).getD 0 0).toNat:Int),(((bG b).getD 1 0).toNat:Int),(((bG b).getD 2 0).toNat:Int)]=_;rw[uO b e]
theorem yr{b:Bytes}(h:g0 b=[]):bG b=[]:=by
 unfold g0 at h;by_cases z:4096<b.length
 ·rw[if_pos z] at h;cases h
 ·rw[if_neg z] at h;by_cases e:bG b=[]
  ·exact e
  ·rw[if_neg e] at h;cases h
theorem jZ{b:Bytes}(h:g0 b=[]):(∀j,j<(bj b).length->lineFine ((bj b).map rl) j=true)/\((bj b).map rl).getLast?.map RLine.sort=some 4:=by
 have f:=yr h;unfold bG at f;by_cases h1:(bj b).length<(pieces b).length
 ·rw[if_pos h1] at f;cases f
 ·rw[if_neg h1] at f;cases u:iW ((bj b).map rl) with
  |some i=>rw[u] at f;cases f
  |none=>
   rw[u] at f;dsimp only at f;by_cases z:((bj b).map rl).getLast?.map RLine.sort=some 4
   ·refine⟨fun j hj=>?_,z⟩
    unfold iW at u;have:=List.find?_eq_none.mp u j (by rw[List.mem_range,List.length_map];exact hj)
    simpa using this
   ·rw[if_neg z] at f;cases f
theorem nj(b:Bytes):∀x∈bj b,eB x:=fun x hx=>
 ow _ (fun p hp=>fQ b.length b (Nat.le_refl _) p (List.mem_of_mem_take hp)) x hx
theorem Bf{b:Bytes}(h:g0 b=[]):∀x∈bj b,iJ x=true:=fun x hx=>by
 obtain⟨j,hj,e⟩:=List.getElem_of_mem hx;have hf:=(jZ h).1 j hj;rw[kT (List.getElem?_eq_some_iff.mpr ⟨hj,e⟩) (nj b x hx) (fun i hi=>(jZ h).1 i (by omega))] at hf
 unfold tm at hf;simp only[Bool.and_eq_true] at hf
 first
 |exact hf.2.2
 |exact hf.1.2
 |(revert hf;simp only[Bool.and_eq_true,Bool.not_eq_true',Bool.or_eq_false_iff];intro hf;first | exact hf.2.2 | exact hf.2 | (simp_all;done))
noncomputable def cV:Int->Card->List Int->Option Card
 |_,y,[]=>some y
 |_,_,[_]=>none
 |b,y,c::h::r=>if(b<c/\c<80)/\1<=h/\h<=4095 then cV c (y.set c.toNat h.toNat) r else none
def bN:Nat->List Int->Option Deck
 |_,[]=>some []
 |0,_::_=>none
 |f+1,n::l=>if 0<=n/\2 * n.toNat<=l.length then(cV (-1) blankCard (l.take (2 * n.toNat))).bind fun x=>(bN f (l.drop (2 * n.toNat))).map fun d=>x::d else none
theorem pj:∀(l:List Int) (b:Int) (y z:Card),-1<=b->cV b y l=some z->∀n∈l,0<=n
 |[],_,_,_,_,_,_,h=>by cases h
 |[_],_,_,_,_,e,_,_=>by cases e
 |c::h::r,b,y,z,hb,e,n,hn=>by
  rw[cV] at e;by_cases q:(b<c/\c<80)/\1<=h/\h<=4095
  ·rw[if_pos q] at e;rcases List.mem_cons.mp hn with rfl | hn
   ·omega
   ·rcases List.mem_cons.mp hn with rfl | hn
    ·omega
    ·exact pj r c _ z (by omega) e n hn
  ·rw[if_neg q] at e;cases e
noncomputable def okP(x:Nat×Nat):Bool:=decide (x.1<COLUMNS)&&(decide (1<=x.2)&&decide (x.2<HOLES))
theorem uv:∀(l:List Int) (p:List (Nat×Nat)) (b:Int) (y:Card),(∀n∈l,0<=n)->twos (l.map Int.toNat)=some p->
  cV b y l=if((p.head?.map fun x=>decide (b<(x.1:Int))).getD true&&(rising (p.map Prod.fst)&&p.all okP))=true then some (p.foldl (fun(y:Card) (x:Nat×Nat)=>y.set x.1 x.2) y) else none
 |[],p,b,y,_,e=>by
  cases e;rfl
 |[_],p,b,y,_,e=>by cases e
 |c::h::r,p,b,y,hn,e=>by
  rw[List.map_cons,List.map_cons,twos] at e;cases er:twos (r.map Int.toNat) with
  |none=>rw[er] at e;cases e
  |some q=>
   rw[er] at e;cases e;have ih:=uv r q c (y.set c.toNat h.toNat) (fun n hm=>hn n (by simp[hm])) er
   have hc:0<=c:=hn c (by simp)
   have hh:0<=h:=hn h (by simp)
   rw[cV,ih];have e1:okP (c.toNat,h.toNat)=(decide (c<80)&&(decide (1<=h)&&decide (h<=4095))):=by
    unfold okP;show(decide (c.toNat<80)&&(decide (1<=h.toNat)&&decide (h.toNat<4096)))=_;rw[show decide (c.toNat<80)=decide (c<80) from decide_eq_decide.mpr (by omega),show decide (1<=h.toNat)=decide (1<=h) from decide_eq_decide.mpr (by omega),show decide (h.toNat<4096)=decide (h<=4095) from decide_eq_decide.mpr (by omega)]
   have e2:rising (((c.toNat,h.toNat)::q).map Prod.fst)=((q.head?.map fun x=>decide (c<(x.1:Int))).getD true&&rising (q.map Prod.fst)):=by
    cases q with
    |nil=>rfl
    |cons x q=>
     show(decide (c.toNat<x.1)&&rising (x.1::q.map Prod.fst))=(decide (c<(x.1:Int))&&rising (x.1::q.map Prod.fst));rw[show decide (c.toNat<x.1)=decide (c<(x.1:Int)) from decide_eq_decide.mpr (by omega)]
   have e3:((((c.toNat,h.toNat)::q).head?.map fun x=>decide (b<(x.1:Int))).getD true)=decide (b<c):=by
    show decide (b<((c.toNat:Nat):Int))=_;exact decide_eq_decide.mpr (by omega)
   rw[e2,e3,List.all_cons,e1];by_cases z:(b<c/\c<80)/\1<=h/\h<=4095
   ·rw[if_pos z,decide_eq_true z.1.1,decide_eq_true z.1.2,decide_eq_true z.2.1,decide_eq_true z.2.2];simp only[Bool.true_and,Bool.and_assoc];rfl
   ·rw[if_neg z,if_neg];intro w;simp only[Bool.and_eq_true,decide_eq_true_eq] at w;exact z ⟨⟨w.1,w.2.2.1.1⟩,w.2.2.1.2.1,w.2.2.1.2.2⟩
theorem twos_none:∀(l:List Nat),twos l=none->l.length % 2=1
 |[],h=>by cases h
 |[_],_=>rfl
 |a::b::l,h=>by
  rw[twos] at h;cases e:twos l with
  |none=>
   have:=twos_none l e;simp only[List.length_cons];omega
  |some q=>rw[e] at h;cases h
theorem mx:∀(l:List Int) (b:Int) (y:Card),l.length % 2=1->cV b y l=none
 |[],_,_,h=>by cases h
 |[_],_,_,_=>rfl
 |c::h::r,b,y,e=>by
  rw[cV];simp only[List.length_cons] at e;split
  ·exact mx r _ _ (by omega)
  ·rfl
theorem Ed(l:List Int)(hn:∀n∈l,0<=n):cardOf (l.map Int.toNat)=cV (-1) blankCard l:=by
 unfold cardOf;cases e:twos (l.map Int.toNat) with
 |none=>
  have:=twos_none _ e;rw[List.length_map] at this;rw[mx l _ _ this];rfl
 |some p=>
  rw[uv l p _ _ hn e];have z:((p.head?.map fun x=>decide ((-1:Int)<(x.1:Int))).getD true)=true:=by
   cases p with
   |nil=>rfl
   |cons x p=>
    show decide ((-1:Int)<(x.1:Int))=true;exact decide_eq_true (by omega)
  rw[z,Bool.true_and];rfl
theorem pF:∀(f:Nat) (l:List Int),(∀n∈l,0<=n)->Reports.deckFrom f (l.map Int.toNat)=bN f l
 |0,[],_=>rfl
 |_+1,[],_=>rfl
 |0,_::_,_=>rfl
 |f+1,n::l,h=>by
  have hn:0<=n:=h n (by simp)
  have hl:∀m∈l,0<=m:=fun m hm=>h m (by simp[hm])
  rw[List.map_cons,Reports.deckFrom,bN,List.length_map];by_cases z:2 * n.toNat<=l.length
  ·rw[if_neg (by omega),if_pos ⟨hn,z⟩,<-List.map_take,<-List.map_drop,Ed _ fun m hm=>hl m (List.mem_of_mem_take hm),pF f _ fun m hm=>hl m (List.mem_of_mem_drop hm)]
  ·rw[if_pos (by omega),if_neg fun q=>z q.2]
theorem xp:∀(f:Nat) (l:List Int) (d:Deck),bN f l=some d->∀n∈l,0<=n
 |_,[],_,_,_,h=>by cases h
 |0,_::_,_,e,_,_=>by cases e
 |f+1,n::l,d,e,m,hm=>by
  rw[bN] at e;by_cases z:0<=n/\2 * n.toNat<=l.length
  ·rw[if_pos z] at e;cases ec:cV (-1) blankCard (l.take (2 * n.toNat)) with
   |none=>rw[ec] at e;cases e
   |some x=>
    rw[ec] at e;cases ed:bN f (l.drop (2 * n.toNat)) with
    |none=>rw[ed] at e;cases e
    |some d'=>
     rcases List.mem_cons.mp hm with rfl | hm
     ·exact z.1
     ·rw[<-List.take_append_drop (2 * n.toNat) l] at hm;rcases List.mem_append.mp hm with q | q
      ·exact pj _ _ _ _ (Int.le_refl _) ec m q
      ·exact xp f _ d' ed m q
  ·rw[if_neg z] at e;cases e
theorem kh:∀(f:Nat) (l:List Int) (d:Deck),bN f l=some d->d.length<=l.length
 |_,[],d,e=>by
  cases f:d with
  |nil=>exact Nat.zero_le _
  |cons x d'=>
   subst f;rw[bN] at e;cases e
 |0,_::_,_,e=>by cases e
 |f+1,n::l,d,e=>by
  rw[bN] at e;by_cases z:0<=n/\2 * n.toNat<=l.length
  ·rw[if_pos z] at e;cases ec:cV (-1) blankCard (l.take (2 * n.toNat)) with
   |none=>rw[ec] at e;cases e
   |some x=>
    rw[ec] at e;cases ed:bN f (l.drop (2 * n.toNat)) with
    |none=>rw[ed] at e;cases e
    |some d'=>
     rw[ed] at e;have e':some (x::d')=some d:=e;cases e';have:=kh f _ d' ed;rw[List.length_drop] at this;simp only[List.length_cons];omega
  ·rw[if_neg z] at e;cases e
theorem D1(l:List Int)(h:l.length<=1000):Reports.deckOf l=bN l.length l:=by
 unfold Reports.deckOf Reports.nats;by_cases a:(l.all fun(n:Int)=>decide (0<=n))=true
 ·rw[if_pos a];have hn:∀n∈l,0<=n:=fun n hm=>of_decide_eq_true (List.all_eq_true.mp a n hm)
  show(Reports.deckFrom (l.map Int.toNat).length (l.map Int.toNat)).bind _=_;rw[List.length_map,pF _ _ hn];cases e:bN l.length l with
  |none=>rfl
  |some d=>
   have:=kh _ _ _ e;show(if d.length<=MOSTCARDS then some d else none)=_
   exact if_pos (show d.length<=MOSTCARDS from Nat.le_trans this h)
 ·rw[if_neg a];cases e:bN l.length l with
  |none=>rfl
  |some d=>exact absurd (List.all_eq_true.mpr fun n hm=>decide_eq_true (xp _ _ _ e n hm)) a
def qW(x:Card):Prop:=x.length=80/\∀h∈x,h<4096
theorem Ar:qW blankCard:=⟨by decide +kernel,fun h hh=>by
 have:=List.eq_of_mem_replicate hh;omega⟩
theorem pT:∀(l:List Int) (b:Int) (y z:Card),qW y->cV b y l=some z->qW z
 |[],_,_,_,hy,e=>by
  cases e;exact hy
 |[_],_,_,_,_,e=>by cases e
 |c::h::r,b,y,z,hy,e=>by
  rw[cV] at e;by_cases q:(b<c/\c<80)/\1<=h/\h<=4095
  ·rw[if_pos q] at e;refine pT r c _ z ⟨by rw[List.length_set];exact hy.1,fun u hu=>?_⟩ e
   rcases List.mem_or_eq_of_mem_set hu with k | k
   ·exact hy.2 u k
   ·omega
  ·rw[if_neg q] at e;cases e
theorem xw:∀(f:Nat) (l:List Int) (d:Deck),bN f l=some d->∀x∈d,qW x
 |_,[],d,e,x,hx=>by
  rw[show bN _ []=some [] by unfold bN;rfl] at e
  cases e;cases hx
 |0,_::_,_,e,_,_=>by cases e
 |f+1,n::l,d,e,x,hx=>by
  rw[bN] at e;by_cases z:0<=n/\2 * n.toNat<=l.length
  ·rw[if_pos z] at e;cases ec:cV (-1) blankCard (l.take (2 * n.toNat)) with
   |none=>rw[ec] at e;cases e
   |some y=>
    rw[ec] at e;cases ed:bN f (l.drop (2 * n.toNat)) with
    |none=>rw[ed] at e;cases e
    |some d'=>
     rw[ed] at e;have e':some (y::d')=some d:=e;cases e';rcases List.mem_cons.mp hx with rfl | hx
     ·exact pT _ _ _ _ Ar ec
     ·exact xw f _ d' ed x hx
  ·rw[if_neg z] at e;cases e
noncomputable def isW(x:Pt):Bool:=decide (x.1=0) || decide (x.1=1)
noncomputable def isK(x:Pt):Bool:=decide (x.1=2) || decide (x.1=3)
noncomputable def isT(x:Pt):Bool:=decide (x.1=4) || decide (x.1=5)
noncomputable def isS(x:Pt):Bool:=decide (x.1=6)
noncomputable def n0(x:Pt):Nat:=x.2.getD 0 0
noncomputable def n1(x:Pt):Nat:=x.2.getD 1 0
noncomputable def n2(x:Pt):Nat:=x.2.getD 2 0
noncomputable def n3(x:Pt):Nat:=x.2.getD 3 0
def toW(x:Pt):WhereBy:=⟨n0 x,n1 x,decide (x.1=0)⟩
def toK(x:Pt):KeyBy:=⟨n0 x,n1 x,n2 x,decide (x.1=2)⟩
def toT(x:Pt):TotalBy:=if x.1=4 then⟨false,n0 x,n1 x,n2 x,n3 x⟩ else⟨true,0,0,n0 x,n1 x⟩
def toS(x:Pt):SeenBy:=⟨n0 x,n1 x,n2 x⟩
theorem dO(x:Pt):(isW x=true/\rl x=.where_ (toW x))\/(isK x=true/\rl x=.key (toK x))\/(isT x=true/\rl x=.total (toT x))\/(isS x=true/\rl x=.seen (toS x))\/
  (7<=x.1/\rl x=.list (if x.1=7 then 1 else if x.1=8 then 2 else 0)):=by
 obtain⟨k,vs⟩:=x
 match k with
 |0=>exact .inl ⟨rfl,rfl⟩
 |1=>exact .inl ⟨rfl,rfl⟩
 |2=>exact .inr (.inl ⟨rfl,rfl⟩)
 |3=>exact .inr (.inl ⟨rfl,rfl⟩)
 |4=>exact .inr (.inr (.inl ⟨rfl,rfl⟩))
 |5=>exact .inr (.inr (.inl ⟨rfl,rfl⟩))
 |6=>exact .inr (.inr (.inr (.inl ⟨rfl,rfl⟩)))
 |7=>exact .inr (.inr (.inr (.inr ⟨by show 7<=7;omega,rfl⟩)))
 |8=>exact .inr (.inr (.inr (.inr ⟨by show 7<=8;omega,rfl⟩)))
 |9=>exact .inr (.inr (.inr (.inr ⟨by show 7<=9;omega,rfl⟩)))
 |k+10=>
  refine .inr (.inr (.inr (.inr ⟨by show 7<=k+10;omega,?_⟩)))
  show RLine.list 0=_;rw[if_neg (by show ¬k+10=7;omega),if_neg (by show ¬k+10=8;omega)]
theorem cz{x:Pt}:(isW x=true↔x.1=0\/x.1=1)/\(isK x=true↔x.1=2\/x.1=3)/\(isT x=true↔x.1=4\/x.1=5)/\(isS x=true↔x.1=6):=by
 unfold isW isK isT isS;simp
def gr(ps:List Pt):List Pt:=ps.filter isW
def br(ps:List Pt):List Pt:=ps.filter isK
def dn(ps:List Pt):List Pt:=ps.filter isT
def jx(ps:List Pt):List Pt:=ps.filter isS
theorem AZ{α:Type}(f:RLine->Option α)(p:Pt->Bool)(g:Pt->α)(h:∀x,p x=true->f (rl x)=some (g x))(h2:∀x,p x=false->f (rl x)=none):∀ps:List Pt,(ps.map rl).filterMap f=(ps.filter p).map g
 |[]=>rfl
 |x::ps=>by
  have ih:=AZ f p g h h2 ps;rw[List.map_cons,List.filterMap_cons,List.filter_cons];cases e:p x with
  |true=>
   rw[h x e,ih];rfl
  |false=>
   rw[h2 x e,ih];rfl
theorem B7(ps:List Pt):(reportOf (ps.map rl)).ws=(gr ps).map toW:=by
 refine AZ _ isW toW (fun x h=>?_) (fun x h=>?_) ps
 ·rcases dO x with⟨_,e⟩ | ⟨q,e⟩ | ⟨q,e⟩ | ⟨q,e⟩ | ⟨q,e⟩<;>have n:=@cz x
  ·rw[e]
  ·have:=n.1.mp h;have:=n.2.1.mp q;omega
  ·have:=n.1.mp h;have:=n.2.2.1.mp q;omega
  ·have:=n.1.mp h;have:=n.2.2.2.mp q;omega
  ·have:=n.1.mp h;omega
 ·rcases dO x with⟨q,e⟩ | ⟨q,e⟩ | ⟨q,e⟩ | ⟨q,e⟩ | ⟨q,e⟩
  ·rw[h] at q;cases q
  all_goals rw[e]
theorem ua(ps:List Pt):(reportOf (ps.map rl)).ks=(br ps).map toK:=by
 refine AZ _ isK toK (fun x h=>?_) (fun x h=>?_) ps
 ·rcases dO x with⟨q,e⟩ | ⟨q,e⟩ | ⟨q,e⟩ | ⟨q,e⟩ | ⟨q,e⟩<;>have n:=@cz x
  ·have:=n.2.1.mp h;have:=n.1.mp q;omega
  ·rw[e]
  ·have:=n.2.1.mp h;have:=n.2.2.1.mp q;omega
  ·have:=n.2.1.mp h;have:=n.2.2.2.mp q;omega
  ·have:=n.2.1.mp h;omega
 ·rcases dO x with⟨q,e⟩ | ⟨q,e⟩ | ⟨q,e⟩ | ⟨q,e⟩ | ⟨q,e⟩
  ·rw[e]
  ·rw[h] at q;cases q
  all_goals rw[e]
theorem EV(ps:List Pt):(reportOf (ps.map rl)).ts=(dn ps).map toT:=by
 refine AZ _ isT toT (fun x h=>?_) (fun x h=>?_) ps
 ·rcases dO x with⟨q,e⟩ | ⟨q,e⟩ | ⟨q,e⟩ | ⟨q,e⟩ | ⟨q,e⟩<;>have n:=@cz x
  ·have:=n.2.2.1.mp h;have:=n.1.mp q;omega
  ·have:=n.2.2.1.mp h;have:=n.2.1.mp q;omega
  ·rw[e]
  ·have:=n.2.2.1.mp h;have:=n.2.2.2.mp q;omega
  ·have:=n.2.2.1.mp h;omega
 ·rcases dO x with⟨q,e⟩ | ⟨q,e⟩ | ⟨q,e⟩ | ⟨q,e⟩ | ⟨q,e⟩
  ·rw[e]
  ·rw[e]
  ·rw[h] at q;cases q
  all_goals rw[e]
theorem Iu(ps:List Pt):(reportOf (ps.map rl)).ss=(jx ps).map toS:=by
 refine AZ _ isS toS (fun x h=>?_) (fun x h=>?_) ps
 ·rcases dO x with⟨q,e⟩ | ⟨q,e⟩ | ⟨q,e⟩ | ⟨q,e⟩ | ⟨q,e⟩<;>have n:=@cz x
  ·have:=n.2.2.2.mp h;have:=n.1.mp q;omega
  ·have:=n.2.2.2.mp h;have:=n.2.1.mp q;omega
  ·have:=n.2.2.2.mp h;have:=n.2.2.1.mp q;omega
  ·rw[e]
  ·have:=n.2.2.2.mp h;omega
 ·rcases dO x with⟨q,e⟩ | ⟨q,e⟩ | ⟨q,e⟩ | ⟨q,e⟩ | ⟨q,e⟩
  ·rw[e]
  ·rw[e]
  ·rw[e]
  ·rw[h] at q;cases q
  all_goals rw[e]
theorem DK:((List.range 4096).all fun h=>topOf h==if h=0 then 0 else h.log2+1)=true:=by decide +kernel
theorem Eu(h:Nat)(l:h<4096):topOf h=if h=0 then 0 else h.log2+1:=by
 have:=List.all_eq_true.mp DK h (List.mem_range.mpr l);exact eq_of_beq this
theorem uG{ps:List Pt}(h:∀j,j<ps.length->lineFine (ps.map rl) j=true)(ok:∀x∈ps,eB x)(s:Nat):∀i,i<=ps.length->cnt (ps.take i) s<=mostOf s
 |0,_=>by
  rw[List.take_zero];exact Nat.zero_le _
 |i+1,hi=>by
  have ih:=uG h ok s i (by omega)
  obtain⟨x,hx⟩:∃x,ps[i]?=some x:=⟨_,List.getElem?_eq_getElem (by omega)⟩
  rw[cH hx];by_cases e:aO x.1=s
  ·subst e;rw[iO];have hf:=h i (by omega)
   rw[kT hx (ok x (List.mem_of_getElem? hx)) fun j hj=>h j (by omega)] at hf
   unfold tm at hf;simp only[Bool.and_eq_true,Bool.not_eq_true',Bool.or_eq_false_iff,decide_eq_false_iff_not] at hf;omega
  ·have:cnt (ps.take i++[x]) s=cnt (ps.take i) s:=by
    unfold cnt;rw[List.filter_append,List.filter_cons,if_neg (by simpa using e),List.filter_nil,List.append_nil]
   rw[this];exact ih
theorem tj{b:Bytes}(h:g0 b=[])(s:Nat):cnt (bj b) s<=mostOf s:=by
 have:=uG (jZ h).1 (nj b) s _ (Nat.le_refl _);rw[List.take_length] at this;exact this
theorem m8(x:Pt):(isW x=decide (aO x.1=0))/\(isK x=decide (aO x.1=1))/\(isT x=decide (aO x.1=2))/\(isS x=decide (aO x.1=3)):=by
 obtain⟨k,vs⟩:=x;unfold isW isK isT isS aO;dsimp only
 match k with
 |0 | 1 | 2 | 3 | 4 | 5 | 6 | 7=>simp
 |k+8=>
  rw[if_neg (by omega),if_neg (by omega),if_neg (by omega),if_neg (by omega)]
  simp
theorem gA{b:Bytes}(h:g0 b=[]):(gr (bj b)).length<=16/\(br (bj b)).length<=3/\(dn (bj b)).length<=8/\(jx (bj b)).length<=16:=by
 have c:∀(p:Pt->Bool) (s:Nat),(∀x,p x=decide (aO x.1=s))->((bj b).filter p).length<=mostOf s:=fun p s e=>by
  have:=tj h s;unfold cnt at this;rw[show p=fun y=>aO y.1==s from funext fun x=>by rw[e x];rfl]
  exact this
 exact⟨c _ 0 fun x=>(m8 x).1,c _ 1 fun x=>(m8 x).2.1,c _ 2 fun x=>(m8 x).2.2.1,c _ 3 fun x=>(m8 x).2.2.2⟩
theorem xc{b:Bytes}(h:g0 b=[]):∃ini x,bj b=ini++[x]/\7<=x.1/\x.1<10/\∀y∈ini,y.1<7:=by
 have f:=(jZ h).2;rw[List.getLast?_map] at f;cases e:(bj b).getLast? with
 |none=>rw[e] at f;cases f
 |some x=>
  rw[e] at f;have f:some (rl x).sort=some 4:=f;rw[fF] at f;have f:=Option.some.inj f;obtain⟨ini,hp⟩:=List.getLast?_eq_some_iff.mp e;have s7:∀k:Nat,aO k=4↔7<=k:=fun k=>by
   unfold aO;split
   ·omega
   ·split
    ·omega
    ·split
     ·omega
     ·split
      ·omega
      ·omega
  refine⟨ini,x,hp,(s7 _).mp f,(nj b x (by rw[hp];simp)).1,fun y hy=>?_⟩
  have c:=tj h 4;rw[hp] at c;have c2:=iO ini x;rw[f] at c2;rw[c2] at c;have c3:cnt ini 4=0:=by
   have:mostOf 4=1:=rfl;omega
  have:¬aO y.1=4:=fun z=>by
   unfold cnt at c3;have:=List.length_eq_zero_iff.mp c3;rw[List.filter_eq_nil_iff] at this;exact this y hy (by simpa using z)
  rw[s7] at this;omega
noncomputable def fR(k:Nat):Nat:=if k=7 then 1 else if k=8 then 2 else 0
theorem D8{ini:List Pt}{x:Pt}(hx:7<=x.1)(hi:∀y∈ini,y.1<7):(reportOf ((ini++[x]).map rl)).list=fR x.1:=by
 show((((ini++[x]).map rl).findSome? fun(x:RLine)=>match x with
  |.list n=>some n
  |_=>none).getD 0)=_
 rw[List.map_append,List.findSome?_append];have e:((ini.map rl).findSome? fun(x:RLine)=>match x with
  |.list n=>some n
  |_=>none)=none:=by
  rw[List.findSome?_eq_none_iff];intro y hy;obtain⟨z,hz,rfl⟩:=List.mem_map.mp hy;rcases dO z with⟨q,e⟩ | ⟨q,e⟩ | ⟨q,e⟩ | ⟨q,e⟩ | ⟨q,e⟩
  ·rw[e]
  ·rw[e]
  ·rw[e]
  ·rw[e]
  ·have:=hi z hz;omega
 rw[e];rcases dO x with⟨q,e⟩ | ⟨q,e⟩ | ⟨q,e⟩ | ⟨q,e⟩ | ⟨q,e⟩
 ·have:=(@cz x).1.mp q;omega
 ·have:=(@cz x).2.1.mp q;omega
 ·have:=(@cz x).2.2.1.mp q;omega
 ·have:=(@cz x).2.2.2.mp q;omega
 ·rw[List.map_cons,List.map_nil,e];rfl
inductive Wd where
 |t (s:Bytes)
 |n (k:Nat)
noncomputable abbrev wx(s:String):Wd:=.t (ascii s)
abbrev Wr:=List Wd×List Wd
def dw(x:Pt)(i:Nat):List Wr:=
 [([wx "read",.n (n0 x)],[wx "look",.n i])]++((if x.1=0 then[([wx "hole",.n i,.n (n1 x)],[wx "by",.n (16+i)])]
  else[([wx "hole",.n i,.n (n1 x)],[wx "by",.n i]),([wx "send",.n 1],[wx "plain",.n i]),([wx "chosen",.n i],[wx "by",.n (16+i)])])++
 [if i=0 then([wx "send",.n 1],[wx "other",.n (16+i)]) else([wx "chosen",.n (16+i-1)],[wx "other",.n (16+i)])])
def eO(ws:List Pt):List Wr:=(ws.zipIdx.flatMap fun x=>dw x.1 x.2)++[if ws.length=0 then([wx "send",.n 1],[wx "to",.n 0]) else([wx "chosen",.n (15+ws.length)],[wx "to",.n 0])]
theorem Aw{α β:Type}(f:α->Nat->List β)(g:β->Bytes)(f2:α->Nat->Bytes)(h:∀x i,(f x i).flatMap g=f2 x i):∀(l:List α) (o:Nat),((l.zipIdx o).flatMap fun x=>f x.1 x.2).flatMap g=(l.zipIdx o).flatMap fun x=>f2 x.1 x.2
 |[],_=>rfl
 |a::l,o=>by
  rw[List.zipIdx_cons,List.flatMap_cons,List.flatMap_append,Aw f g f2 h l (o+1),h,List.flatMap_cons]
theorem wU{α β γ:Type}(t:α->β)(f:β->Nat->List γ):∀(l:List α) (o:Nat),(((l.map t).zipIdx o).flatMap fun x=>f x.1 x.2)=(l.zipIdx o).flatMap fun x=>f (t x.1) x.2
 |[],_=>rfl
 |a::l,o=>by
  rw[List.map_cons,List.zipIdx_cons,List.flatMap_cons,wU t f l (o+1),List.zipIdx_cons,List.flatMap_cons]
def i8(c l:Nat):List Wd:=[wx "pass",wx "C",.n c,.n l,wx ">",wx "C"]
noncomputable def dZ(k:Pt):List Nat:=if k.1=2 then(List.range 12).map fun r=>2 ^ r else[4095]
def dJ(k:Pt):List (List Wd):=(List.range (n1 k)).reverse.flatMap fun i=>(dZ k).map fun l=>i8 (n0 k+i) l
def E9(ks:List Pt):List (List Wd):=[wx "choose",wx "A",.n 0,wx ">",wx "B",wx "C"]::(ks.reverse.flatMap dJ++[[wx "account",wx "C",.n 0,.n 1,wx ">",wx "D"]])
noncomputable def bW(k:Nat):List Nat:=(List.range k).map (fun l=>l+1)++[4]
def gy(ks:List Pt)(lst strange:Nat):List Nat:=ks.reverse.flatMap (fun k=>[n0 k,n1 k])++List.replicate (6-2 * ks.length) 0++[lst,0,strange]
def dW(t:Pt)(l:Nat):List Nat:=if t.1=5 then[l,2,0,0,0,0] else[l,0,n0 t,n1 t,0,0]
def bV(k:Nat)(ts:List Pt):List (List Nat):=(bW k).flatMap fun l=>ts.map fun t=>dW t l
def eN(x:Pt)(l:Nat):List Nat:=[l,0,n0 x,n1 x,n2 x,0]
def atT(t:Pt):Nat:=if t.1=5 then n0 t else n2 t
def wT(t:Pt):Nat:=if t.1=5 then n1 t else n3 t
noncomputable def ft(ks:List Pt)(l:Nat):List Pt:=if l=4 then[] else ks.take (ks.length+1-l)
def di(ts:List Pt)(l c:Nat):List (List Nat):=ts.zipIdx.map fun t=>[l,1,c+t.2,0,atT t.1,wT t.1]
def dE(ks ts ss:List Pt):List (List Nat):=(ss.map fun x=>eN x 0)++(bW ks.length).zipIdx.flatMap fun l=>((ft ks l.1).map fun k=>eN k l.1)++di ts l.1 (l.2 * ts.length)
theorem EB{t:Pt}(h:isT t=true):(toT t).one=decide (t.1=5)/\(toT t).at_=atT t/\(toT t).w=wT t/\(t.1≠5->(toT t).c=n0 t/\(toT t).n=n1 t)/\(t.1=5->(toT t).c=0/\(toT t).n=0):=by
 have:=(@cz t).2.2.1.mp h;unfold toT atT wT;rcases this with e | e
 ·rw[if_pos e,if_neg (by omega),if_neg (by omega)]
  exact⟨by simp[e],rfl,rfl,fun _=>⟨rfl,rfl⟩,fun z=>by omega⟩
 ·rw[if_neg (by omega),if_pos e,if_pos e]
  exact⟨by simp[e],rfl,rfl,fun z=>absurd e z,fun _=>⟨rfl,rfl⟩⟩
theorem Av{ps:List Pt}{t:Pt}(h:t∈dn ps):isT t=true:=(List.mem_filter.mp h).2
noncomputable def kW(ns:List Int):Bool:=decide (ns.length=64)&&decide (ns.Nodup)
noncomputable def bI(b:Bytes):List Int:=b.map fun c=>((c.toNat:Nat):Int)
noncomputable def gK(ps:List Pt):Nat:=(ps.getLast?.map fun x=>x.1).getD 0
theorem sP{p:Nat->Bool}{n:Nat}(h:∀i,i<n->p i=false):(List.range n).find? p=none:=by
 rw[List.find?_eq_none];intro i hi;rw[h i (List.mem_range.mp hi)];exact Bool.false_ne_true
theorem Fv{a b:Int}(ha:0<=a/\a<=255)(hb:0<=b/\b<=255)(e:UInt8.ofNat a.toNat=UInt8.ofNat b.toNat):a=b:=by
 have:=congrArg UInt8.toNat e;rw[UInt8.toNat_ofNat',UInt8.toNat_ofNat'] at this;omega
theorem pA(ns:List Int)(i:Nat)(h:i<ns.length):(ReportsNeutral.text ns).getD i 0=UInt8.ofNat (ns[i]).toNat:=by
 unfold ReportsNeutral.text;rw[List.getD_eq_getElem?_getD,List.getElem?_map,List.getElem?_eq_getElem h];rfl
theorem FW(ns:List Int)(hn:∀n∈ns,0<=n/\n<=255):isLegend (ReportsNeutral.text ns)=kW ns:=by
 unfold isLegend kW;have hl:(ReportsNeutral.text ns).length=ns.length:=by unfold ReportsNeutral.text;rw[List.length_map]
 rw[hl];by_cases e:ns.length=64
 ·rw[show(ns.length==NUMBERS)=true by rw[e];rfl,decide_eq_true e,Bool.true_and,Bool.true_and]
  have key:∀i,i<ns.length->(((ReportsNeutral.text ns).take i).contains ((ReportsNeutral.text ns).getD i 0)=true↔∃j,j<i/\ns[j]?=ns[i]?):=fun i hi=>by
   rw[pA ns i hi,List.contains_iff_mem];unfold ReportsNeutral.text;rw[<-List.map_take,List.mem_map];constructor
   ·rintro⟨m,hm,em⟩;obtain⟨j,hj,rfl⟩:=List.getElem_of_mem hm;rw[List.length_take] at hj;rw[List.getElem_take] at em;refine⟨j,by omega,?_⟩
    rw[List.getElem?_eq_getElem (by omega),List.getElem?_eq_getElem hi,Fv (hn _ (List.getElem_mem _)) (hn _ (List.getElem_mem _)) em]
   ·rintro⟨j,hj,ej⟩;rw[List.getElem?_eq_getElem (by omega),List.getElem?_eq_getElem hi] at ej
    have ej:=Option.some.inj ej;refine⟨ns[i],?_,rfl⟩;rw[<-ej];exact List.mem_take_iff_getElem.mpr ⟨j,by omega,rfl⟩
  by_cases nd:ns.Nodup
  ·rw[decide_eq_true nd];have:double? (ReportsNeutral.text ns)=none:=by
    unfold double?;rw[hl];refine sP fun i hi=>?_
    cases q:((ReportsNeutral.text ns).take i).contains ((ReportsNeutral.text ns).getD i 0) with
    |false=>rfl
    |true=>
     obtain⟨j,hj,ej⟩:=(key i hi).mp q;rw[List.getElem?_eq_getElem (by omega),List.getElem?_eq_getElem hi] at ej
     have:=(List.getElem_inj nd).mp (Option.some.inj ej);omega
   rw[this];rfl
  ·rw[decide_eq_false nd];cases q:double? (ReportsNeutral.text ns) with
   |some i=>rfl
   |none=>
    exfalso
    apply nd;unfold double? at q;rw[hl,List.find?_eq_none] at q;rw[List.nodup_iff_pairwise_ne,List.pairwise_iff_getElem];intro i j hi hj hij ee;refine q j (List.mem_range.mpr hj) ((key j hj).mpr ⟨i,hij,?_⟩);rw[List.getElem?_eq_getElem hi,List.getElem?_eq_getElem hj,ee]
 ·rw[show(ns.length==NUMBERS)=false from beq_eq_false_iff_ne.mpr e,decide_eq_false e]
  rfl
noncomputable def onI(b:List Int)(i:Nat)(t:List Int):List Int:=b.take i++(t++b.drop (i+t.length))
noncomputable def fg:List Int:=List.replicate 132 32
noncomputable def lu(lg:List Int)(s:Int)(h:Nat):Int:=match coded h with
 |some k=>lg.getD k 0
 |none=>s
def vM(v:Int)(w:Nat):List Int:=bI (inPlaces v w)
section
variable{lg:List Int}{s:Int}
theorem F1{n:Int}(h:0<=n/\n<=255):(((UInt8.ofNat n.toNat).toNat:Nat):Int)=n:=by
 rw[UInt8.toNat_ofNat'];omega
theorem Az{h k:Nat}(e:coded h=some k):k<64:=List.mem_range.mp (List.mem_of_find?_eq_some e)
theorem BW(hl:∀n∈lg,0<=n/\n<=255)(h64:lg.length=64)(hs:0<=s/\s<=255)(y:Card)(c n:Nat):bI (textOf y c n (ReportsNeutral.text lg) (UInt8.ofNat s.toNat))=(fieldOf y c n).map (lu lg s):=by
 unfold bI textOf;rw[List.map_map];apply List.map_congr_left;intro h _;unfold lu;show(((match coded h with
  |some k=>(ReportsNeutral.text lg).getD k 0
  |none=>UInt8.ofNat s.toNat).toNat:Nat):Int)=_
 cases q:coded h with
 |none=>exact F1 hs
 |some k=>
  have hk:k<lg.length:=by rw[h64];exact Az q
  show(((ReportsNeutral.text lg).getD k 0).toNat:Int)=lg.getD k 0;rw[pA lg k hk,F1 (hl _ (List.getElem_mem hk)),List.getD_eq_getElem?_getD,List.getElem?_eq_getElem hk];rfl
theorem Ig(b t:Bytes)(i:Nat):bI (onLine b i t)=onI (bI b) i (bI t):=by
 unfold bI onLine onI;rw[List.map_append,List.map_append,List.map_take,List.map_drop,List.length_map]
theorem BO:bI blanks=fg:=by
 unfold bI blanks fg PLACES;rw[List.map_replicate];rfl
end
noncomputable def fvL:List Nat->Int->Bool->Option Int
 |[],v,_=>some v
 |h::r,v,b=>match figureOf h with
  |some d=>fvL r (v * 10+(d:Int)) true
  |none=>if(b || decide (h≠0))=true then none else fvL r v b
def fvM(ini:List Nat)(g:Nat):Option Int:=(fvL ini 0 false).bind fun v=>(figureOf g).map fun d=>v * 10+(d:Int)
def Gb(ini:List Nat)(h:Nat):Option Int:=if h.testBit 1=true then(match fvM ini (h-2) with
 |none=>none
 |some v=>if v=0 then none else some (-v)) else fvM ini h
theorem Ji:figureOf 0=none:=by decide +kernel
noncomputable def ze(l:List Nat)(v:Int):Int:=l.foldl (fun(n:Int) (d:Nat)=>n * 10+(d:Int)) v
theorem C3(l:List Nat)(v:Nat):ze l (v:Int)=((l.foldl (fun n d=>10 * n+d) v:Nat):Int):=by
 induction l generalizing v with
 |nil=>rfl
 |cons d l ih=>
  have e:(v:Int) * 10+(d:Int)=((10 * v+d:Nat):Int):=by omega
  show ze l ((v:Int) * 10+(d:Int))=_;rw[e,ih];rfl
theorem tE:∀(l:List Nat) (v:Int),fvL l v true=if((l.map figureOf).all fun y=>y.isSome)=true then some (ze ((l.map figureOf).filterMap fun y=>y) v) else none
 |[],_=>rfl
 |h::r,v=>by
  unfold fvL;cases q:figureOf h with
  |none=>
   rw[List.map_cons,List.all_cons,q];rfl
  |some d=>
   show fvL r (v * 10+(d:Int)) true=_;rw[tE r,List.map_cons,List.all_cons,q,List.filterMap_cons];rfl
theorem F9:∀(l:List Nat),fvL l 0 false=if(((behindBlanks l).map figureOf).all fun y=>y.isSome)=true then some (ze (((behindBlanks l).map figureOf).filterMap fun y=>y) 0) else none
 |[]=>rfl
 |h::r=>by
  unfold fvL;by_cases h0:h=0
  ·subst h0;rw[Ji];show(if(false || decide (0≠0))=true then none else fvL r 0 false)=_
   rw[if_neg (by simp),F9 r]
   rfl
  ·have e:behindBlanks (h::r)=h::r:=by
    unfold behindBlanks;rw[List.dropWhile_cons,if_neg (by simpa using h0)]
   rw[e];cases q:figureOf h with
   |none=>
    show(if(false || decide (h≠0))=true then none else fvL r 0 false)=_
    rw[if_pos (by simpa using h0),List.map_cons,List.all_cons,q]
    rfl
   |some d=>
    show fvL r (0 * 10+(d:Int)) true=_;rw[tE r,List.map_cons,List.all_cons,q,List.filterMap_cons];rfl
theorem Gx(ini:List Nat)(h:Nat):amountOf (ini++[h])=Gb ini h:=by
 have hb:behindBlanks (ini++[h])=if behindBlanks ini=[]/\h=0 then[] else behindBlanks ini++[h]:=by
  unfold behindBlanks;rw[List.dropWhile_append];cases q:ini.dropWhile fun h=>h==0 with
  |nil=>
   by_cases h0:h=0
   ·subst h0;simp
   ·simp[h0]
  |cons a l=>simp
 have key:∀g:Nat,fvM ini g=if(((behindBlanks ini++[g]).map figureOf).all fun y=>y.isSome)=true then some ((ten (((behindBlanks ini++[g]).map figureOf).filterMap fun y=>y):Nat):Int) else none:=fun g=>by
  unfold fvM;rw[F9,List.map_append,List.all_append,List.filterMap_append];cases q:((behindBlanks ini).map figureOf).all fun y=>y.isSome with
  |false=>
   rw[Bool.false_and];rfl
  |true=>
   rw[Bool.true_and,if_pos rfl];cases f:figureOf g with
   |none=>
    show none=if(([g].map figureOf).all fun y=>y.isSome)=true then _ else none
    rw[List.map_cons,List.all_cons,f];rfl
   |some d=>
    show some (ze _ 0 * 10+(d:Int))=if(([g].map figureOf).all fun y=>y.isSome)=true then _ else none
    rw[List.map_cons,List.all_cons,f];show some _=some _;congr 1;have:=C3 (((behindBlanks ini).map figureOf).filterMap fun y=>y) 0
    have this:ze (((behindBlanks ini).map figureOf).filterMap fun y=>y) 0=_:=this
    rw[this];unfold ten;rw[List.foldl_append];show _=((10 * _+d:Nat):Int);omega
 unfold amountOf Gb;rw[hb];by_cases c:behindBlanks ini=[]/\h=0
 ·rw[if_pos c];obtain⟨c1,rfl⟩:=c;rw[if_neg (by decide),key,c1]
  rfl
 ·rw[if_neg c];dsimp only;rw[List.getLast?_concat,List.dropLast_concat];dsimp only;by_cases m:h.testBit 1=true
  ·rw[if_pos m,if_pos m,if_pos m,key];split
   ·rename_i a
    split
    ·rename_i n0
     rw[n0];rfl
    ·rename_i n0
     show some (-_)=if _ then none else some (-_)
     rw[if_neg (by omega)]
   ·rfl
  ·rw[if_neg m,if_neg m,if_neg m,key]
noncomputable def hub(w:Wire):Nat:=256 * w.into+w.k
noncomputable def reads(w:Wire):List Nat:=match w.kind with
 |5=>[256 * 2+w.n]
 |6=>[256 * 3+w.n,256 * 5+w.n,256 * 4+w.n]
 |_=>[]
def WOk(w:Wire):Prop:=(w.kind=0\/w.kind=1\/w.kind=5\/w.kind=6)/\w.n<256/\w.into<8/\w.k<256
def cZ(x:Card)(l:List Wire):Array Nat->Array Nat:=carried l x []
theorem jU(x:Card)(l:List Wire):∀(f:Nat) (t:Array Nat),settled l x [] f t=Nat.repeat (cZ x l) f t
 |0,_=>rfl
 |f+1,t=>by
  have fix:∀n (t:Array Nat),cZ x l t=t->Nat.repeat (cZ x l) n t=t:=fun n t h=>by
   induction n with
   |zero=>rfl
   |succ n ih=>
    show cZ x l (Nat.repeat (cZ x l) n t)=t;rw[ih,h]
  have comm:∀n (t:Array Nat),Nat.repeat (cZ x l) (n+1) t=Nat.repeat (cZ x l) n (cZ x l t):=fun n=>by
   induction n with
   |zero=>intro t;rfl
   |succ n ih=>
    intro t;show cZ x l (Nat.repeat (cZ x l) (n+1) t)=cZ x l (Nat.repeat (cZ x l) n (cZ x l t));rw[ih]
  show(if carried l x [] t==t then t else settled l x [] f (carried l x [] t))=_
  by_cases h:carried l x [] t==t
  ·rw[if_pos h];exact(fix _ _ (eq_of_beq h)).symm
  ·rw[if_neg h,jU x l f,comm];rfl
noncomputable def lF(x:Card)(t:Flow)(l:List Wire)(u:Array Nat):Array Nat:=l.foldl (fun u w=>u.setIfInBounds (256 * w.into+w.k) (sent x [] t w)) u
theorem vq(x:Card)(t:Flow):∀(l:List Wire) (u:Array Nat),(lF x t l u).size=u.size
 |[],_=>rfl
 |w::l,u=>by
  show(lF x t l (u.setIfInBounds (256 * w.into+w.k) (sent x [] t w))).size=_;rw[vq x t l];simp
theorem kC(x:Card)(t:Flow):∀(l:List Wire) (u:Array Nat) (h:Nat),(∀w∈l,hub w≠h)->(lF x t l u).getD h 0=u.getD h 0
 |[],_,_,_=>rfl
 |w::l,u,h,n=>by
  show(lF x t l (u.setIfInBounds (256 * w.into+w.k) (sent x [] t w))).getD h 0=_;rw[kC x t l _ h fun v hv=>n v (by simp[hv])]
  have:=n w (by simp)
  unfold hub at this;simp[Array.getD_eq_getD_getElem?,Array.getElem?_setIfInBounds,this]
theorem uc(x:Card)(t:Flow):∀(l:List Wire) (u:Array Nat) (i:Nat) (w:Wire),l[i]?=some w->(l.map hub).Nodup->hub w<u.size->(lF x t l u).getD (hub w) 0=sent x [] t w
 |[],_,i,_,e,_,_=>by cases i<;>cases e
 |v::l,u,0,w,e,nd,hs=>by
  cases e;show(lF x t l (u.setIfInBounds (256 * v.into+v.k) (sent x [] t v))).getD (hub v) 0=_;rw[List.map_cons,List.nodup_cons] at nd;rw[kC x t l _ _ fun y hy z=>nd.1 (List.mem_map.mpr ⟨y,hy,z⟩)]
  unfold hub at hs ⊢;simp[Array.getD_eq_getD_getElem?,Array.getElem?_setIfInBounds,hs]
 |v::l,u,i+1,w,e,nd,hs=>by
  show(lF x t l (u.setIfInBounds (256 * v.into+v.k) (sent x [] t v))).getD (hub w) 0=_;rw[List.map_cons,List.nodup_cons] at nd;exact uc x t l _ i w e nd.2 (by simpa using hs)
theorem wV(x:Card)(w:Wire)(ok:WOk w)(t u:Array Nat)(h:∀k∈reads w,t.getD k 0=u.getD k 0):sent x [] (flowOf t) w=sent x [] (flowOf u) w:=by
 obtain⟨kd,hn,_,_⟩:=ok;have fl:∀into,256 * into+w.n∈reads w->flowOf t into w.n=flowOf u into w.n:=fun into m=>by
  show(if w.n<256 then t.getD (256 * into+w.n) 0 else 0)=if w.n<256 then u.getD (256 * into+w.n) 0 else 0
  rw[if_pos hn,if_pos hn];exact h _ m
 unfold sent;rcases kd with e | e | e | e
 ·rw[e];rfl
 ·rw[e];rfl
 ·have m2:256 * 2+w.n∈reads w:=by unfold reads;rw[e];simp
  rw[e,fl 2 m2];rfl
 ·have m3:256 * 3+w.n∈reads w:=by unfold reads;rw[e];simp
  have m4:256 * 4+w.n∈reads w:=by unfold reads;rw[e];simp
  have m5:256 * 5+w.n∈reads w:=by unfold reads;rw[e];simp
  rw[e,fl 3 m3,fl 4 m4,fl 5 m5];rfl
structure jN(l:List Wire):Prop where
 ok:∀w∈l,WOk w
 nd:(l.map hub).Nodup
 bf:∀(i j:Nat) (v w:Wire),l[i]?=some v->l[j]?=some w->i<=j->hub w ∉ reads v
noncomputable def cW(x:Card)(l:List Wire)(u:Array Nat):Array Nat:=l.foldl (fun u w=>u.setIfInBounds (256 * w.into+w.k) (sent x [] (flowOf u) w)) u
theorem kH(x:Card):∀(l:List Wire) (u:Array Nat),(cW x l u).size=u.size
 |[],_=>rfl
 |w::l,u=>by
  show(cW x l (u.setIfInBounds (256 * w.into+w.k) (sent x [] (flowOf u) w))).size=_;rw[kH x l];simp
theorem jR(x:Card):∀(l:List Wire) (u:Array Nat) (h:Nat),(∀w∈l,hub w≠h)->(cW x l u).getD h 0=u.getD h 0
 |[],_,_,_=>rfl
 |w::l,u,h,n=>by
  show(cW x l (u.setIfInBounds (256 * w.into+w.k) (sent x [] (flowOf u) w))).getD h 0=_;rw[jR x l _ h fun v hv=>n v (by simp[hv])]
  have:=n w (by simp)
  unfold hub at this;simp[Array.getD_eq_getD_getElem?,Array.getElem?_setIfInBounds,this]
theorem Ac{w:Wire}(h:WOk w):hub w<2048:=by
 obtain⟨_,_,a,b⟩:=h;unfold hub;omega
theorem zD(x:Card)(l:List Wire)(S:jN l)(i:Nat)(w:Wire)(e:l[i]?=some w):(cW x l noFlow).getD (hub w) 0=sent x [] (flowOf (cW x l noFlow)) w:=by
 have il:=(List.getElem?_eq_some_iff.mp e).1;have sp:l=l.take i++w::l.drop (i+1):=by
  have:=List.take_append_drop i l;rw[List.drop_eq_getElem_cons il,(List.getElem?_eq_some_iff.mp e).2] at this;exact this.symm
 have ok:=S.ok w (List.mem_of_getElem? e);have later:∀v∈l.drop (i+1),∃j,i<j/\l[j]?=some v:=fun v hv=>by
  obtain⟨j,hj⟩:=List.getElem?_of_mem hv;rw[List.getElem?_drop] at hj;exact⟨i+1+j,by omega,hj⟩
 have off:∀v∈l.drop (i+1),hub v≠hub w:=fun v hv z=>by
  obtain⟨j,lt,hj⟩:=later v hv;have e1:(l.map hub)[i]?=some (hub w):=by rw[List.getElem?_map,e];rfl
  have e2:(l.map hub)[j]?=some (hub w):=by rw[List.getElem?_map,hj,<-z];rfl
  have:=(List.getElem?_inj (by rw[List.length_map];exact il) S.nd).mp (e1.trans e2.symm)
  omega
 have all:cW x l noFlow=cW x (l.drop (i+1)) ((cW x (l.take i) noFlow).setIfInBounds (256 * w.into+w.k) (sent x [] (flowOf (cW x (l.take i) noFlow)) w)):=by
  unfold cW
  conv=>lhs;rw[sp,List.foldl_append,List.foldl_cons]
 have sz:(cW x (l.take i) noFlow).size=2048:=by
  rw[kH];unfold noFlow;rw[Array.size_replicate]
 have v1:(cW x l noFlow).getD (hub w) 0=sent x [] (flowOf (cW x (l.take i) noFlow)) w:=by
  rw[all,jR x _ _ _ off];have:=Ac ok;unfold hub at this ⊢;simp[Array.getD_eq_getD_getElem?,Array.getElem?_setIfInBounds,sz,this]
 rw[v1];refine wV x w ok _ _ fun k hk=>?_
 have nk:∀v∈l.drop (i+1),hub v≠k:=fun v hv z=>by
  obtain⟨j,lt,hj⟩:=later v hv;exact S.bf i j w v e hj (by omega) (z ▸ hk)
 have nw:256 * w.into+w.k≠k:=fun z=>S.bf i i w w e e (Nat.le_refl _) (by unfold hub;rw[z];exact hk)
 rw[all,jR x _ _ _ nk];simp[Array.getD_eq_getD_getElem?,Array.getElem?_setIfInBounds,nw]
theorem A2(x:Card)(l:List Wire)(S:jN l):∀(n i:Nat) (w:Wire),l[i]?=some w->i<n->(Nat.repeat (cZ x l) n noFlow).getD (hub w) 0=(cW x l noFlow).getD (hub w) 0
 |0,_,_,_,h=>absurd h (Nat.not_lt_zero _)
 |n+1,i,w,e,h=>by
  show(lF x (flowOf (Nat.repeat (cZ x l) n noFlow)) l noFlow).getD (hub w) 0=_;have ok:=S.ok w (List.mem_of_getElem? e);rw[uc x _ l noFlow i w e S.nd (by have:=Ac ok;unfold noFlow;rw[Array.size_replicate];exact this),zD x l S i w e]
  refine wV x w ok _ _ fun k hk=>?_
  by_cases q:∃(j:Nat) (v:Wire),l[j]?=some v/\hub v=k
  ·obtain⟨j,v,hj,rfl⟩:=q;have lt:j<i:=by
    by_cases z:i<=j
    ·exact absurd hk (S.bf i j w v e hj z)
    ·omega
   exact A2 x l S n j v hj (by omega)
  ·have no:∀v∈l,hub v≠k:=fun v hv z=>by
    obtain⟨j,hj⟩:=List.getElem?_of_mem hv;exact q ⟨j,v,hj,z⟩
   rw[jR x l _ _ no];cases n with
   |zero=>rfl
   |succ n=>exact kC x _ l noFlow k no
theorem yY(x:Card)(l:List Wire)(S:jN l)(i:Nat)(w:Wire)(e:l[i]?=some w)(h0:hub w=0):gets l x=((cW x l noFlow).getD 0 0 != 0):=by
 have il:=(List.getElem?_eq_some_iff.mp e).1;have:=A2 x l S (l.length+2) i w e (by omega)
 unfold gets flow;show(flowOf (settled l x [] (l.length+2) noFlow) 0 0 != 0)=_;rw[jU];show((Nat.repeat (cZ x l) (l.length+2) noFlow).getD 0 0 != 0)=_;rw[h0] at this;rw[this]
theorem yb:jN []:=⟨fun _ h=>(by cases h),List.nodup_nil,fun i j v w e=>by cases i<;>cases e⟩
theorem uY{l:List Wire}{w:Wire}(S:jN l)(ok:WOk w)(n1:∀v∈l,hub v≠hub w)(n2:∀v∈l,hub w ∉ reads v)(n3:hub w ∉ reads w):jN (l++[w]):=by
 refine⟨fun v hv=>?_,?_,fun i j v y e1 e2 ij=>?_⟩
 ·rcases List.mem_append.mp hv with z | z
  ·exact S.ok v z
  ·rw[List.mem_singleton.mp z];exact ok
 ·rw[List.map_append];refine List.nodup_append.mpr ⟨S.nd,by simp,fun a ha b hb=>?_⟩
  obtain⟨v,hv,rfl⟩:=List.mem_map.mp ha;rw[List.map_singleton,List.mem_singleton] at hb;rw[hb];exact n1 v hv
 ·have jl:j<(l++[w]).length:=(List.getElem?_eq_some_iff.mp e2).1;rw[List.length_append,List.length_singleton] at jl;by_cases q:j<l.length
  ·rw[List.getElem?_append_left q] at e2;rw[List.getElem?_append_left (by omega)] at e1
   exact S.bf i j v y e1 e2 ij
  ·have ej:j=l.length:=by omega
   subst ej;rw[List.getElem?_append_right (Nat.le_refl _),Nat.sub_self] at e2;cases e2;by_cases q:i<l.length
   ·rw[List.getElem?_append_left q] at e1;exact n2 v (List.mem_of_getElem? e1)
   ·have ei:i=l.length:=by omega
    subst ei;rw[List.getElem?_append_right (Nat.le_refl _),Nat.sub_self] at e1;cases e1;exact n3
def CN(m h:Nat):Prop:=∃j,j<m/\(h=512+j\/h=768+j\/h=1024+j\/h=784+j\/h=1296+j)
def xj(m h:Nat):Prop:=∃j,j<m/\(h=512+j\/h=768+j\/h=1280+j\/h=1024+j\/(1<=j/\(h=783+j\/h=1295+j\/h=1039+j)))
structure SX(A B:Nat->Prop)(l:List Wire):Prop where
 s:jN l
 h:∀v∈l,A (hub v)
 r:∀v∈l,∀k∈reads v,B k
theorem SX.mono{A B A' B':Nat->Prop}{l:List Wire}(S:SX A B l)(a:∀h,A h->A' h)(b:∀h,B h->B' h):SX A' B' l:=⟨S.s,fun v hv=>a _ (S.h v hv),fun v hv k hk=>b _ (S.r v hv k hk)⟩
theorem SX.snoc{A B:Nat->Prop}{l:List Wire}(S:SX A B l)(w:Wire)(h:Nat)(rs:List Nat)(eh:hub w=h)(er:reads w=rs)(ok:WOk w)(n1:¬A h)(n2:¬B h)(n3:h ∉ rs):SX (fun q=>A q\/q=h) (fun q=>B q\/q∈rs) (l++[w]):=by
 subst eh er;refine⟨uY S.s ok (fun v hv z=>n1 (z ▸ S.h v hv)) (fun v hv z=>n2 (S.r v hv _ z)) n3,fun v hv=>?_,fun v hv k hk=>?_⟩
 ·rcases List.mem_append.mp hv with z | z
  ·exact .inl (S.h v z)
  ·rw[List.mem_singleton.mp z];exact .inr rfl
 ·rcases List.mem_append.mp hv with z | z
  ·exact .inl (S.r v z k hk)
  ·rw[List.mem_singleton.mp z] at hk;exact .inr hk
theorem uu{m:Nat}{l:List Wire}(S:SX (CN m) (xj m) l)(hm:m<16)(x:WhereBy)(hc:x.c<256):SX (CN (m+1)) (xj (m+1)) (l++whereWires x m):=by
 have s1:=S.snoc ⟨0,x.c,0,2,m⟩ (512+m) [] rfl rfl ⟨.inl rfl,hc,(by decide:2<8),(by show m<256;omega)⟩ (by rintro ⟨j,a,b⟩;exact by omega) (by rintro ⟨j,a,b⟩;exact by omega) (by simp)
 have last:∀{A B:Nat->Prop} {l:List Wire},SX A B l->¬A (1296+m)->¬B (1296+m)->SX (fun q=>A q\/q=1296+m) (fun q=>B q\/(1<=m/\(q=783+m\/q=1295+m\/q=1039+m))) (l++[if m=0 then(⟨1,1,0,5,16⟩:Wire) else⟨6,15+m,0,5,16+m⟩]):=fun {A B l} S a b=>by
  by_cases m0:m=0
  ·rw[if_pos m0];refine(S.snoc ⟨1,1,0,5,16⟩ (1296+m) [] (by rw[m0];rfl) rfl ⟨.inr (.inl rfl),(by decide:1<256),(by decide:5<8),(by decide:16<256)⟩ a b (by simp)).mono (fun _ h=>h) fun q h=>?_
   rcases h with h | h
   ·exact .inl h
   ·cases h
  ·rw[if_neg m0];refine(S.snoc ⟨6,15+m,0,5,16+m⟩ (1296+m) [256 * 3+(15+m),256 * 5+(15+m),256 * 4+(15+m)] (by show 256 * 5+(16+m)=_;omega) rfl ⟨.inr (.inr (.inr rfl)),(by show 15+m<256;omega),(by decide:5<8),(by show 16+m<256;omega)⟩ a b (by simp<;>omega)).mono (fun _ h=>h) fun q h=>?_
   rcases h with h | h
   ·exact .inl h
   ·simp at h;exact .inr (by omega)
 unfold whereWires;rw[<-List.append_assoc,<-List.append_assoc];by_cases y:x.yes=true
 ·rw[if_pos y];have s2:=s1.snoc ⟨5,m,x.r,3,16+m⟩ (784+m) [512+m] (by show 256 * 3+(16+m)=_;omega) rfl ⟨.inr (.inr (.inl rfl)),(by show m<256;omega),(by decide:3<8),(by show 16+m<256;omega)⟩ (fun h=>by rcases h with⟨j,a,b⟩ | h<;>omega) (fun h=>by rcases h with⟨j,a,b⟩ | h<;>first | omega | (simp at h;done) | (simp at h;omega)) (by simp<;>omega)
  refine(last s2 (fun h=>by rcases h with(⟨j,a,b⟩ | h) | h<;>omega) (fun h=>by rcases h with(⟨j,a,b⟩ | h) | h<;>first | omega | (simp at h;done) | (simp at h;omega))).mono (fun q h=>?_) fun q h=>?_
  ·rcases h with((⟨j,a,b⟩ | h) | h) | h
   ·exact⟨j,Nat.lt_succ_of_lt a,b⟩
   ·exact⟨m,Nat.lt_succ_self m,.inl h⟩
   ·exact⟨m,Nat.lt_succ_self m,.inr (.inr (.inr (.inl h)))⟩
   ·exact⟨m,Nat.lt_succ_self m,.inr (.inr (.inr (.inr h)))⟩
  ·rcases h with((⟨j,a,b⟩ | h) | h) | h
   ·exact⟨j,Nat.lt_succ_of_lt a,b⟩
   ·cases h
   ·exact⟨m,Nat.lt_succ_self m,.inl (List.mem_singleton.mp h)⟩
   ·exact⟨m,Nat.lt_succ_self m,.inr (.inr (.inr (.inr h)))⟩
 ·rw[if_neg y];have s2:=s1.snoc ⟨5,m,x.r,3,m⟩ (768+m) [512+m] rfl rfl ⟨.inr (.inr (.inl rfl)),(by show m<256;omega),(by decide:3<8),(by show m<256;omega)⟩ (fun h=>by rcases h with⟨j,a,b⟩ | h<;>omega) (fun h=>by rcases h with⟨j,a,b⟩ | h<;>first | omega | (simp at h;done) | (simp at h;omega)) (by simp)
  have s3:=s2.snoc ⟨1,1,0,4,m⟩ (1024+m) [] rfl rfl ⟨.inr (.inl rfl),(by decide:1<256),(by decide:4<8),(by show m<256;omega)⟩ (fun h=>by rcases h with(⟨j,a,b⟩ | h) | h<;>omega) (fun h=>by rcases h with(⟨j,a,b⟩ | h) | h<;>first | omega | (simp at h;done) | (simp at h;omega)) (by simp)
  have s4:=s3.snoc ⟨6,m,0,3,16+m⟩ (784+m) [768+m,1280+m,1024+m] (by show 256 * 3+(16+m)=_;omega) rfl ⟨.inr (.inr (.inr rfl)),(by show m<256;omega),(by decide:3<8),(by show 16+m<256;omega)⟩ (fun h=>by rcases h with((⟨j,a,b⟩ | h) | h) | h<;>omega) (fun h=>by rcases h with((⟨j,a,b⟩ | h) | h) | h<;>first | omega | (simp at h;done) | (simp at h;omega)) (by simp<;>omega)
  rw[show((l++[(⟨0,x.c,0,2,m⟩:Wire)])++[(⟨5,m,x.r,3,m⟩:Wire),⟨1,1,0,4,m⟩,⟨6,m,0,3,16+m⟩])=(((l++[(⟨0,x.c,0,2,m⟩:Wire)])++[(⟨5,m,x.r,3,m⟩:Wire)])++[(⟨1,1,0,4,m⟩:Wire)])++[(⟨6,m,0,3,16+m⟩:Wire)] by simp]
  refine(last s4 (fun h=>by rcases h with(((⟨j,a,b⟩ | h) | h) | h) | h<;>omega) (fun h=>by rcases h with(((⟨j,a,b⟩ | h) | h) | h) | h<;>first | omega | (simp at h;done) | (simp at h;omega))).mono (fun q h=>?_) fun q h=>?_
  ·rcases h with((((⟨j,a,b⟩ | h) | h) | h) | h) | h
   ·exact⟨j,Nat.lt_succ_of_lt a,b⟩
   ·exact⟨m,Nat.lt_succ_self m,.inl h⟩
   ·exact⟨m,Nat.lt_succ_self m,.inr (.inl h)⟩
   ·exact⟨m,Nat.lt_succ_self m,.inr (.inr (.inl h))⟩
   ·exact⟨m,Nat.lt_succ_self m,.inr (.inr (.inr (.inl h)))⟩
   ·exact⟨m,Nat.lt_succ_self m,.inr (.inr (.inr (.inr h)))⟩
  ·rcases h with((((⟨j,a,b⟩ | h) | h) | h) | h) | h
   ·exact⟨j,Nat.lt_succ_of_lt a,b⟩
   ·cases h
   ·exact⟨m,Nat.lt_succ_self m,.inl (List.mem_singleton.mp h)⟩
   ·cases h
   ·rcases List.mem_cons.mp h with h | h
    ·exact⟨m,Nat.lt_succ_self m,.inr (.inl h)⟩
    ·rcases List.mem_cons.mp h with h | h
     ·exact⟨m,Nat.lt_succ_self m,.inr (.inr (.inl h))⟩
     ·exact⟨m,Nat.lt_succ_self m,.inr (.inr (.inr (.inl (List.mem_singleton.mp h))))⟩
   ·exact⟨m,Nat.lt_succ_self m,.inr (.inr (.inr (.inr h)))⟩
theorem rb(f:List WhereBy)(hf:f.length<=16)(hc:∀x∈f,x.c<256):SX (CN f.length) (xj f.length) (f.zipIdx.flatMap fun x=>whereWires x.1 x.2):=by
 have g:∀n,n<=f.length->SX (CN n) (xj n) ((f.take n).zipIdx.flatMap fun x=>whereWires x.1 x.2):=fun n=>by
  induction n with
  |zero=>exact fun _=>⟨yb,fun v h=>(by cases h),fun v h=>(by cases h)⟩
  |succ n ih=>
   intro h;have e:f.take (n+1)=f.take n++[f[n]]:=by rw[List.take_succ_eq_append_getElem]
   rw[e,List.zipIdx_append,List.flatMap_append,List.length_take,Nat.min_eq_left (by omega)]
   have:=uu (ih (by omega)) (by omega) f[n] (hc _ (List.getElem_mem _))
   simpa using this
 have:=g f.length (Nat.le_refl _);rw[List.take_length] at this;exact this
theorem sj(r:Report)(hf:r.ws.length<=16)(hc:∀x∈r.ws,x.c<256):jN r.panel/\∃(i:Nat) (w:Wire),r.panel[i]?=some w/\hub w=0:=by
 have S:=rb r.ws hf hc;have fin:∀{w:Wire},hub w=0->WOk w->0 ∉ reads w->jN ((r.ws.zipIdx.flatMap fun x=>whereWires x.1 x.2)++[w]):=fun {w} h ok n=>(S.snoc w 0 (reads w) h rfl ok (by rintro ⟨j,a,b⟩;exact by omega) (by rintro ⟨j,a,b⟩;exact by omega) n).s
 unfold Report.panel;refine⟨?_,(r.ws.zipIdx.flatMap fun x=>whereWires x.1 x.2).length,_,by rw[List.getElem?_append_right (Nat.le_refl _),Nat.sub_self];rfl,by split<;>rfl⟩
 by_cases z:r.ws.length=0
 ·rw[if_pos z];exact fin rfl ⟨.inr (.inl rfl),(by decide:1<256),(by decide:0<8),(by decide:0<256)⟩ (by decide)
 ·rw[if_neg z];refine fin rfl ⟨.inr (.inr (.inr rfl)),(by show 15+r.ws.length<256;omega),(by decide:0<8),(by decide:0<256)⟩ ?_
  show 0 ∉ [256 * 3+(15+r.ws.length),256 * 5+(15+r.ws.length),256 * 4+(15+r.ws.length)];simp;omega
theorem Ck(r:Report)(hf:r.ws.length<=16)(hc:∀x∈r.ws,x.c<256)(x:Card):gets r.panel x=((cW x r.panel noFlow).getD 0 0 != 0):=by
 obtain⟨S,i,w,e,h⟩:=sj r hf hc;exact yY x _ S i w e h
theorem yi(l h:Nat):pocketOf l h<=12:=by
 unfold pocketOf ROWS;cases e:(List.range 12).reverse.find? fun r=>l.testBit r&&h.testBit r with
 |none=>exact Nat.le_refl _
 |some r=>
  have:=List.mem_of_find?_eq_some e;rw[List.mem_reverse,List.mem_range] at this;show r<=12;omega
theorem vC:∀q,q<=12->(jobStack.map fun p=>if q==p then 1 else 0).sum=1:=by decide
theorem jH(c l:Nat):∀d:Deck,(passed c l jobStack d).length=d.length:=by
 have g:∀d:Deck,(jobStack.map fun p=>(pocket c l d p).length).sum=d.length:=fun d=>by
  induction d with
  |nil=>exact(by decide:(jobStack.map fun _=>0).sum=0)
  |cons x d ih=>
   have e:∀p,(pocket c l (x::d) p).length=(if pocketOf l (x.getD c 0)==p then 1 else 0)+(pocket c l d p).length:=fun p=>by
    unfold pocket;rw[List.filter_cons];split
    ·rw[List.length_cons];omega
    ·omega
   rw[show(fun p=>(pocket c l (x::d) p).length)=fun p=>(if pocketOf l (x.getD c 0)==p then 1 else 0)+(pocket c l d p).length from funext e]
   have add:∀(L:List Nat) (f g:Nat->Nat),(L.map fun p=>f p+g p).sum=(L.map f).sum+(L.map g).sum:=fun L f g=>by
    induction L with
    |nil=>rfl
    |cons a L ih=>rw[List.map_cons,List.sum_cons,List.map_cons,List.sum_cons,List.map_cons,List.sum_cons,ih];omega
   rw[add,ih,vC _ (yi _ _),List.length_cons];omega
 intro d;unfold passed;rw[List.length_flatMap];exact g d
noncomputable def RM(b C:Deck)(w:List Wire)(s:Setup)(p:List Bytes):Room:={ planRoom [] w s with trays:=[]::b::C::List.replicate 23 [],paper:=p }
theorem mJ(b C:Deck)(w:List Wire)(s:Setup)(p:List Bytes):(RM b C w s p).count=b.length+C.length:=by
 show(([]::b::C::List.replicate 23 []:List Deck).map List.length).sum=_;simp
theorem EA(b C:Deck)(w:List Wire)(s:Setup)(p:List Bytes)(c l:Nat)(h:b.length+C.length<=1000)(hp:p.length<=256):lineDone (RM b C w s p) (.pass 2 c l 2)=.ok (RM b (passed c l jobStack C) w s p):=by
 show(if MOSTCARDS<(RM b (passed c l jobStack C) w s p).count then Except.error 8 else if PAPER<(RM b (passed c l jobStack C) w s p).paper.length then Except.error 9 else Except.ok (RM b (passed c l jobStack C) w s p))=_
 rw[mJ,jH,if_neg (by unfold MOSTCARDS;omega),if_neg (by show ¬256<p.length;omega)]
theorem yD(d:Deck)(w:List Wire)(s:Setup)(h:d.length<=1000):lineDone (planRoom d w s) (.choose 0 0 1 2)=.ok (RM (d.filter fun x=>!gets w x) (d.filter (gets w)) w s []):=by
 have e:(d.filter fun x=>!gets w x).length+(d.filter (gets w)).length=d.length:=by
  induction d with
  |nil=>rfl
  |cons x d ih=>
   have:=ih (by rw[List.length_cons] at h;omega)
   rw[List.filter_cons,List.filter_cons,List.length_cons];cases gets w x
   ·simp;omega
   ·simp;omega
 show(if MOSTCARDS<(RM (d.filter fun x=>!gets w x) (d.filter (gets w)) w s []).count then Except.error 8 else if PAPER<0 then Except.error 9 else Except.ok (RM (d.filter fun x=>!gets w x) (d.filter (gets w)) w s []))=_
 rw[mJ,e,if_neg (by unfold MOSTCARDS;omega),if_neg (by unfold PAPER;omega)]
noncomputable def bJ:List (Nat×Nat)->Deck->Deck
 |[],C=>C
 |p::l,C=>bJ l (passed p.1 p.2 jobStack C)
theorem ju:∀(l:List (Nat×Nat)) (C:Deck),(bJ l C).length=C.length
 |[],_=>rfl
 |p::l,C=>by
  show(bJ l (passed p.1 p.2 jobStack C)).length=_;rw[ju l,jH]
theorem o9(b:Deck)(w:List Wire)(s:Setup)(rest:List Line):∀(l:List (Nat×Nat)) (C:Deck),b.length+C.length<=1000->jobDone (RM b C w s []) (l.map (fun p=>.pass 2 p.1 p.2 2)++rest)=((jobDone (RM b (bJ l C) w s []) rest).1+l.length,(jobDone (RM b (bJ l C) w s []) rest).2)
 |[],C,_=>rfl
 |p::l,C,h=>by
  have ih:=o9 b w s rest l (passed p.1 p.2 jobStack C) (by rw[jH];exact h)
  show(match lineDone (RM b C w s []) (.pass 2 p.1 p.2 2) with
   |.error e=>(0,RM b C w s [],e)
   |.ok q=>let z:=jobDone q (l.map (fun p:Nat×Nat=>Line.pass 2 p.1 p.2 2)++rest);(z.1+1,z.2))=_
  rw[EA b C w s [] p.1 p.2 h (by decide)]
  show((jobDone (RM b (passed p.1 p.2 jobStack C) w s []) (l.map (fun p:Nat×Nat=>Line.pass 2 p.1 p.2 2)++rest)).1+1,_)=_
  rw[ih];show(_+l.length+1,_)=(_+(l.length+1),_);rw[Nat.add_assoc];rfl
noncomputable def iA(k:KeyBy):List (Nat×Nat):=(List.range k.n).reverse.flatMap fun i=>if k.all=true then(List.range 12).map fun r=>(k.c+i,2 ^ r) else[(k.c+i,4095)]
theorem zf(k:KeyBy):k.lines=(iA k).map fun p=>.pass 2 p.1 p.2 2:=by
 unfold KeyBy.lines iA;rw[List.map_flatMap];congr 1;funext i;by_cases a:k.all=true
 ·rw[if_pos a,if_pos a,List.map_map];rfl
 ·rw[if_neg a,if_neg a];rfl
def CD(r:Report):List (Nat×Nat):=r.ks.reverse.flatMap iA
theorem BF(r:Report):r.job=.choose 0 0 1 2::((CD r).map (fun p=>.pass 2 p.1 p.2 2)++[.account 2 0 1 3]):=by
 unfold Report.job CD;rw[List.map_flatMap,show KeyBy.lines=fun k=>(iA k).map fun p=>Line.pass 2 p.1 p.2 2 from funext zf]
noncomputable def q_(q:List Nat)(i:Nat):Nat:=q.getD i 0
def toC(q:List Nat):CountBy:=⟨q_ q 0,q_ q 1,q_ q 2,q_ q 3,q_ q 4,q_ q 5⟩
def yZ(q:List Nat):ShowBy:=⟨q_ q 0,q_ q 1,q_ q 2,q_ q 3,q_ q 4,q_ q 5⟩
theorem zw(ps:List Pt)(y:Style):((reportOf (ps.map rl)).setup y).count=(bV (br ps).length (dn ps)).map toC:=by
 unfold bV Report.setup;dsimp only;unfold Report.levels bW;rw[EV,ua,List.length_map,List.map_flatMap];congr 1;funext l;rw[List.map_map,List.map_map];apply List.map_congr_left;intro t ht;obtain⟨e1,_,_,e4,e5⟩:=EB (Av ht);show(⟨l,if(toT t).one=true then 2 else 0,(toT t).c,(toT t).n,0,0⟩:CountBy)=toC (dW t l)
 unfold dW;rw[e1];by_cases e:t.1=5
 ·rw[if_pos (decide_eq_true e),if_pos e,(e5 e).1,(e5 e).2];rfl
 ·rw[if_neg (by simpa using e),if_neg e,(e4 e).1,(e4 e).2]
  rfl
theorem DP(ps:List Pt)(y:Style):((reportOf (ps.map rl)).setup y).show_=(dE (br ps) (dn ps) (jx ps)).map yZ:=by
 unfold dE Report.setup;dsimp only;rw[EV,Iu,List.map_append,List.length_map];congr 1
 ·rw[List.map_map,List.map_map];rfl
 ·unfold Report.levels bW;rw[ua,List.length_map,List.map_flatMap];congr 1;funext l;rw[List.map_append];congr 1
  ·unfold Report.above ft;rw[ua,List.length_map];by_cases e:l.1=4
   ·rw[if_pos e,if_pos e];rfl
   ·rw[if_neg e,if_neg e,List.map_map,<-List.map_take,List.map_map];rfl
  ·unfold di;rw[List.map_map,show((dn ps).map toT).zipIdx=(dn ps).zipIdx.map fun t=>(toT t.1,t.2) from List.zipIdx_map ..,List.map_map]
   apply List.map_congr_left;intro t ht;have hm:t.1∈dn ps:=by
    obtain⟨a,i⟩:=t;exact(List.mem_zipIdx_iff_getElem?.mp ht) |> List.mem_of_getElem?
   obtain⟨_,e2,e3,_,_⟩:=EB (Av hm);show(⟨l.1,1,l.2 * (dn ps).length+t.2,0,(toT t.1).at_,(toT t.1).w⟩:ShowBy)=yZ [l.1,1,l.2 * (dn ps).length+t.2,0,atT t.1,wT t.1];rw[e2,e3];rfl
structure MSt where
 k:List Int
 last:Option Card
 lines:List (List Int)
section
variable(lg:List Int)(s:Int)(cs th:List (List Nat))(hd:List Nat)
def jE(q:List Nat)(card:Option Card)(k:List Int):List Int:=if q_ q 1=0 then(match card with
 |some y=>(fieldOf y (q_ q 2) (q_ q 3)).map (lu lg s)
 |none=>List.replicate (q_ q 3) 32) else vM (k.getD (q_ q 2) 0) (q_ q 5)
def i9(n:Nat)(card:Option Card)(k:List Int):List Int:=th.foldl (fun b q=>if q_ q 0=n then onI b (q_ q 4) (jE lg s q card k) else b) fg
def oF(n:Nat):Bool:=(th.map fun q=>q_ q 0).contains n
def gZ(level:Nat)(k:List Int):List Int:=(List.range k.length).map fun i=>if(cs[i]?.map fun q=>q_ q 0)=some level then 0 else k.getD i 0
def kZ(level:Nat)(m:MSt):MSt:=⟨gZ cs level m.k,m.last,m.lines++if oF th level=true then[i9 lg s th level m.last m.k] else[]⟩
def dk:Nat->MSt->MSt
 |0,m=>m
 |n+1,m=>kZ lg s cs th (n+1) (dk n m)
def qT(q:List Nat)(x:Card):Option Int:=if q_ q 1=2 then some 1 else amountOf (fieldOf x (q_ q 2) (q_ q 3))
def dB(x:Card):List (List Nat×Nat)->List Int->Option (List Int)
 |[],k=>some k
 |(q,i)::l,k=>match qT q x with
  |none=>none
  |some v=>if fits16 (k.getD i 0+v)=true then dB x l (k.set i (k.getD i 0+v)) else none
noncomputable def e8(last:Option Card)(x:Card):Nat:=match last with
 |none=>0
 |some y=>if fieldOf x (hd.getD 4 0) (hd.getD 5 0)≠fieldOf y (hd.getD 4 0) (hd.getD 5 0) then 3 else if fieldOf x (hd.getD 2 0) (hd.getD 3 0)≠fieldOf y (hd.getD 2 0) (hd.getD 3 0) then 2 else if fieldOf x (hd.getD 0 0) (hd.getD 1 0)≠fieldOf y (hd.getD 0 0) (hd.getD 1 0) then 1 else 0
def k8(x:Card)(m:MSt):Option MSt:=
 let l:=e8 hd m.last x
 let v:=dk lg s cs th l m
 match dB x cs.zipIdx v.k with
 |none=>none
 |some k=>some ⟨k,some x,v.lines++if hd.getD 6 0=1\/(hd.getD 6 0=2/\(1<=l\/m.last=none)) then[i9 lg s th 0 (some x) k] else[]⟩
def fh:List Card->MSt->Option MSt
 |[],m=>some m
 |x::d,m=>match k8 lg s cs th hd x m with
  |none=>none
  |some m=>fh d m
def ye(m:MSt):MSt:=kZ lg s cs th 4 (match m.last with
 |none=>m
 |some _=>dk lg s cs th 3 m)
def bR(d:Deck):Option (List (List Int)):=(fh lg s cs th hd d ⟨List.replicate cs.length 0,none,[]⟩).map fun m=>(ye lg s cs th m).lines
end
structure CK(S:Setup)(lg:List Int)(s:Int)(cs th:List (List Nat))(hd:List Nat):Prop where
 c:S.count=cs.map toC
 sh:S.show_=th.map yZ
 l:S.legend=ReportsNeutral.text lg
 sn:S.strange=UInt8.ofNat s.toNat
 p:S.punch=0
 li:S.list=hd.getD 6 0
 ct:∀i,i<3->S.control.getD i (0,0)=(hd.getD (2 * i) 0,hd.getD (2 * i+1) 0)
 hl:∀n∈lg,0<=n/\n<=255
 h64:lg.length=64
 hs:0<=s/\s<=255
 wh:∀q∈cs,q_ q 4=0
 how:∀q∈cs,q_ q 1=0\/q_ q 1=2
section
variable{S:Setup}{lg:List Int}{s:Int}{cs th:List (List Nat)}{hd:List Nat}(T:CK S lg s cs th hd)
include T
theorem AK(q:List Nat)(card:Option Card)(k:List Int):bI (S.shown (yZ q) card k)=jE lg s q card k:=by
 unfold Setup.shown jE;show bI (if q_ q 1=0 then _ else _)=_
 by_cases e:q_ q 1=0
 ·rw[if_pos e,if_pos e];cases card with
  |none=>
   show bI (List.replicate (q_ q 3) 32)=List.replicate (q_ q 3) 32;unfold bI;rw[List.map_replicate];rfl
  |some y=>
   show bI (textOf y (q_ q 2) (q_ q 3) S.legend S.strange)=_;rw[T.l,T.sn];exact BW T.hl T.h64 T.hs y _ _
 ·rw[if_neg e,if_neg e];rfl
theorem xP(n:Nat)(card:Option Card)(k:List Int):bI (S.lineOf n card k)=i9 lg s th n card k:=by
 have g:∀(l:List (List Nat)) (b:Bytes),bI (((l.map yZ).filter fun x=>x.line==n).foldl (fun b x=>onLine b x.at_ (S.shown x card k)) b)=l.foldl (fun b q=>if q_ q 0=n then onI b (q_ q 4) (jE lg s q card k) else b) (bI b):=fun l=>by
  induction l with
  |nil=>exact fun _=>rfl
  |cons q l ih=>
   intro b;rw[List.map_cons,List.filter_cons,List.foldl_cons];show bI (List.foldl _ b (if(q_ q 0==n)=true then _ else _))=_
   by_cases e:q_ q 0=n
   ·rw[if_pos (by simpa using e),if_pos e,List.foldl_cons,<-AK T q card k]
    have:=ih (onLine b (q_ q 4) (S.shown (yZ q) card k));rw[Ig] at this;exact this
   ·rw[if_neg (by simpa using e),if_neg e]
    exact ih b
 unfold Setup.lineOf i9;rw[T.sh,<-BO];exact g th blanks
theorem FZ(n:Nat):S.has n=oF th n:=by
 unfold Setup.has oF;rw[T.sh,List.any_map,Bool.eq_iff_iff,List.any_eq_true,List.contains_iff_mem,List.mem_map];constructor
 ·rintro⟨q,hq,e⟩;exact⟨q,hq,eq_of_beq e⟩
 ·rintro⟨q,hq,e⟩;exact⟨q,hq,beq_iff_eq.mpr e⟩
theorem sG(n:Nat)(k:List Int):S.cleared n k=gZ cs n k:=by
 unfold Setup.cleared gZ;rw[T.c];apply List.map_congr_left;intro i _;rw[List.getElem?_map,Option.map_map];rfl
end
def lr(g:Nat->Nat)(x:Card)(p:CountBy×Nat)(k:List Int):Except Amiss (List Int):=
 let d:=p.1
 let i:=p.2
 if(d.when_=4/\g d.hub=0)\/(d.when_=5/\g d.hub≠0) then .ok k
 else match(if d.how=2 then some 1 else(amountOf (fieldOf x d.c d.n)).map fun(v:Int)=>if d.how=1 then -v else v) with
  |none=>.error ⟨1,i⟩
  |some v=>if fits16 (ctr k i+v)=true then .ok (k.set i (ctr k i+v)) else .error ⟨2,i⟩
structure mW(w:Work)(m:MSt):Prop where
 k:w.kept.counter=m.k
 l:w.kept.last=m.last
 p:w.paper.map bI=m.lines
 o:w.out=[]
section
variable{S:Setup}{lg:List Int}{s:Int}{cs th:List (List Nat)}{hd:List Nat}(T:CK S lg s cs th hd)
include T
theorem kF(level:Nat)(h:1<=level){w:Work}{m:MSt}(r:mW w m):∃w',S.total level w=.ok w'/\mW w' (kZ lg s cs th level m):=by
 have np:¬S.punch=level:=by rw[T.p];omega
 unfold Setup.total;simp only[if_neg np];refine⟨_,rfl,?_⟩;rw[FZ T];cases e:oF th level with
 |false=>
  rw[if_neg Bool.false_ne_true];refine⟨?_,r.l,?_,r.o⟩
  ·show S.cleared level w.kept.counter=gZ cs level m.k;rw[sG T,r.k]
  ·show w.paper.map bI=m.lines++if oF th level=true then _ else _
   rw[e,if_neg Bool.false_ne_true,List.append_nil];exact r.p
 |true=>
  rw[if_pos rfl];refine⟨?_,r.l,?_,r.o⟩
  ·show S.cleared level w.kept.counter=gZ cs level m.k;rw[sG T,r.k]
  ·show(w.paper++[S.lineOf level w.kept.last w.kept.counter]).map bI=m.lines++if oF th level=true then _ else _
   rw[e,if_pos rfl,List.map_append,r.p,List.map_singleton,xP T,r.k,r.l]
theorem jr:∀(n:Nat) {w:Work}{m:MSt},mW w m->∃w',S.totals n w=.ok w'/\mW w' (dk lg s cs th n m)
 |0,w,m,r=>⟨w,rfl,r⟩
 |n+1,w,m,r=>by
  obtain⟨w1,e1,r1⟩:=jr n r;obtain⟨w2,e2,r2⟩:=kF T (n+1) (by omega) r1
  refine⟨w2,?_,r2⟩;unfold Setup.totals at e1 ⊢;rw[List.range_succ,List.foldl_append,e1];exact e2
theorem Bt(last:Option Card)(x:Card):S.breaks last x=e8 hd last x:=by
 cases last with
 |none=>rfl
 |some y=>
  have f:∀i,i<3->((S.control.getD i (0,0)).2 != 0&&fieldOf x (S.control.getD i (0,0)).1 (S.control.getD i (0,0)).2 != fieldOf y (S.control.getD i (0,0)).1 (S.control.getD i (0,0)).2)=decide (fieldOf x (hd.getD (2 * i) 0) (hd.getD (2 * i+1) 0)≠fieldOf y (hd.getD (2 * i) 0) (hd.getD (2 * i+1) 0)):=fun i hi=>by
   rw[T.ct i hi];dsimp only;by_cases z:hd.getD (2 * i+1) 0=0
   ·rw[z];unfold fieldOf;rw[List.take_zero,List.take_zero];simp
   ·rw[show(hd.getD (2 * i+1) 0 != 0)=true by simpa using z,Bool.true_and]
    by_cases q:fieldOf x (hd.getD (2 * i) 0) (hd.getD (2 * i+1) 0)=fieldOf y (hd.getD (2 * i) 0) (hd.getD (2 * i+1) 0)
    ·rw[q];simp
    ·rw[decide_eq_true q];simpa using q
  unfold Setup.breaks e8;dsimp only;rw[show(List.range 3).reverse=[2,1,0] from rfl,List.find?_cons,f 2 (by decide),List.find?_cons,f 1 (by decide),List.find?_cons,f 0 (by decide),List.find?_nil]
  by_cases a:fieldOf x (hd.getD 4 0) (hd.getD 5 0)≠fieldOf y (hd.getD 4 0) (hd.getD 5 0)
  ·rw[if_pos a,show(2 * 2:Nat)=4 from rfl,decide_eq_true a]
   rfl
  ·rw[if_neg a,show(2 * 2:Nat)=4 from rfl,decide_eq_false a]
   by_cases b:fieldOf x (hd.getD 2 0) (hd.getD 3 0)≠fieldOf y (hd.getD 2 0) (hd.getD 3 0)
   ·rw[if_pos b,show(2 * 1:Nat)=2 from rfl,decide_eq_true b]
    rfl
   ·rw[if_neg b,show(2 * 1:Nat)=2 from rfl,decide_eq_false b]
    by_cases c:fieldOf x (hd.getD 0 0) (hd.getD 1 0)≠fieldOf y (hd.getD 0 0) (hd.getD 1 0)
    ·rw[if_pos c,show(2 * 0:Nat)=0 from rfl,decide_eq_true c]
     rfl
    ·rw[if_neg c,show(2 * 0:Nat)=0 from rfl,decide_eq_false c]
     rfl
omit T in
theorem uo(g:Nat->Nat)(x:Card)(e:Amiss):∀l:List (CountBy×Nat),l.foldl (fun(y:Except Amiss (List Int)) p=>y.bind (lr g x p)) (.error e)=.error e
 |[]=>rfl
 |a::l=>by
  rw[List.foldl_cons];exact uo g x e l
omit T in
theorem Ds(g:Nat->Nat)(x:Card)(q:List Nat)(i:Nat)(k:List Int)(w0:q_ q 4=0)(hw:q_ q 1=0\/q_ q 1=2):lr g x (toC q,i) k=match qT q x with
  |none=>.error ⟨1,i⟩
  |some v=>if fits16 (k.getD i 0+v)=true then .ok (k.set i (k.getD i 0+v)) else .error ⟨2,i⟩:=by
 have add:(if(toC q).how=2 then some 1 else(amountOf (fieldOf x (toC q).c (toC q).n)).map fun v=>if(toC q).how=1 then -v else v)=qT q x:=by
  show(if q_ q 1=2 then some 1 else(amountOf (fieldOf x (q_ q 2) (q_ q 3))).map fun v=>if q_ q 1=1 then -v else v)=if q_ q 1=2 then some 1 else _
  by_cases e:q_ q 1=2
  ·rw[if_pos e,if_pos e]
  ·rw[if_neg e,if_neg e];have:¬q_ q 1=1:=by omega
   rw[show(fun v:Int=>if q_ q 1=1 then -v else v)=id from funext fun v=>if_neg this,Option.map_id]
   rfl
 have w1:(toC q).when_=0:=w0;unfold lr;dsimp only;rw[if_neg (by rw[w1];omega),add]
 rfl
theorem Bj(g:Nat->Nat)(x:Card)(k:List Int):(∀k',dB x cs.zipIdx k=some k'->S.added g x k=.ok k')/\(dB x cs.zipIdx k=none->∃e,S.added g x k=.error e):=by
 have hyp:∀p∈cs.zipIdx,q_ p.1 4=0/\(q_ p.1 1=0\/q_ p.1 1=2):=fun p hp=>by
  have:p.1∈cs:=by
   obtain⟨a,i⟩:=p;exact(List.mem_zipIdx_iff_getElem?.mp hp) |> List.mem_of_getElem?
  exact⟨T.wh _ this,T.how _ this⟩
 have e0:S.added g x k=cs.zipIdx.foldl (fun(y:Except Amiss (List Int)) p=>y.bind (lr g x (toC p.1,p.2))) (.ok k):=by
  show S.count.zipIdx.foldl (fun(y:Except Amiss (List Int)) p=>y.bind (lr g x p)) (.ok k)=_
  rw[T.c,show(cs.map toC).zipIdx=cs.zipIdx.map fun t=>(toC t.1,t.2) from List.zipIdx_map ..,List.foldl_map]
 rw[e0];clear e0;generalize cs.zipIdx=L at hyp
 induction L generalizing k with
 |nil=>exact⟨fun k' h=>by cases h;rfl,fun h=>by cases h⟩
 |cons p L ih=>
  obtain⟨q,i⟩:=p;obtain⟨w0,hw⟩:=hyp (q,i) (by simp)
  have ih:=fun k=>ih (k:=k) fun p hp=>hyp p (by simp[hp])
  rw[List.foldl_cons];show(∀k',dB x ((q,i)::L) k=some k'->List.foldl _ (lr g x (toC q,i) k) L=_)/\(dB x ((q,i)::L) k=none->∃e,List.foldl _ (lr g x (toC q,i) k) L=_);rw[Ds g x q i k w0 hw];unfold dB;have er:∀e,L.foldl (fun(y:Except Amiss (List Int)) p=>y.bind (lr g x (toC p.1,p.2))) (.error e)=.error e:=fun e=>by
   have:=uo g x e (L.map fun t=>(toC t.1,t.2))
   rw[List.foldl_map] at this;exact this
  cases a:qT q x with
  |none=>exact⟨fun k' h=>(by cases h),fun _=>⟨⟨1,i⟩,er _⟩⟩
  |some v=>
   dsimp only;by_cases f:fits16 (k.getD i 0+v)=true
   ·rw[if_pos f,if_pos f];exact ih _
   ·rw[if_neg f,if_neg f];exact⟨fun k' h=>(by cases h),fun _=>⟨⟨2,i⟩,er _⟩⟩
theorem Aq(g:Nat->Nat)(x:Card){w:Work}{m:MSt}(r:mW w m):(∀m',k8 lg s cs th hd x m=some m'->∃w',S.cycle g x w=.ok w'/\mW w' m')/\(k8 lg s cs th hd x m=none->∃e,S.cycle g x w=.error e):=by
 obtain⟨v,ev,rv⟩:=jr T (e8 hd m.last x) r;have eb:S.breaks w.kept.last x=e8 hd m.last x:=by rw[r.l];exact Bt T _ _
 obtain⟨a1,a2⟩:=Bj T g x v.kept.counter;rw[rv.k] at a1 a2;have e0:S.cycle g x w=(S.added g x v.kept.counter).map fun k=>{ v with kept:=⟨k,some x⟩,paper:=v.paper++if S.list=1\/(S.list=2/\(1<=e8 hd m.last x\/w.kept.last=none)) then[S.lineOf 0 (some x) k] else[] }:=by
  unfold Setup.cycle;dsimp only;rw[eb,ev];rfl
 unfold k8;dsimp only;rw[e0,rv.k];cases q:dB x cs.zipIdx (dk lg s cs th (e8 hd m.last x) m).k with
 |none=>
  obtain⟨e,he⟩:=a2 q;refine⟨fun m' h=>(by cases h),fun _=>⟨e,?_⟩⟩
  rw[he];rfl
 |some k=>
  refine⟨fun m' h=>?_,fun h=>(by cases h)⟩
  cases h;rw[a1 k q];refine⟨_,rfl,rfl,rfl,?_,rv.o⟩;show(v.paper++_).map bI=_++_;rw[List.map_append,rv.p,T.li,r.l];congr 1;split
  ·rw[List.map_singleton,xP T]
  ·rfl
theorem oW(l:List Wire):∀(d:Deck) {w:Work}{m:MSt},mW w m->(∀m',fh lg s cs th hd d m=some m'->∃w',d.foldl (fun(w:Except Amiss Work) x=>w.bind (S.cycle (flow l x noSending 0) x)) (.ok w)=.ok w'/\mW w' m')/\(fh lg s cs th hd d m=none->∃e,d.foldl (fun(w:Except Amiss Work) x=>w.bind (S.cycle (flow l x noSending 0) x)) (.ok w)=.error e)
 |[],w,m,r=>⟨fun m' h=>(by cases h;exact⟨w,rfl,r⟩),fun h=>(by cases h)⟩
 |x::d,w,m,r=>by
  obtain⟨c1,c2⟩:=Aq T (flow l x noSending 0) x r;rw[List.foldl_cons];unfold fh;cases q:k8 lg s cs th hd x m with
  |none=>
   obtain⟨e,he⟩:=c2 q;refine⟨fun m' h=>(by cases h),fun _=>⟨e,?_⟩⟩
   show List.foldl _ (S.cycle (flow l x noSending 0) x w) d=_;rw[he];clear c1 c2 he q
   induction d with
   |nil=>rfl
   |cons y d ih=>
    rw[List.foldl_cons];exact ih rfl
  |some m1=>
   obtain⟨w1,hw,r1⟩:=c1 m1 q;have:=oW l d r1;show(∀m',fh lg s cs th hd d m1=some m'->∃w',List.foldl _ (S.cycle (flow l x noSending 0) x w) d=.ok w'/\mW w' m')/\(fh lg s cs th hd d m1=none->∃e,List.foldl _ (S.cycle (flow l x noSending 0) x w) d=.error e);rw[hw];exact this
theorem GR{w:Work}{m:MSt}(r:mW w m):∃w',S.ended w=.ok w'/\w'.paper.map bI=(ye lg s cs th m).lines/\w'.out=[]:=by
 unfold Setup.ended ye;rw[r.l];cases q:m.last with
 |none=>
  obtain⟨u,eu,ru⟩:=kF T 4 (by decide) r
  refine⟨{ u with kept:=⟨u.kept.counter,none⟩ },?_,ru.p,ru.o⟩
  show(S.total 4 w).map _=_;rw[eu];rfl
 |some x=>
  obtain⟨v,ev,rv⟩:=jr T 3 r;obtain⟨u,eu,ru⟩:=kF T 4 (by decide) rv
  refine⟨{ u with kept:=⟨u.kept.counter,none⟩ },?_,ru.p,ru.o⟩
  show(S.totals 3 w).bind _=_;rw[ev];show(S.total 4 v).map _=_;rw[eu];rfl
theorem sv(l:List Wire)(d:Deck):(∀L,bR lg s cs th hd d=some L->∃y,S.account l d=some (y,[])/\y.map bI=L)/\(bR lg s cs th hd d=none->S.account l d=none):=by
 have r0:mW ⟨S.fresh,[],[]⟩ ⟨List.replicate cs.length 0,none,[]⟩:=⟨by show List.replicate S.count.length 0=_;rw[T.c,List.length_map],rfl,rfl,rfl⟩
 obtain⟨c1,c2⟩:=oW T l d r0;unfold bR Setup.account;cases q:fh lg s cs th hd d ⟨List.replicate cs.length 0,none,[]⟩ with
 |none=>
  obtain⟨e,he⟩:=c2 q;refine⟨fun L h=>(by cases h),fun _=>?_⟩
  rw[he];rfl
 |some m=>
  obtain⟨w,hw,r⟩:=c1 m q;obtain⟨u,hu,p,o⟩:=GR T r;refine⟨fun L h=>?_,fun h=>(by cases h)⟩
  cases h;refine⟨u.paper,?_,p⟩;rw[hw];show(match S.ended w with
   |.ok w=>some (w.paper,w.out)
   |.error _=>none)=_
  rw[hu,<-o]
end
noncomputable def kindOf(b:Bytes):Nat:=(SENDS.map ascii).idxOf b
noncomputable def dA(b:Bytes):Nat:=(TAKES.map ascii).idxOf b
def eA:Wr->Wire
 |([.t a,.n n],[.t b,.n k])=>⟨kindOf a,n,0,dA b,k⟩
 |([.t a,.n n,.n m],[.t b,.n k])=>⟨kindOf a,n,m,dA b,k⟩
 |_=>⟨0,0,0,0,0⟩
theorem nJ:kindOf (ascii "read")=0/\kindOf (ascii "send")=1/\kindOf (ascii "hole")=5/\kindOf (ascii "chosen")=6:=by decide +kernel
theorem EL:dA (ascii "to")=0/\dA (ascii "look")=2/\dA (ascii "by")=3/\dA (ascii "plain")=4/\dA (ascii "other")=5:=by decide +kernel
theorem BP(x:Pt)(i:Nat):whereWires (toW x) i=(dw x i).map eA:=by
 obtain⟨k0,k1,k5,k6⟩:=nJ;obtain⟨i0,i2,i3,i4,i5⟩:=EL;have A:[(⟨0,n0 x,0,2,i⟩:Wire)]=[([wx "read",.n (n0 x)],[wx "look",.n i])].map eA:=by
  show _=[(⟨kindOf (ascii "read"),n0 x,0,dA (ascii "look"),i⟩:Wire)];rw[k0,i2]
 have B:(if decide (x.1=0)=true then[(⟨5,i,n1 x,3,16+i⟩:Wire)] else[⟨5,i,n1 x,3,i⟩,⟨1,1,0,4,i⟩,⟨6,i,0,3,16+i⟩])=(if x.1=0 then[([wx "hole",.n i,.n (n1 x)],[wx "by",.n (16+i)])] else[([wx "hole",.n i,.n (n1 x)],[wx "by",.n i]),([wx "send",.n 1],[wx "plain",.n i]),([wx "chosen",.n i],[wx "by",.n (16+i)])]).map eA:=by
  by_cases e:x.1=0
  ·rw[if_pos (decide_eq_true e),if_pos e];show _=[(⟨kindOf (ascii "hole"),i,n1 x,dA (ascii "by"),16+i⟩:Wire)]
   rw[k5,i3]
  ·rw[if_neg (by simpa using e),if_neg e]
   show _=[(⟨kindOf (ascii "hole"),i,n1 x,dA (ascii "by"),i⟩:Wire),⟨kindOf (ascii "send"),1,0,dA (ascii "plain"),i⟩,⟨kindOf (ascii "chosen"),i,0,dA (ascii "by"),16+i⟩]
   rw[k5,i3,k1,i4,k6]
 have C:[if i=0 then(⟨1,1,0,5,16⟩:Wire) else⟨6,15+i,0,5,16+i⟩]=[if i=0 then([wx "send",.n 1],[wx "other",.n (16+i)]) else([wx "chosen",.n (16+i-1)],[wx "other",.n (16+i)])].map eA:=by
  by_cases e:i=0
  ·rw[if_pos e,if_pos e,e];show _=[(⟨kindOf (ascii "send"),1,0,dA (ascii "other"),16+0⟩:Wire)];rw[k1,i5]
  ·rw[if_neg e,if_neg e];show _=[(⟨kindOf (ascii "chosen"),16+i-1,0,dA (ascii "other"),16+i⟩:Wire)];rw[k6,i5,show 16+i-1=15+i by omega]
 unfold dw;rw[List.map_append,List.map_append,<-A,<-B,<-C];rfl
theorem BG(ps:List Pt):(reportOf (ps.map rl)).panel=(eO (gr ps)).map eA:=by
 obtain⟨k0,k1,k5,k6⟩:=nJ;obtain⟨i0,i2,i3,i4,i5⟩:=EL;unfold Report.panel eO;rw[B7,List.length_map,List.map_append,List.map_flatMap];congr 1
 ·rw[wU toW whereWires];congr 1;funext p;exact BP p.1 p.2
 ·by_cases e:(gr ps).length=0
  ·rw[if_pos e,if_pos e];show _=[(⟨kindOf (ascii "send"),1,0,dA (ascii "to"),0⟩:Wire)];rw[k1,i0]
  ·rw[if_neg e,if_neg e];show _=[(⟨kindOf (ascii "chosen"),15+(gr ps).length,0,dA (ascii "to"),0⟩:Wire)];rw[k6,i0]
def o8(ws:List Pt)(x:Card):Bool:=(cW x ((eO ws).map eA) noFlow).getD 0 0 != 0
def cY(ks:List Pt):List (Nat×Nat):=ks.reverse.flatMap fun k=>(List.range (n1 k)).reverse.flatMap fun i=>(dZ k).map fun l=>(n0 k+i,l)
theorem E5(ps:List Pt):CD (reportOf (ps.map rl))=cY (br ps):=by
 unfold CD cY;rw[ua,<-List.map_reverse,List.flatMap_map];congr 1;funext k;unfold iA dZ;show(List.range (n1 k)).reverse.flatMap (fun i=>if decide (k.1=2)=true then _ else _)=_
 congr 1;funext i;by_cases e:k.1=2
 ·rw[if_pos (decide_eq_true e),if_pos e,List.map_map];rfl
 ·rw[if_neg (by simpa using e),if_neg e]
  rfl
theorem DR(ks:List Pt):E9 ks=[wx "choose",wx "A",.n 0,wx ">",wx "B",wx "C"]::((cY ks).map (fun p=>i8 p.1 p.2)++[[wx "account",wx "C",.n 0,.n 1,wx ">",wx "D"]]):=by
 unfold E9 cY dJ;rw[List.map_flatMap];congr 3;funext k;rw[List.map_flatMap];congr 1;funext i;rw[List.map_map];rfl
def uz(ps:List Pt)(lg:List Int)(s:Int)(d:Deck):List Int:=
 match bR lg s (bV (br ps).length (dn ps)) (dE (br ps) (dn ps) (jx ps)) (gy (br ps) (fR (gK ps)) s.toNat) (bJ (cY (br ps)) (d.filter (o8 (gr ps)))) with
 |none=>[((cY (br ps)).length+1:Nat),7]
 |some L=>if 256<L.length then[((cY (br ps)).length+1:Nat),9] else(((cY (br ps)).length+2:Nat):Int)::0::L.flatten
def nG(b:Bytes)(s:Int)(lg ds:List Int):List Int:=if g0 b=[] then(if kW lg=true/\0<=s/\s<=255 then(match bN ds.length ds with
 |none=>[-8]
 |some d=>uz (bj b) lg s d) else[-2]) else g0 b
theorem vf(ps:List Pt)(lg:List Int)(s:Int)(hk:(br ps).length<=3)(e1:(reportOf (ps.map rl)).list=fR (gK ps))(hl:∀n∈lg,0<=n/\n<=255)(h64:lg.length=64)(hs:0<=s/\s<=255) :
  CK ((reportOf (ps.map rl)).setup ⟨ReportsNeutral.text lg,UInt8.ofNat s.toNat⟩) lg s (bV (br ps).length (dn ps)) (dE (br ps) (dn ps) (jx ps)) (gy (br ps) (fR (gK ps)) s.toNat):=by
 have cnt:∀q∈bV (br ps).length (dn ps),q_ q 4=0/\(q_ q 1=0\/q_ q 1=2):=fun q hq=>by
  unfold bV at hq;obtain⟨l,_,hq⟩:=List.mem_flatMap.mp hq;obtain⟨t,_,rfl⟩:=List.mem_map.mp hq;unfold dW;split
  ·exact⟨rfl,.inr rfl⟩
  ·exact⟨rfl,.inl rfl⟩
 refine⟨zw ps _,DP ps _,rfl,rfl,rfl,?_,?_,hl,h64,hs,fun q hq=>(cnt q hq).1,fun q hq=>(cnt q hq).2⟩
 ·show(reportOf (ps.map rl)).list=_;rw[e1];generalize fR (gK ps)=L;unfold gy
  match br ps,hk with
  |[],_=>rfl
  |[a],_=>rfl
  |[a,b],_=>rfl
  |[a,b,c],_=>rfl
  |_::_::_::_::_,h=>simp at h
 ·intro i hi;show((List.range 3).map fun i=>if i<(reportOf (ps.map rl)).ks.length then(let k:=(reportOf (ps.map rl)).ks.getD ((reportOf (ps.map rl)).ks.length-1-i) ⟨0,0,0,false⟩;(k.c,k.n)) else(0,0)).getD i (0,0)=_
  rw[ua];unfold gy;have c:i=0\/i=1\/i=2:=by omega
  match br ps,hk with
  |[],_=>rcases c with rfl | rfl | rfl<;>rfl
  |[a],_=>rcases c with rfl | rfl | rfl<;>rfl
  |[a,b],_=>rcases c with rfl | rfl | rfl<;>rfl
  |[a,b,c'],_=>rcases c with rfl | rfl | rfl<;>rfl
  |_::_::_::_::_,h=>simp at h
theorem zc(b C:Deck)(w:List Wire)(S:Setup)(h:b.length+C.length<=1000):(S.account [] C=none->jobDone (RM b C w S []) [.account 2 0 1 3]=(0,RM b C w S [],7))/\(∀y,S.account [] C=some (y,[])->(256<y.length->jobDone (RM b C w S []) [.account 2 0 1 3]=(0,RM b C w S [],9))/\(¬256<y.length->∃q,jobDone (RM b C w S []) [.account 2 0 1 3]=(1,q,0)/\q.paper=y)):=by
 have cm:comes (RM b C w S []) (.account 2 0 1 3)=match S.account [] C with
   |none=>.error 7
   |some y=>.ok { ((RM b C w S []).behind 3 y.2) with paper:=[]++y.1 }:=rfl
 have jd:jobDone (RM b C w S []) [.account 2 0 1 3]=match lineDone (RM b C w S []) (.account 2 0 1 3) with
   |.error e=>(0,RM b C w S [],e)
   |.ok q=>(1,q,0):=by
  show(match lineDone (RM b C w S []) (.account 2 0 1 3) with
   |.error e=>(0,RM b C w S [],e)
   |.ok q=>let z:=jobDone q [];(z.1+1,z.2))=_
  cases lineDone (RM b C w S []) (.account 2 0 1 3)<;>rfl
 refine⟨fun n=>?_,fun y e=>?_⟩
 ·rw[jd];unfold lineDone;rw[cm,n]
 ·have ld:lineDone (RM b C w S []) (.account 2 0 1 3)=if 256<y.length then .error 9 else .ok { ((RM b C w S []).behind 3 []) with paper:=[]++y }:=by
   unfold lineDone;rw[cm,e];show(if MOSTCARDS<(RM b C w S []).count+0 then _ else _)=_
   rw[mJ,if_neg (by unfold MOSTCARDS;omega)]
   rfl
  rw[jd,ld];refine⟨fun g=>?_,fun g=>?_⟩
  ·rw[if_pos g]
  ·rw[if_neg g];exact⟨_,rfl,rfl⟩
theorem Es(y:List Bytes):bI y.flatten=(y.map bI).flatten:=by
 unfold bI;rw[List.map_flatten]
theorem De(ps:List Pt)(lg:List Int)(s:Int)(d:Deck)(T:CK ((reportOf (ps.map rl)).setup ⟨ReportsNeutral.text lg,UInt8.ofNat s.toNat⟩) lg s (bV (br ps).length (dn ps)) (dE (br ps) (dn ps) (jx ps)) (gy (br ps) (fR (gK ps)) s.toNat))
  (hd:d.length<=1000) (hw:(gr ps).length<=16) (hc:∀x∈gr ps,n0 x<256):((((reportOf (ps.map rl)).planned ⟨ReportsNeutral.text lg,UInt8.ofNat s.toNat⟩ d).1:Nat):Int)::((((reportOf (ps.map rl)).planned ⟨ReportsNeutral.text lg,UInt8.ofNat s.toNat⟩ d).2.2:Nat):Int)::bI ((reportOf (ps.map rl)).planned ⟨ReportsNeutral.text lg,UInt8.ofNat s.toNat⟩ d).2.1.paper.flatten=uz ps lg s d:=by
 have hg:∀x,gets (reportOf (ps.map rl)).panel x=o8 (gr ps) x:=fun x=>by
  rw[Ck _ (by rw[B7,List.length_map];exact hw) (by
   rw[B7];intro x hx;obtain⟨y,hy,rfl⟩:=List.mem_map.mp hx;exact hc y hy)]
  unfold o8;rw[BG]
 have hf:(reportOf (ps.map rl)).panel=(reportOf (ps.map rl)).panel:=rfl;have ef:d.filter (gets (reportOf (ps.map rl)).panel)=d.filter (o8 (gr ps)):=by rw[show gets (reportOf (ps.map rl)).panel=o8 (gr ps) from funext hg]
 have lf:(d.filter fun x=>!gets (reportOf (ps.map rl)).panel x).length+(d.filter (gets (reportOf (ps.map rl)).panel)).length<=1000:=by
  have e:(d.filter fun x=>!gets (reportOf (ps.map rl)).panel x).length+(d.filter (gets (reportOf (ps.map rl)).panel)).length=d.length:=by
   generalize gets (reportOf (ps.map rl)).panel=f;clear hd ef
   induction d with
   |nil=>rfl
   |cons x d ih=>
    rw[List.filter_cons,List.filter_cons,List.length_cons];cases f x
    ·simp;omega
    ·simp;omega
  omega
 have e0:(reportOf (ps.map rl)).planned ⟨ReportsNeutral.text lg,UInt8.ofNat s.toNat⟩ d=jobDone (planRoom d (reportOf (ps.map rl)).panel ((reportOf (ps.map rl)).setup ⟨ReportsNeutral.text lg,UInt8.ofNat s.toNat⟩)) (reportOf (ps.map rl)).job:=rfl;rw[BF,E5] at e0;generalize(reportOf (ps.map rl)).setup ⟨ReportsNeutral.text lg,UInt8.ofNat s.toNat⟩=S at T e0;have e1:jobDone (planRoom d (reportOf (ps.map rl)).panel S) (.choose 0 0 1 2::((cY (br ps)).map (fun p=>.pass 2 p.1 p.2 2)++[.account 2 0 1 3]))=((jobDone (RM (d.filter fun x=>!gets (reportOf (ps.map rl)).panel x) (d.filter (gets (reportOf (ps.map rl)).panel)) (reportOf (ps.map rl)).panel S []) ((cY (br ps)).map (fun p=>.pass 2 p.1 p.2 2)++[.account 2 0 1 3])).1+1,(jobDone (RM (d.filter fun x=>!gets (reportOf (ps.map rl)).panel x) (d.filter (gets (reportOf (ps.map rl)).panel)) (reportOf (ps.map rl)).panel S []) ((cY (br ps)).map (fun p=>.pass 2 p.1 p.2 2)++[.account 2 0 1 3])).2):=by
  rw[jobDone,yD d _ S hd]
 rw[e0,e1,o9 _ _ _ _ _ _ lf];have lp:(d.filter fun x=>!gets (reportOf (ps.map rl)).panel x).length+(bJ (cY (br ps)) (d.filter (gets (reportOf (ps.map rl)).panel))).length<=1000:=by rw[ju];exact lf
 obtain⟨l1,l2⟩:=zc (d.filter fun x=>!gets (reportOf (ps.map rl)).panel x) (bJ (cY (br ps)) (d.filter (gets (reportOf (ps.map rl)).panel))) (reportOf (ps.map rl)).panel S lp
 obtain⟨a1,a2⟩:=sv T [] (bJ (cY (br ps)) (d.filter (gets (reportOf (ps.map rl)).panel)));unfold uz;rw[<-ef];cases q:bR lg s (bV (br ps).length (dn ps)) (dE (br ps) (dn ps) (jx ps)) (gy (br ps) (fR (gK ps)) s.toNat) (bJ (cY (br ps)) (d.filter (gets (reportOf (ps.map rl)).panel))) with
 |none=>
  rw[l1 (a2 q)];dsimp only;rw[Nat.zero_add];rfl
 |some L=>
  obtain⟨y,ey,rfl⟩:=a1 L q;obtain⟨m1,m2⟩:=l2 y ey;dsimp only;rw[List.length_map];by_cases g:256<y.length
  ·rw[if_pos g,m1 g];dsimp only;rw[Nat.zero_add];rfl
  ·obtain⟨z,ez,pz⟩:=m2 g;rw[if_neg g,ez];dsimp only;rw[pz,Es,show 1+(cY (br ps)).length+1=(cY (br ps)).length+2 by omega]
   rfl
theorem vp(b:Bytes)(ns lg ds:List Int)(s:Int)(e:ReportsNeutral.text ns=b)(hl:∀n∈lg,0<=n/\n<=255)(hd:ds.length<=1000):PyWrpung.planned s ns lg ds=nG b s lg ds:=by
 show ReportsNeutral.told (Reports.onReport (ReportsNeutral.text ns) _)=_;rw[e,zi];unfold nG;by_cases h:g0 b=[]
 ·rw[if_pos h,if_pos h];unfold Reports.styleOf;rw[FW lg hl];by_cases c:kW lg=true/\0<=s/\s<=255
  ·rw[if_pos c,if_pos c,D1 ds hd];cases q:bN ds.length ds with
   |none=>rfl
   |some d=>
    obtain⟨ini,x,hp,h7,h10,hi⟩:=xc h;have dl:=kh _ _ _ q;have lk:gK (bj b)=x.1:=by
     unfold gK;rw[hp,List.getLast?_concat];rfl
    have e1:(reportOf ((bj b).map rl)).list=fR (gK (bj b)):=by rw[lk,hp,D8 h7 hi]
    have h64:lg.length=64:=by
     have:=c.1;unfold kW at this;rw[Bool.and_eq_true,decide_eq_true_eq] at this;exact this.1
    have T:=vf (bj b) lg s (gA h).2.1 e1 hl h64 c.2;refine De (bj b) lg s d T (by omega) (gA h).1 fun x hx=>?_
    obtain⟨m,i⟩:=List.mem_filter.mp hx;have ok:=nj b x m;have w:=(@cz x).1.mp i;obtain⟨k,vs⟩:=x;rcases w with w | w
    ·have w:k=0:=w;subst w;obtain⟨c,r,e,c79,_⟩:=ok.2;have e:vs=[c,r]:=e;subst e;show c<256;omega
    ·have w:k=1:=w;subst w;obtain⟨c,r,e,c79,_⟩:=ok.2;have e:vs=[c,r]:=e;subst e;show c<256;omega
  ·rw[if_neg c,if_neg c];rfl
 ·rw[if_neg h,if_neg h]
end JM
end
section
namespace Jd
open PySem PySem.Spec PyProof.Rows L2
noncomputable def top(i:Nat):Stmt:=PySem.Challenge.pw_tabulreports_s05_planned.main.body.getD i (.Pass ⟨0,0,0,0⟩)
abbrev rB:Stmt:=cD (top 25) 0
abbrev qy:Stmt:=cD (top 26) 0
abbrev Cg:Stmt:=top 27
abbrev DN:Stmt:=top 28
abbrev DH:Stmt:=top 29
abbrev qH:Stmt:=top 30
abbrev qL:Stmt:=top 31
abbrev sBy:Stmt:=top 32
abbrev wd:Stmt:=top 33
abbrev qm:Stmt:=cD (top 44) 0
abbrev qt:Stmt:=top 45
abbrev qJ:Stmt:=top 46
abbrev wo:Stmt:=top 47
abbrev qZ:Stmt:=top 49
abbrev wg:Stmt:=top 50
abbrev ou:Stmt:=top 51
abbrev rO:Stmt:=top 52
abbrev qB:Stmt:=top 53
abbrev lV:Stmt:=top 54
def Cal(P:Program)(w:World)(K:PySem.W.Frag)(mg:Str->Option Value)(base:Heap)(x:Str)(k:Nat)(ps:List Str)(sp:Sp):Prop:=
 ∃f fd,aT P w K mg base CX0 k f fd ps sp/\mg x=some (.ref f)/\PySem.W.keepIn K (.ref f)=true/\gx K fd ps []
def Mak(P:Program)(w:World)(K:PySem.W.Frag)(mg:Str->Option Value)(base:Heap)(x:Str)(C:Addr)(k:Nat)(ps:List Str)(sp:Sp):Prop:=
 ∃f fd,Mk K C f/\aT P w K mg base CX0 k f fd ps sp/\mg x=some (.ref C)/\gx K fd ps []
section
variable{X:Cx}{k j:Nat}{C:Addr}{ps:List Str}{sp:Sp}{x:Str}{p pos:Pos}{e:Expr}{es:List Expr}{t:TA}
theorem az(c:Cal X.prog X.w X.K X.mg X.base x k ps sp)(hr:Room j X.A)(hk:k<=j)(hg:Gl X x)(ha:PA X (e::es) t)(hdb:(x==("__debug__" : Str))=false:=by decide)(he:starEach (e::es) X.env=(false,eval e X.env)::starEach es X.env:=by rfl)(hpl:(backTo pos (starEach es X.env)).any (·.1)=false:=by rfl) :
  PE X (.Call (.Name x p) (e::es) [] pos) (p9 sp [] E0 t):=by
 obtain⟨f,fd,F,hm,kp,b⟩:=c;exact BZ F (hr.mono hk) hg hm kp b .nil dP ha hdb he hpl
theorem fo(c:Mak X.prog X.w X.K X.mg X.base x C k ps sp)(hr:Room j X.A)(hk:k+1<=j)(hg:Gl X x)(ha:PA X (e::es) t)(hdb:(x==("__debug__" : Str))=false:=by decide)(he:starEach (e::es) X.env=(false,eval e X.env)::starEach es X.env:=by rfl)(hpl:(backTo pos (starEach es X.env)).any (·.1)=false:=by rfl) :
  PE X (.Call (.Name x p) (e::es) [] pos) (Ad C sp [] E0 t):=by
 obtain⟨f,fd,M,F,hm,b⟩:=c;exact Eo M F (hr.mono hk) hg hm b .nil dP ha hdb he hpl
theorem bH{z:Int}(h:∃u,X.mg x=some (.int z u))(hg:Gl X x)(hd:(x==("__debug__" : Str))=false:=by decide):PE X (.Name x pos) (tC (.int z)):=by
 obtain⟨u,h⟩:=h;exact xm hg h ⟨u,rfl⟩ hd
theorem je{a:Addr}(h:X.mg x=some (.ref a))(hg:Gl X x)(hd:(x==("__debug__" : Str))=false:=by decide):PE X (.Name x pos) (tC (.ref a)):=xm hg h rfl hd
end
def TIs(t:TT)(σ:L2.St)(H:Hp)(b:Bool):Prop:=∀Q:Bool->Hp->Prop,Q b H->t σ H Q
def EIs(t:TE)(σ:L2.St)(H:Hp)(v:V):Prop:=∀Q:VK,Q v H->t σ H Q
theorem TIs.and{t u:TT}{σ:L2.St}{H:Hp}{b c:Bool}(h:TIs t σ H b)(h2:b=true->TIs u σ H c):TIs (HV t u) σ H (b&&c):=fun Q q=>h _ (by
 cases b with
 |false=>exact aZ q
 |true=>exact bh (h2 rfl _ q))
theorem TIs.or{t u:TT}{σ:L2.St}{H:Hp}{b c:Bool}(h:TIs t σ H b)(h2:b=false->TIs u σ H c):TIs (tOr t u) σ H (b || c):=fun Q q=>h _ (by
 cases b with
 |false=>exact aZ (h2 rfl _ q)
 |true=>exact bh q)
theorem TIs.not{t:TT}{σ:L2.St}{H:Hp}{b:Bool}(h:TIs t σ H b):TIs (AU t) σ H (!b):=fun Q q=>h _ q
theorem TIs.eq{t:TT}{σ:L2.St}{H:Hp}{b c:Bool}(h:TIs t σ H b)(e:b=c):TIs t σ H c:=e ▸ h
structure Adr where
 cP:Addr
 cR:Addr
 cT:Addr
 aF:Addr
 aR:Addr
 aS:Addr
 aM:Addr
def fu(i:Nat):Str:=Str.ofString (JM.EH.getD i "")
noncomputable def gm(i:Nat):Str:=if i<2 then "where" else if i<4 then "key" else if i<5 then "sum" else if i<6 then "count" else if i<7 then "see" else "list"
noncomputable def oH(i:Nat):Str:=if i=0 then "yes" else if i=1 then "no" else if i=2 then "holes" else if i=3 then "top" else if i<6 then "W" else if i=6 then "P" else if i=7 then "all" else if i=8 then "first" else "none"
noncomputable def sW:List (Str×V):=[("where",.int 0),("key",.int 1),("sum",.int 2),("count",.int 2),("see",.int 3),("list",.int 4)]
structure Txt(K:PySem.W.Frag)(w:World)(mg:Str->Option Value)(t:Adr):Prop where
 kEnd:∃u,mg "LINE_END" = some (.int 10 u)
 kNought:∃u,mg "NOUGHT" = some (.int 48 u)
 kNine:∃u,mg "NINE" = some (.int 57 u)
 kBytes:∃u,mg "MOST_BYTES" = some (.int 4096 u)
 kLines:∃u,mg "MOST_LINES" = some (.int 64 u)
 kPasses:∃u,mg "MOST_PASSES" = some (.int 250 u)
 kCols:∃u,mg "COLUMNS" = some (.int 80 u)
 kAmt:∃u,mg "MOST_AMOUNT_COLUMNS" = some (.int 18 u)
 kPlaces:∃u,mg "MOST_PLACES" = some (.int 132 u)
 kLong:∃u,mg "TOO_LONG" = some (.int (-1) u)
 kFaulty:∃u,mg "FAULTY" = some (.int (-6) u)
 gF:mg "FORMS" = some (.ref t.aF)
 sF:∀H,SqT K H t.aF ((List.range 10).map fun i=>V.str (fu i))
 gR:mg "RANGES" = some (.ref t.aR)
 dR:∃kvs,gz K w t.aR kvs/\∀c,(match JM.bz c with
  |some (lo,hi)=>∃p,kvs.lookup (⟨#[c]⟩:Str)=some (.ref p)/\∀H,SqT K H p [.int (lo:Nat),.int (hi:Nat)]
  |none=>kvs.lookup (⟨#[c]⟩:Str)=none)
 gS:mg "SORTS" = some (.ref t.aS)
 dS:gz K w t.aS sW
 gM:mg "MOST_OF_SORT" = some (.ref t.aM)
 sM:∀H,SqT K H t.aM [.int 16,.int 3,.int 8,.int 16,.int 1]
 clP:Cls K t.cP
 nPw:aE K t.cP "word"
 nPe:aE K t.cP "ending"
 nPn:aE K t.cP "numbers"
 clR:Cls K t.cR
 nRr:aE K t.cR "right"
 nRp:aE K t.cR "part"
 clT:Cls K t.cT
 nTp:aE K t.cT "parts"
 nTr:aE K t.cT "refusal"
 zLen:mg "len" = none
 zOrd:mg "ord" = none
 zSum:mg "sum" = none
 zEnum:mg "enumerate" = none
noncomputable def vB(b:UInt8):V:=.int (b.toNat:Int)
abbrev Bs:=List UInt8
def pf(i:Nat)(d:Addr):List (Str×V):=[("word",.str (gm i)),("ending",.str (oH i)),("numbers",.ref d)]
noncomputable def mm(cs vs:List Nat):List (Key×V):=(cs.zip vs).map fun p=>((Sum.inr ⟨#[p.1]⟩:Key),V.int (p.2:Int))
def dc(t:Adr)(H:Hp)(a:Addr)(x:JM.Pt):Prop:=∃dx d,H a=some (.ins t.cP dx (pf x.1 d))/\H d=some (.dK (mm (JM.cE (JM.jg x.1)) x.2))
noncomputable def rf(r:Nat)(v:V):List (Str×V):=[("right",.int (r:Int)),("part",v)]
def uC(t:Adr)(H:Hp)(p:Addr)(q:JM.Rd):Prop:=∃dx v,H p=some (.ins t.cR dx (rf q.1 v))/\(match q.2 with
 |none=>v=.non
 |some x=>∃a,v=.ref a/\dc t H a x)
structure dU{α:Type}(H:Hp)(p:Addr)(R:Hp->Addr->α->Prop)(xs:List α):Prop where
 ex:∃as:List Addr,H p=some (.lst (as.map V.ref))/\as.length=xs.length/\∀(j:Nat) (a:Addr) (x:α),as[j]?=some a->xs[j]?=some x->R H a x
def oI(H:Hp)(a:Addr)(L:Bs):Prop:=H a=some (.lst (L.map vB))
theorem dc.same{t:Adr}{H H':Hp}{a:Addr}{x:JM.Pt}(s:aq H H')(h:dc t H a x):dc t H' a x:=by
 obtain⟨dx,d,h1,h2⟩:=h;exact⟨dx,d,s _ _ h1,s _ _ h2⟩
theorem uC.same{t:Adr}{H H':Hp}{a:Addr}{x:JM.Rd}(s:aq H H')(h:uC t H a x):uC t H' a x:=by
 obtain⟨dx,v,h1,h2⟩:=h;refine⟨dx,v,s _ _ h1,?_⟩;obtain⟨r,o⟩:=x;cases o with
 |none=>exact h2
 |some y=>
  obtain⟨b,e,h3⟩:=h2;exact⟨b,e,h3.same s⟩
theorem ag{H:Hp}{p:Addr}{o:HO}(h:H p=none):aq H (upd H p o):=fun b u e=>by
 rw[af (a9 e h)];exact e
theorem dU.same{α:Type}{H H':Hp}{p:Addr}{R:Hp->Addr->α->Prop}{xs:List α}(s:aq H H')(hR:∀a x,R H a x->R H' a x)(h:dU H p R xs):dU H' p R xs:=by
 obtain⟨as,h1,h2,h3⟩:=h.ex;exact⟨as,s _ _ h1,h2,fun j a x ha hx=>hR a x (h3 j a x ha hx)⟩
section
variable{P:Program}{w:World}{K:PySem.W.Frag}{mg:Str->Option Value}{base:Heap}{t:Adr}{f:Addr}{fd:FuncData}
def EU:Sp:=fun vs H Q _=>∃v lo hi:Nat,vs=[.int (v:Int),.int (lo:Int),.int (hi:Int)]/\JM.Rg lo hi/\Q (.bl (JM.cN v lo hi)) H
theorem ui:au ["value", "low", "high", "first", "last"] ["value", "low", "high"] (ae Cg):=⟨rfl,rfl,rfl,by decide +kernel,rfl,by decide +kernel,by decide +kernel⟩
theorem Fy(F:Fun K "can_begin" "can_begin" Cg f fd):aT P w K mg base CX0 1 f fd ["value", "low", "high"] EU:=by
 refine F.ok ui (fun vs H Q E h=>?_) (fun cdv A outer s H vs Q E hr h=>?_)
 ·obtain⟨v,lo,hi,rfl,_⟩:=h;rfl
 ·obtain⟨v,lo,hi,rfl,rg,k⟩:=h;refine⟨_,a4 (aP (aB bY (pv 0) ah (aJ _)) (a8 (ai (e7 bY (pv 1) ah (aJ _)))) aD)
   (a4 (ax (i:=3) ui.nd rfl (Or.inl rfl) (pv 0))
   (a4 (ax (i:=4) ui.nd rfl (Or.inl rfl) (pv 0))
   (a4 (ot PassesOwn.never (aB fH (pv 3) (pv 2) (aJ _))
    (a4 (aP (aB EY (pv 4) (pv 1) (aJ _)) (a8 (ai iM)) aD)
    (a4 (ax (i:=3) ui.nd rfl (Or.inl rfl) (aQ gu (pv 3) ah))
    (a8 (ax (i:=4) ui.nd rfl (Or.inl rfl) (aQ c8 (aQ gu (pv 4) ah) ah))))))
   (a8 (ai iM))))),?_⟩
  refine⟨_,rfl,rfl,_,rfl,dF (fun e=>?_) (fun e=>?_)⟩
  ·have e0:v=0:=by
    have:=V.int.inj (of_decide_eq_true e);omega
   subst e0;refine⟨_,rfl,rfl,?_⟩;have q:JM.cN 0 lo hi=decide (V.int (lo:Int)=V.int 0):=by
    unfold JM.cN;rw[if_pos rfl,gk];apply Bool.eq_iff_iff.mpr;simp
   rw[q] at k;exact k
  ·have e0:v≠0:=by
    rintro rfl;exact e (decide_eq_true rfl)
   refine⟨_,rfl,_,rfl,?_⟩;have q:JM.cN v lo hi=JM.cbF 4 v v lo hi:=by
    unfold JM.cN;rw[if_neg e0]
   have hh:=rg.hi;refine⟨fun m σ H'=>∃a b:Nat,σ=[some (.int (v:Int)),some (.int (lo:Int)),some (.int (hi:Int)),some (.int (a:Int)),some (.int (b:Int))]/\H'=H/\JM.cN v lo hi=JM.cbF m a b lo hi/\hi<a * 10 ^ m,
    ⟨4,v,v,rfl,rfl,q,by omega⟩,?_⟩
   rintro m σ H' ⟨a,b,rfl,rfl,e1,e2⟩;refine⟨_,rfl,_,rfl,_,_,rfl,rfl,_,rfl,dF (fun le=>?_) (fun le=>?_)⟩
   ·have le:a<=hi:=by
     have:=of_decide_eq_true le;omega
    obtain⟨m,rfl⟩:∃n,m=n+1:=by
     cases m with
     |zero=>simp at e2;omega
     |succ n=>exact⟨n,rfl⟩
    rw[JM.xG,if_pos le] at e1;refine⟨_,fun _ _ h=>h,?_⟩
    refine⟨_,rfl,_,rfl,_,_,rfl,rfl,_,rfl,dF (fun ge=>?_) (fun ge=>?_)⟩
    ·have ge:lo<=b:=by
      have:=of_decide_eq_true ge;omega
     rw[if_pos ge] at e1;rw[e1] at k;exact k
    ·have ge:¬lo<=b:=fun z=>ge (decide_eq_true (by omega))
     rw[if_neg ge] at e1;refine⟨_,rfl,_,_,rfl,rfl,.inr ⟨by decide,by decide⟩,_,rfl,_,_,rfl,rfl,.inr ⟨by decide,by decide⟩,_,_,rfl,rfl,?_⟩
     refine⟨m,Nat.lt_succ_self m,a * 10,b * 10+9,?_,rfl,e1,?_⟩
     ·show[_,_,_,some (V.int ((a:Int) * 10)),some (V.int ((b:Int) * 10+9))]=_;rw[show(a:Int) * 10=((a * 10:Nat):Int) by omega,show(b:Int) * 10+9=((b * 10+9:Nat):Int) by omega]
     ·rw[Nat.pow_succ] at e2;rw[Nat.mul_assoc,Nat.mul_comm 10];exact e2
   ·have le:¬a<=hi:=fun z=>le (decide_eq_true (by omega))
    have e3:JM.cbF m a b lo hi=false:=by
     cases m with
     |zero=>rfl
     |succ m=>rw[JM.xG,if_neg le]
    rw[e1,e3] at k;exact k
def EO(K:PySem.W.Frag):Sp:=fun vs H Q _=>∃(a:Addr) (i lo hi:Nat) (L:Bs),vs=[.ref a,.int (i:Int),.int (lo:Int),.int (hi:Int)]/\JM.Rg lo hi/\SqL K H a (L.map vB)/\i<=L.length/\Q (.int ((i+JM.bq lo hi (L.drop i):Nat):Int)) H
theorem rZ:au ["line", "at", "low", "high", "end", "value"] ["line", "at", "low", "high"] (ae DN):=⟨rfl,rfl,rfl,by decide +kernel,rfl,by decide +kernel,by decide +kernel⟩
theorem GG(F:Fun K "figures_end" "figures_end" DN f fd)(T:Txt K w mg t)(cCan:Cal P w K mg base "can_begin" 1 ["value", "low", "high"] EU):aT P w K mg base CX0 2 f fd ["line", "at", "low", "high"] (EO K):=by
 refine F.ok rZ (fun vs H Q E h=>?_) (fun cdv A outer s H vs Q E hr h=>?_)
 ·obtain⟨a,i,lo,hi,L,rfl,_⟩:=h;rfl
 ·obtain⟨a,i,lo,hi,L,rfl,rg,hS,hi',k⟩:=h;refine⟨_,a4 (ax (i:=4) rZ.nd rfl (Or.inl rfl) (pv 1))
   (a4 (ax (i:=5) rZ.nd rfl (Or.inl rfl) ah)
   (a4 (ot PassesOwn.never (PW.pt (oC (aB jY (pv 4) (b6 aU rfl T.zLen PySem.boot_len (a0 (pv 0) a5)) (aJ _)) (km (jW fH fH (bH T.kNought rfl) (bp bK (pv 0) (pv 4) (fun _ _=>rfl)) (bH T.kNine rfl)))))
    (a4 (aP (PW.pt (oC (aB iU (pv 4) (pv 1) (aJ _)) (km (aB bY (pv 5) ah (aJ _))))) (a8 (ai (pv 4))) aD)
    (a4 (ax (i:=5) rZ.nd rfl (Or.inl rfl) (aQ fi (aQ c8 (aQ gu (pv 5) ah) (bp bK (pv 0) (pv 4) (fun _ _=>rfl))) (bH T.kNought rfl)))
    (a4 (aP (eg (fY (az cCan hr (by decide) rfl (a0 (pv 5) (a0 (pv 2) (a0 (pv 3) a5)))))) (a8 (ai (pv 4))) aD)
    (a8 (vt (i:=4) rZ.nd rfl (Or.inl rfl) ah nN))))))
   (a8 (ai (pv 4))))),?_⟩
  refine⟨_,rfl,?_⟩;refine⟨fun m σ H'=>∃e v:Nat,m=L.length-e/\σ=[some (.ref a),some (.int (i:Int)),some (.int (lo:Int)),some (.int (hi:Int)),some (.int (e:Int)),some (.int (v:Int))]/\H'=H/\i<=e/\e<=L.length/\
    JM.bq lo hi (L.drop i)=e-i+JM.eC lo hi v (decide (i<e)) (L.drop e),⟨_,i,0,rfl,rfl,rfl,Nat.le_refl _,hi',?_⟩,?_⟩
  ·rw[Nat.sub_self,Nat.zero_add,decide_eq_false (Nat.lt_irrefl i)];rfl
  ·rintro m σ H' ⟨e,v,rfl,rfl,rfl,h1,h2,h3⟩;have out:JM.eC lo hi v (decide (i<e)) (L.drop e)=0->Q (.int (e:Int)) H':=fun z=>by
    rw[z] at h3;rw[h3,show i+(e-i+0)=e by omega] at k
    exact k
   have ix:e<L.length->atI (L.map vB) (e:Int)=some (vB (L.getD e 0)):=fun lt=>da (by
    rw[List.getElem?_map,List.getElem?_eq_getElem lt,List.getD_eq_getElem?_getD,List.getElem?_eq_getElem lt];rfl)
   have test:TIs _ _ H' (decide (e<L.length)&&JM.cn (L.getD e 0)):=TIs.and (t:=dM (tOp (rI0 fun i j=>.bl (decide (i<j))) (cb 4) (tCB (fun xs H Q=>∃p ys,xs=[.ref p]/\(SqL K H p ys\/SqT K H p ys)/\Q (.int ys.length) H) (gC (cb 0) jz))))
    (u:=dM (kG (rI0 fun i j=>.bl (decide (i<=j))) (rI0 fun i j=>.bl (decide (i<=j))) (tC (.int 48)) (tOp (yz K) (cb 0) (cb 4)) (tC (.int 57)))) (σ:=[some (.ref a),some (.int (i:Int)),some (.int (lo:Int)),some (.int (hi:Int)),some (.int (e:Int)),some (.int (v:Int))])
    (fun Q q=>⟨_,rfl,_,rfl,a,_,rfl,.inl hS,_,_,rfl,rfl,_,rfl,by
     have z:decide ((e:Int)<((L.map vB).length:Int))=decide (e<L.length):=by
      rw[List.length_map];exact decide_eq_decide.mpr (by omega)
     rw[z];exact q⟩)
    (fun lt Q q=>by
     have lt:=of_decide_eq_true lt;refine⟨_,rfl,_,rfl,a,_,_,_,rfl,rfl,hS,ix lt,_,_,rfl,rfl,_,rfl,dF (fun g=>?_) (fun g=>?_)⟩
     ·refine⟨_,_,rfl,rfl,_,rfl,?_⟩;have z:decide (((L.getD e 0).toNat:Int)<=57)=JM.cn (L.getD e 0):=by
       have g:=of_decide_eq_true g;unfold JM.cn;rw[decide_eq_true (show 48<=(L.getD e 0).toNat by omega),Bool.true_and]
       exact decide_eq_decide.mpr (by omega)
      rw[z];exact q
     ·refine⟨_,rfl,?_⟩;have z:JM.cn (L.getD e 0)=false:=by
       unfold JM.cn;rw[decide_eq_false (show ¬48<=(L.getD e 0).toNat from fun z=>g (decide_eq_true (by omega))),Bool.false_and]
      rw[z] at q;exact q)
   refine test _ (dF (fun g=>?_) (fun g=>?_))
   ·rw[Bool.and_eq_true,decide_eq_true_eq] at g;obtain⟨lt,dg⟩:=g;have ix:=ix lt;have dr:L.drop e=L.getD e 0::L.drop (e+1):=by
     rw[List.drop_eq_getElem_cons lt,List.getD_eq_getElem?_getD,List.getElem?_eq_getElem lt];rfl
    generalize L.getD e 0=c at ix dr dg;refine⟨_,fun _ _ h=>h,?_⟩
    have test2:TIs _ _ H' (decide (i<e)&&decide (v=0)):=TIs.and (t:=dM (tOp (rI0 fun i j=>.bl (decide (j<i))) (cb 4) (cb 1))) (u:=dM (tOp rEq (cb 5) (tC (.int 0)))) (σ:=[some (.ref a),some (.int (i:Int)),some (.int (lo:Int)),some (.int (hi:Int)),some (.int (e:Int)),some (.int (v:Int))])
     (fun Q q=>⟨_,rfl,_,rfl,_,_,rfl,rfl,_,rfl,by
      rw[show decide ((i:Int)<(e:Int))=decide (i<e) from decide_eq_decide.mpr (by omega)]
      exact q⟩)
     (fun _ Q q=>⟨_,rfl,rfl,_,rfl,by
      rw[show decide (V.int (v:Int)=V.int 0)=decide (v=0) by rw[gk];exact Bool.eq_iff_iff.mpr (by simp)]
      exact q⟩)
    refine test2 _ (dF (fun g=>?_) (fun g=>?_))
    ·refine⟨_,rfl,out ?_⟩;rw[Bool.and_eq_true,decide_eq_true_eq,decide_eq_true_eq] at g;rw[dr,JM.eC,if_neg];rintro⟨_,q,_⟩;exact q ⟨decide_eq_true g.1,g.2⟩
    ·have hd:=dg;unfold JM.cn at hd;rw[Bool.and_eq_true,decide_eq_true_eq,decide_eq_true_eq] at hd;have ev:(v:Int) * 10+(c.toNat:Int)-48=((10 * v+JM.dv c:Nat):Int):=by
      unfold JM.dv;omega
     refine⟨_,rfl,_,_,rfl,rfl,.inr ⟨by decide,by decide⟩,_,rfl,_,rfl,a,_,_,_,rfl,rfl,hS,ix,_,_,rfl,rfl,_,_,rfl,rfl,?_⟩
     refine⟨_,rfl,_,rfl,_,rfl,10 * v+JM.dv c,lo,hi,?_,rg,_,rfl,?_⟩
     ·show[V.int ((v:Int) * 10+(c.toNat:Int)-48),_,_]=_;rw[ev]
     ·cases q:JM.cN (10 * v+JM.dv c) lo hi with
      |false=>
       refine bh ⟨_,rfl,out ?_⟩;rw[dr,JM.eC,if_neg];rintro⟨_,_,z⟩;rw[q] at z;cases z
      |true=>
       refine aZ ⟨_,rfl,_,_,rfl,rfl,?_⟩;refine⟨_,Nat.sub_succ_lt_self _ _ lt,e+1,10 * v+JM.dv c,rfl,?_,rfl,by omega,lt,?_⟩
       ·show[_,_,_,_,some (V.int ((e:Int)+1)),some (V.int ((v:Int) * 10+(c.toNat:Int)-48))]=_;rw[ev];rfl
       ·rw[h3,dr,JM.eC,if_pos ⟨dg,fun z=>g (by rw[Bool.and_eq_true];exact⟨z.1,decide_eq_true z.2⟩),q⟩,decide_eq_true (show i<e+1 by omega)]
        omega
   ·refine⟨_,rfl,out ?_⟩;by_cases lt:e<L.length
    ·have dr:L.drop e=L.getD e 0::L.drop (e+1):=by
      rw[List.drop_eq_getElem_cons lt,List.getD_eq_getElem?_getD,List.getElem?_eq_getElem lt];rfl
     rw[dr,JM.eC,if_neg];rintro⟨z,_⟩;exact g (by rw[Bool.and_eq_true,decide_eq_true_eq];exact⟨lt,z⟩)
    ·rw[List.drop_eq_nil_of_le (by omega)]
     rfl
def Aj(K:PySem.W.Frag):Sp:=fun vs H Q _=>∃(a:Addr) (d:Bs),vs=[.ref a]/\SqL K H a (d.map vB)/\(∀c∈d,JM.cn c=true)/\Q (.int ((Pu.valueOf d:Nat):Int)) H
theorem wQ:au ["figures", "value", "figure"] ["figures"] (ae DH):=⟨rfl,rfl,rfl,by decide +kernel,rfl,by decide +kernel,by decide +kernel⟩
theorem AX{L:Bs}{i:Nat}{y:V}(h:(L.map vB)[i]?=some y):∃c,L[i]?=some c/\y=vB c:=by
 rw[List.getElem?_map] at h;cases e:L[i]? with
 |none=>rw[e] at h;cases h
 |some c=>rw[e] at h;exact⟨c,rfl,(Option.some.inj h).symm⟩
theorem FR(F:Fun K "number_of" "number_of" DH f fd)(T:Txt K w mg t):aT P w K mg base CX0 1 f fd ["figures"] (Aj K):=by
 refine F.ok wQ (fun vs H Q E h=>?_) (fun cdv A outer s H vs Q E hr h=>?_)
 ·obtain⟨a,d,rfl,_⟩:=h;rfl
 ·obtain⟨a,d,rfl,hS,hd,k⟩:=h;refine⟨_,a4 (ax (i:=1) wQ.nd rfl (Or.inl rfl) ah)
   (a4 (bM PassesOwn.never rfl (bu (pv 0)) (aH (i:=2) wQ.nd rfl (Or.inl rfl))
    (a8 (ax (i:=1) wQ.nd rfl (Or.inl rfl) (aQ fi (aQ c8 (aQ gu (pv 1) ah) (pv 2)) (bH T.kNought rfl)))))
   (a8 (ai (pv 1)))),?_⟩
  refine⟨_,rfl,a,rfl,⟨_,hS⟩,d4 (K:=K) (a:=a) (xs:=d.map vB) (fun i σ H'=>∃x:Option V,σ=[some (.ref a),some (.int ((Pu.valueOf (d.take i):Nat):Int)),x]/\H'=H) ⟨none,rfl,rfl⟩ (by rintro i σ H' _ ⟨_,_,e⟩;exact by rw[e];exact hS) ?_ ?_⟩
  ·rintro i y σ H' hi ⟨x,rfl,rfl⟩;obtain⟨c,hc,rfl⟩:=AX hi;have dg:=hd c (List.mem_of_getElem? hc);refine⟨_,rfl,_,_,rfl,rfl,.inr ⟨by decide,by decide⟩,_,rfl,_,_,rfl,rfl,_,_,rfl,rfl,?_⟩
   refine⟨some (vB c),?_,rfl⟩;show[_,some (V.int (((Pu.valueOf (d.take i):Nat):Int) * 10+(c.toNat:Int)-48)),some (vB c)]=_;have hd:=dg;unfold JM.cn at hd;rw[Bool.and_eq_true,decide_eq_true_eq,decide_eq_true_eq] at hd;rw[JM.cH hc,JM.fz];congr 4;unfold JM.dv;omega
  ·rintro σ H' ⟨x,rfl,rfl⟩;rw[List.length_map,List.take_length];exact⟨_,rfl,k⟩
def xA(K:PySem.W.Frag):Sp:=fun vs H Q _=>∃(c:Nat) (a:Addr) (i:Nat) (L:Bs),vs=[.str ⟨#[c]⟩,.ref a,.int (i:Int)]/\SqL K H a (L.map vB)/\i<=L.length/\Q (.int ((i+JM.dq c (L.drop i):Nat):Int)) H
theorem C9:au ["sign", "line", "at"] ["sign", "line", "at"] (ae qH):=⟨rfl,rfl,rfl,by decide +kernel,rfl,by decide +kernel,by decide +kernel⟩
theorem pL{L:Bs}{i:Nat}(lt:i<L.length):L.drop i=L.getD i 0::L.drop (i+1):=by
 rw[List.drop_eq_getElem_cons lt,List.getD_eq_getElem?_getD,List.getElem?_eq_getElem lt];rfl
theorem Iy{L:Bs}{i:Nat}(lt:i<L.length):atI (L.map vB) (i:Int)=some (vB (L.getD i 0)):=da (by
 rw[List.getElem?_map,List.getElem?_eq_getElem lt,List.getD_eq_getElem?_getD,List.getElem?_eq_getElem lt];rfl)
theorem BA(F:Fun K "right_end" "right_end" qH f fd)(T:Txt K w mg t)(cFig:Cal P w K mg base "figures_end" 2 ["line", "at", "low", "high"] (EO K)):aT P w K mg base CX0 3 f fd ["sign", "line", "at"] (xA K):=by
 refine F.ok C9 (fun vs H Q E h=>?_) (fun cdv A outer s H vs Q E hr h=>?_)
 ·obtain⟨c,a,i,L,rfl,_⟩:=h;rfl
 ·obtain⟨c,a,i,L,rfl,hS,hi',k⟩:=h;obtain⟨kvs,D,hR⟩:=T.dR;have hR:=hR c;refine⟨_,a4 (aP (nX (uI (pv 0) (je T.gR rfl))) (a8 (ai (az cFig hr (by decide) rfl (a0 (pv 1) (a0 (pv 2) (a0 (bp cu (j5 (je T.gR rfl) (pv 0) (fun _ _=>rfl)) ah (fun _ _=>rfl)) (a0 (bp cu (j5 (je T.gR rfl) (pv 0) (fun _ _=>rfl)) ah (fun _ _=>rfl)) a5))))))) aD)
   (a4 (aP (PW.pt (oC (aB jY (pv 2) (b6 aU rfl T.zLen PySem.boot_len (a0 (pv 1) a5)) (aJ _)) (km (aB bY (bp bK (pv 1) (pv 2) (fun _ _=>rfl)) (b6 tp rfl T.zOrd boot_ord (a0 (pv 0) a5)) (aJ _))))) (a8 (ai (aQ c8 (pv 2) ah))) aD)
   (a8 (ai (pv 2)))),?_⟩
  refine⟨_,rfl,t.aR,kvs,_,rfl,rfl,D,_,rfl,?_⟩;unfold JM.dq at k;cases e:JM.bz c with
  |some q=>
   obtain⟨lo,hi⟩:=q;rw[e] at hR k;obtain⟨p,hl,hs⟩:=hR;rw[hl];refine bh ⟨_,rfl,_,rfl,_,rfl,t.aR,kvs,_,_,rfl,rfl,D,hl,p,_,_,_,rfl,rfl,hs _,rfl,_,rfl,t.aR,kvs,_,_,rfl,rfl,D,hl,p,_,_,_,rfl,rfl,hs _,rfl,a,i,lo,hi,L,rfl,JM.vh e,hS,hi',k⟩
  |none=>
   rw[e] at hR k;have hR:kvs.lookup (⟨#[c]⟩:Str)=none:=hR;rw[hR];refine aZ ?_;dsimp only at k;have test:TIs _ _ H (decide (i<L.length)&&decide ((L.getD i 0).toNat=c)):=TIs.and (t:=dM (tOp (rI0 fun i j=>.bl (decide (i<j))) (cb 2) (tCB (fun xs H Q=>∃p ys,xs=[.ref p]/\(SqL K H p ys\/SqT K H p ys)/\Q (.int ys.length) H) (gC (cb 1) jz))))
    (u:=dM (tOp rEq (tOp (yz K) (cb 1) (cb 2)) (tCB (fun xs H Q=>∃x,xs=[.str x]/\x.length=1/\Q (.int (x.cps.getD 0 0:Nat)) H) (gC (cb 0) jz)))) (σ:=[some (.str ⟨#[c]⟩),some (.ref a),some (.int (i:Int))])
    (fun Q q=>⟨_,rfl,_,rfl,a,_,rfl,.inl hS,_,_,rfl,rfl,_,rfl,by
     have z:decide ((i:Int)<((L.map vB).length:Int))=decide (i<L.length):=by
      rw[List.length_map];exact decide_eq_decide.mpr (by omega)
     rw[z];exact q⟩)
    (fun lt Q q=>⟨_,rfl,_,rfl,a,_,_,_,rfl,rfl,hS,Iy (of_decide_eq_true lt),_,rfl,_,rfl,rfl,rfl,_,rfl,by
     have z:decide (vB (L.getD i 0)=V.int ((c:Nat):Int))=decide ((L.getD i 0).toNat=c):=by
      unfold vB;rw[gk];exact Bool.eq_iff_iff.mpr (by simp;omega)
     exact z ▸ q⟩)
   refine test _ (dF (fun g=>?_) (fun g=>?_))
   ·rw[Bool.and_eq_true,decide_eq_true_eq,decide_eq_true_eq] at g;rw[pL g.1] at k;dsimp only at k;rw[if_pos g.2] at k;exact⟨_,rfl,_,_,rfl,rfl,k⟩
   ·refine⟨_,rfl,?_⟩;by_cases lt:i<L.length
    ·rw[pL lt] at k;dsimp only at k;rw[if_neg (fun z=>g (by rw[Bool.and_eq_true,decide_eq_true_eq,decide_eq_true_eq];exact⟨lt,z⟩))] at k
     exact k
    ·rw[List.drop_eq_nil_of_le (by omega)] at k
     exact k
def wF(K:PySem.W.Frag):Sp:=fun vs H Q _=>∃(c:Nat) (a:Addr) (d:Bs),vs=[.str ⟨#[c]⟩,.ref a]/\SqL K H a (d.map vB)/\((JM.bz c).isSome=true->∀x∈d,JM.cn x=true)/\Q (.bl (JM.fm c d)) H
theorem C6:au ["sign", "found"] ["sign", "found"] (ae qL):=⟨rfl,rfl,rfl,by decide +kernel,rfl,by decide +kernel,by decide +kernel⟩
theorem AM(F:Fun K "is_whole" "is_whole" qL f fd)(T:Txt K w mg t)(cNum:Cal P w K mg base "number_of" 1 ["figures"] (Aj K)):aT P w K mg base CX0 2 f fd ["sign", "found"] (wF K):=by
 refine F.ok C6 (fun vs H Q E h=>?_) (fun cdv A outer s H vs Q E hr h=>?_)
 ·obtain⟨c,a,d,rfl,_⟩:=h;rfl
 ·obtain⟨c,a,d,rfl,hS,hd,k⟩:=h;obtain⟨kvs,D,hR⟩:=T.dR;have hR:=hR c;refine⟨_,a4 (aP (eg (dY (pv 1) (fun _=>rfl))) (a8 (ai iM)) aD)
   (a4 (aP (nX (uI (pv 0) (je T.gR rfl))) (a8 (ai (tD fH fH (bp cu (j5 (je T.gR rfl) (pv 0) (fun _ _=>rfl)) ah (fun _ _=>rfl)) (az cNum hr (by decide) rfl (a0 (pv 1) a5)) (bp cu (j5 (je T.gR rfl) (pv 0) (fun _ _=>rfl)) ah (fun _ _=>rfl))))) aD)
   (a8 (ai iM))),?_⟩
  refine⟨_,rfl,_,.inl ⟨_,hS,rfl⟩,?_⟩;unfold JM.fm at k;by_cases de:d=[]
  ·subst de;refine bh ?_;exact k
  ·have em:(d.map vB).isEmpty=false:=by
    cases d with
    |nil=>exact absurd rfl de
    |cons _ _=>rfl
   rw[em];refine aZ ?_;rw[decide_eq_true de,Bool.true_and] at k;refine⟨_,rfl,t.aR,kvs,_,rfl,rfl,D,_,rfl,?_⟩;cases e:JM.bz c with
   |some q=>
    obtain⟨lo,hi⟩:=q;rw[e] at hR k hd;obtain⟨p,hl,hs⟩:=hR;rw[hl];refine bh ⟨_,rfl,t.aR,kvs,_,_,rfl,rfl,D,hl,p,_,_,_,rfl,rfl,hs _,rfl,_,rfl,a,d,rfl,hS,hd rfl,_,_,rfl,rfl,_,rfl,?_⟩;dsimp only at k;unfold JM.dN at k;have z:decide ((lo:Int)<=((Pu.valueOf d:Nat):Int))=decide (lo<=Pu.valueOf d):=decide_eq_decide.mpr (by omega)
    have z2:decide (((Pu.valueOf d:Nat):Int)<=(hi:Int))=decide (Pu.valueOf d<=hi):=decide_eq_decide.mpr (by omega)
    refine dF (fun g=>?_) (fun g=>?_)
    ·rw[z] at g;rw[g,Bool.true_and] at k;refine⟨_,rfl,t.aR,kvs,_,_,rfl,rfl,D,hl,p,_,_,_,rfl,rfl,hs _,rfl,_,_,rfl,rfl,?_⟩;rw[<-z2] at k;exact k
    ·rw[z] at g;rw[(Bool.not_eq_true _).mp g,Bool.false_and] at k;exact k
   |none=>
    rw[e] at hR k;have hR:kvs.lookup (⟨#[c]⟩:Str)=none:=hR;rw[hR];exact aZ k
def rE(t:Adr):Sp:=fun vs H Q _=>∃(p dx:Addr) (r:Nat) (v:V),vs=[.ref p,.int (r:Int),v]/\H p=some (.ins t.cR dx [])/\∀H':Hp,H' p=some (.ins t.cR dx (rf r v))->(∀b o,H b=some o->b≠p->H' b=some o)->Q .non H'
theorem Cf:au ["self", "right", "part"] ["self", "right", "part"] (ae qy):=⟨rfl,rfl,rfl,by decide +kernel,rfl,by decide +kernel,by decide +kernel⟩
theorem A0(F:Fun K "__init__" "Reading.__init__" qy f fd)(T:Txt K w mg t):aT P w K mg base CX0 1 f fd ["self", "right", "part"] (rE t):=by
 refine F.ok Cf (fun vs H Q E h=>?_) (fun cdv A outer s H vs Q E hr h=>?_)
 ·obtain⟨p,dx,r,v,rfl,_⟩:=h;rfl
 ·obtain⟨p,dx,r,v,rfl,hp,k⟩:=h;refine⟨_,a4 (c7 (pv 0) (pv 1) rfl) (a8 (c7 (pv 0) (pv 2) rfl)),?_⟩;refine⟨_,rfl,_,rfl,p,t.cR,dx,[],rfl,hp,T.clR,T.nRr,(by show 0<1000;decide),?_⟩
  refine⟨_,rfl,_,rfl,p,t.cR,dx,_,rfl,a7,T.clR,T.nRp,(by show 1<1000;decide),?_⟩
  exact k _ a7 fun b o e hb=>by rw[af hb,af hb];exact e
def wO(t:Adr):Sp:=fun vs H Q _=>∃(p dx:Addr) (u v:V),vs=[.ref p,u,v]/\H p=some (.ins t.cT dx [])/\∀H':Hp,H' p=some (.ins t.cT dx [("parts",u),("refusal",v)])->(∀b o,H b=some o->b≠p->H' b=some o)->Q .non H'
theorem E7:au ["self", "parts", "refusal"] ["self", "parts", "refusal"] (ae qm):=⟨rfl,rfl,rfl,by decide +kernel,rfl,by decide +kernel,by decide +kernel⟩
theorem BC(F:Fun K "__init__" "Report.__init__" qm f fd)(T:Txt K w mg t):aT P w K mg base CX0 1 f fd ["self", "parts", "refusal"] (wO t):=by
 refine F.ok E7 (fun vs H Q E h=>?_) (fun cdv A outer s H vs Q E hr h=>?_)
 ·obtain⟨p,dx,r,v,rfl,_⟩:=h;rfl
 ·obtain⟨p,dx,u,v,rfl,hp,k⟩:=h;refine⟨_,a4 (c7 (pv 0) (pv 1) rfl) (a8 (c7 (pv 0) (pv 2) rfl)),?_⟩;refine⟨_,rfl,_,rfl,p,t.cT,dx,[],rfl,hp,T.clT,T.nTp,(by show 0<1000;decide),?_⟩
  refine⟨_,rfl,_,rfl,p,t.cT,dx,_,rfl,a7,T.clT,T.nTr,(by show 1<1000;decide),?_⟩
  exact k _ a7 fun b o e hb=>by rw[af hb,af hb];exact e
def xB(t:Adr):Sp:=fun vs H Q _=>∃(p dx d:Addr) (i:Nat),vs=[.ref p,.str (fu i),.ref d]/\i<10/\H p=some (.ins t.cP dx [])/\∀H':Hp,H' p=some (.ins t.cP dx (pf i d))->(∀b o,H b=some o->b≠p->H' b=some o)->Q .non H'
theorem vZ:au ["self", "form", "numbers", "words"] ["self", "form", "numbers"] (ae rB):=⟨rfl,rfl,rfl,by decide +kernel,rfl,by decide +kernel,by decide +kernel⟩
theorem tX:∀i,i<10->(Txt.words (fu i)).head?=some (gm i)/\(Txt.words (fu i)).getLast?=some (oH i)/\(fu i).length+2<=100:=by decide +kernel
theorem Dh{α:Type}{l:List α}{x:α}(h:l.head?=some x):atI l 0=some x:=by
 cases l with
 |nil=>cases h
 |cons a r=>
  cases h;exact da (j:=0) rfl
theorem qr{α:Type}{l:List α}{x:α}(h:l.getLast?=some x):atI l (-1)=some x:=by
 obtain⟨r,rfl⟩:=List.getLast?_eq_some_iff.mp h;exact A3 r x
theorem AN(F:Fun K "__init__" "Part.__init__" rB f fd)(T:Txt K w mg t):aT P w K mg base CX0 1 f fd ["self", "form", "numbers"] (xB t):=by
 refine F.ok vZ (fun vs H Q E h=>?_) (fun cdv A outer s H vs Q E hr h=>?_)
 ·obtain⟨p,dx,d,i,rfl,_⟩:=h;rfl
 ·obtain⟨p,dx,d,i,rfl,hi,hp,k⟩:=h;obtain⟨w1,w2,w3⟩:=tX i hi;refine⟨_,a4 (ax (i:=3) vZ.nd rfl (Or.inl rfl) (Bm (pv 1)))
   (a4 (c7 (pv 0) (bp bK (pv 3) ah (fun _ _=>rfl)) rfl)
   (a4 (c7 (pv 0) (bp bK (pv 3) (i7 fk ah) (fun _ _=>rfl)) rfl)
   (a8 (c7 (pv 0) (pv 2) rfl)))),?_⟩
  refine⟨_,rfl,⟨_,rfl⟩,_,rfl,rfl,Nat.le_trans w3 (by decide),fun l hl=>?_⟩
  have npl:p≠l:=a9 hp hl;have a1:atI ((Txt.words (fu i)).map V.str) 0=some (.str (gm i)):=Dh (by rw[List.head?_map,w1];rfl)
  have a2:atI ((Txt.words (fu i)).map V.str) (-1)=some (.str (oH i)):=qr (by rw[List.getLast?_map,w2];rfl)
  have l1:upd H l (.lst ((Txt.words (fu i)).map V.str)) l=some (.lst ((Txt.words (fu i)).map V.str)):=a7;refine⟨_,rfl,l,_,_,_,rfl,rfl,SqL.of l1,a1,_,rfl,p,t.cP,dx,[],rfl,by rw[af npl];exact hp,T.clP,T.nPw,(by show 0<1000;decide),?_⟩
  refine⟨_,rfl,_,rfl,l,_,_,_,rfl,rfl,SqL.of (by rw[af (Ne.symm npl)];exact l1),a2,_,rfl,p,t.cP,dx,_,rfl,a7,T.clP,T.nPe,(by show 1<1000;decide),?_⟩
  refine⟨_,rfl,_,rfl,p,t.cP,dx,_,rfl,a7,T.clP,T.nPn,(by show 2<1000;decide),?_⟩
  exact k _ a7 fun b o e hb=>by
   rw[af hb,af hb,af hb,af (a9 e hl)];exact e
def ID(K:PySem.W.Frag)(t:Adr):Sp:=fun vs H Q _=>∃(i:Nat) (a:Addr) (L:Bs),vs=[.str (fu i),.ref a]/\i<10/\SqL K H a (L.map vB)/\∀(H':Hp) (p:Addr),aq H H'->uC t H' p (JM.fj i L)->Q (.ref p) H'
theorem vJ:au ["form", "line", "numbers", "at", "sign", "end", "found"] ["form", "line"] (ae sBy):=⟨rfl,rfl,rfl,by decide +kernel,rfl,by decide +kernel,by decide +kernel⟩
theorem zk(i:Nat):(fu i).cps.toList=JM.jg i:=TL.tl_ofString _
theorem Gh{L:Bs}{i j:Nat}(h1:i<=j)(h2:j<=L.length):ic (L.map vB) (some (i:Int)) (some (j:Int))=((L.drop i).take (j-i)).map vB:=by
 unfold ic;rw[HT.sIx_nat,HT.sIx_nat,List.length_map,Nat.min_eq_left h2,Nat.min_eq_left (Nat.le_trans h1 h2),List.map_take,List.map_drop]
theorem fw{cs:List Nat}{j c:Nat}(h:cs[j]?=some c):JM.cE (cs.take (j+1))=if(JM.bz c).isSome=true then JM.cE (cs.take j)++[c] else JM.cE (cs.take j):=by
 unfold JM.cE;rw[JM.cH h,List.filter_append,List.filter_cons,List.filter_nil];split
 ·rfl
 ·rw[List.append_nil]
theorem oJ{cs:List Nat}{j c:Nat}(nd:(JM.cE cs).Nodup)(h:cs[j]?=some c)(hc:(JM.bz c).isSome=true):c ∉ JM.cE (cs.take j):=by
 intro hm;have e:cs=cs.take j++c::cs.drop (j+1):=by
  obtain⟨hl,e⟩:=List.getElem?_eq_some_iff.mp h;rw[<-e,<-List.drop_eq_getElem_cons hl,List.take_append_drop]
 unfold JM.cE at nd hm;rw[e,List.filter_append,List.filter_cons,if_pos hc] at nd;have:=(List.nodup_append.mp nd).2.2 c hm c (by simp)
 exact this rfl
theorem yN{cs vs:List Nat}{c v:Nat}(hl:cs.length=vs.length):mm (cs++[c]) (vs++[v])=mm cs vs++[((Sum.inr ⟨#[c]⟩:Key),V.int (v:Int))]:=by
 unfold mm;rw[List.zip_append hl,List.map_append];rfl
theorem yC{cs vs:List Nat}{c:Nat}(h:c ∉ cs):cw (mm cs vs) (Sum.inr ⟨#[c]⟩)=none:=by
 unfold mm
 induction cs generalizing vs with
 |nil=>rfl
 |cons a cs ih=>
  cases vs with
  |nil=>rfl
  |cons v vs=>
   rw[List.zip_cons_cons,List.map_cons,cx]
   ·exact ih fun z=>h (List.mem_cons_of_mem _ z)
   ·intro z;have z1:=Sum.inr.inj z;have z2:#[a]=#[c]:=congrArg Str.cps z1;have z3:a=c:=by simpa using z2
    exact h (by rw[z3];exact List.mem_cons_self)
theorem tL{kvs:List (Key×V)}{k:Key}{v:V}(h:cw kvs k=none):dt kvs k v=kvs++[(k,v)]:=by
 unfold dt;rw[if_neg];rw[gH,h]
 decide
theorem oG{cs:List Nat}{j c:Nat}(h:cs[j]?=some c):cs.drop j=c::cs.drop (j+1):=by
 obtain⟨hl,e⟩:=List.getElem?_eq_some_iff.mp h;rw[<-e,<-List.drop_eq_getElem_cons hl]
theorem Io(F:Fun K "read_by" "read_by" sBy f fd)(T:Txt K w mg t)(cRight:Cal P w K mg base "right_end" 3 ["sign", "line", "at"] (xA K))(cWhole:Cal P w K mg base "is_whole" 2 ["sign", "found"] (wF K))
  (cNum:Cal P w K mg base "number_of" 1 ["figures"] (Aj K)) (mR:Mak P w K mg base "Reading" t.cR 1 ["self", "right", "part"] (rE t)) (mP:Mak P w K mg base "Part" t.cP 1 ["self", "form", "numbers"] (xB t)) :
  aT P w K mg base CX0 4 f fd ["form", "line"] (ID K t):=by
 refine F.ok vJ (fun vs H Q E h=>?_) (fun cdv A outer s H vs Q E hr h=>?_)
 ·obtain⟨i,a,L,rfl,_⟩:=h;rfl
 ·obtain⟨i,a,L,rfl,hi,hS,k⟩:=h;rw[JM.Ee hi] at k;have nd:=JM.vm i hi;have cps:=zk i;generalize ec:JM.jg i=cs at k nd cps;obtain⟨kvs,D,hR⟩:=T.dR;have hu:=eU hr;refine⟨_,a4 (ax (i:=2) vJ.nd rfl (Or.inl rfl) ur)
   (a4 (ax (i:=3) vJ.nd rfl (Or.inl rfl) ah)
   (a4 (bM PassesOwn.never rfl (zo (pv 0)) (aH (i:=4) vJ.nd rfl (Or.inl rfl))
    (a4 (ax (i:=5) vJ.nd rfl (Or.inl rfl) (az cRight hr (by decide) rfl (a0 (pv 4) (a0 (pv 1) (a0 (pv 3) a5)))))
    (a4 (ax (i:=6) vJ.nd rfl (Or.inl rfl) (gB iZ (pv 1) (fD (pv 3)) (fD (pv 5))))
    (a4 (aP (eg (fY (az cWhole hr (by decide) rfl (a0 (pv 4) (a0 (pv 6) a5))))) (a8 (ai (fo mR hr (by decide) rfl (a0 (pv 5) (a0 cG a5))))) aD)
    (a4 (aP (nX (uI (pv 4) (je T.gR rfl))) (a8 (jL hu (pv 2) (pv 4) (az cNum hr (by decide) rfl (a0 (pv 6) a5)) rfl)) aD)
    (a8 (ax (i:=3) vJ.nd rfl (Or.inl rfl) (pv 5))))))))
   (a8 (ai (fo mR hr (by decide) rfl (a0 (pv 3) (a0 (fo mP hr (by decide) rfl (a0 (pv 0) (a0 (pv 2) a5))) a5))))))),?_⟩
  intro d hd;refine⟨_,rfl,_,rfl,DQ (x:=fu i) (fun j σ H'=>∃(at_:Nat) (vs:List Nat) (x4 x5 x6:Option V),σ=[some (.str (fu i)),some (.ref a),some (.ref d),some (.int (at_:Int)),x4,x5,x6]/\aq H H'/\
    H' d=some (.dK (mm (JM.cE (cs.take j)) vs))/\(JM.cE (cs.take j)).length=vs.length/\at_<=L.length/\JM.ff cs L=((JM.ff (cs.drop j) (L.drop at_)).1+at_,(JM.ff (cs.drop j) (L.drop at_)).2.map (vs++·)))
   ⟨0,[],none,none,none,rfl,ag hd,a7,rfl,Nat.zero_le _,?_⟩ ?_ ?_⟩
  ·rw[List.drop_zero,List.drop_zero];apply Prod.ext
   ·rfl
   ·show _=(JM.ff cs L).2.map ([]++·);cases (JM.ff cs L).2<;>rfl
  ·rintro j c σ H1 hc ⟨at_,vs,x4,x5,x6,rfl,s1,hd1,hl,ha,e⟩;rw[cps] at hc;rw[oG hc,JM.ff] at e;have nle:=JM.zY c (L.drop at_);rw[List.length_drop] at nle;refine⟨_,rfl,_,rfl,_,rfl,c,a,at_,L,rfl,s1.seq hS,ha,?_⟩;refine⟨_,rfl,_,rfl,_,rfl,_,rfl,_,rfl,a,_,rfl,s1.seq hS,fun p hp=>?_⟩
   rw[Gh (Nat.le_add_right _ _) (by omega),Nat.add_sub_cancel_left]
   have hdg:(JM.bz c).isSome=true->∀x∈(L.drop at_).take (JM.dq c (L.drop at_)),JM.cn x=true:=fun z=>JM.rH z
   generalize(L.drop at_).take (JM.dq c (L.drop at_))=found at e hdg;generalize JM.dq c (L.drop at_)=n at e nle;have s2:aq H1 (upd H1 p (.lst (found.map vB))):=ag hp;have hp2:upd H1 p (.lst (found.map vB)) p=some (.lst (found.map vB)):=a7;have hd2:=s2 _ _ hd1;have s12:=s1.trans s2;generalize upd H1 p (.lst (found.map vB))=H2 at s2 hp2 hd2 s12;refine⟨_,rfl,_,rfl,c,p,found,rfl,SqL.of hp2,hdg,_,rfl,?_⟩;cases wh:JM.fm c found with
   |false=>
    rw[wh,if_neg (by decide)] at e
    refine bh ⟨_,rfl,?_⟩;intro x dx nx ndx nex;refine⟨x,dx,at_+n,.non,rfl,a7,fun H3 h3 kp=>⟨rfl,k H3 x ?_ ?_⟩⟩
    ·exact s12.trans (aq.made nx ndx kp)
    ·rw[e];refine⟨dx,.non,?_,rfl⟩;rw[h3];show some (HO.ins t.cR dx (rf (at_+n) .non))=some (HO.ins t.cR dx (rf (n+at_) .non));rw[Nat.add_comm]
   |true=>
    rw[wh,if_pos rfl] at e;refine aZ ?_;have hRc:=hR c;refine⟨_,rfl,t.aR,kvs,_,rfl,rfl,D,_,rfl,?_⟩;cases er:JM.bz c with
    |some q=>
     obtain⟨lo,hi'⟩:=q;rw[er] at hRc;obtain⟨rp,hlk,_⟩:=hRc;have som:(JM.bz c).isSome=true:=by rw[er];rfl
     rw[hlk];refine bh ⟨_,rfl,p,found,rfl,SqL.of hp2,hdg som,_,rfl,_,rfl,d,_,rfl,lP.k (k:=Sum.inr ⟨#[c]⟩) hd2 ?_,?_⟩
     ·refine Nat.lt_of_le_of_lt (m:=200) ?_ (by decide)
      have:(mm (JM.cE (cs.take j)) vs).length<=(JM.cE (cs.take j)).length:=by
       unfold mm;rw[List.length_map,List.length_zip];omega
      have l2:(JM.cE (cs.take j)).length<=cs.length:=by
       unfold JM.cE;exact Nat.le_trans (List.length_filter_le _ _) (by rw[List.length_take];omega)
      have l3:cs.length<=100:=by
       have:=(tX i hi).2.2;rw[<-cps,<-TL.len_tl];omega
      omega
     ·refine⟨_,rfl,?_⟩;refine⟨at_+n,vs++[Pu.valueOf found],_,_,_,rfl,fun b o eb=>?_,?_,?_,by omega,?_⟩
      ·rw[af (a9 eb hd)];exact s12 b o eb
      ·rw[a7,tL (yC (oJ nd hc som)),fw hc,if_pos som,yN hl]
      ·rw[fw hc,if_pos som,List.length_append,List.length_append,hl];rfl
      ·rw[e,List.drop_drop,som];apply Prod.ext
       ·show _+_+_=_+(_+_);omega
       ·show Option.map _ (Option.map _ _)=Option.map _ _;rw[Option.map_map];congr 1;funext us;show vs++(if true=true then Pu.valueOf found::us else us)=vs++[Pu.valueOf found]++us
        rw[if_pos rfl,List.append_assoc];rfl
    |none=>
     rw[er] at hRc;have hRc:kvs.lookup (⟨#[c]⟩:Str)=none:=hRc;have som:¬(JM.bz c).isSome=true:=by rw[er];decide
     rw[hRc];refine aZ ?_;refine⟨_,rfl,?_⟩;refine⟨at_+n,vs,_,_,_,rfl,s12,?_,?_,by omega,?_⟩
     ·rw[fw hc,if_neg som];exact hd2
     ·rw[fw hc,if_neg som];exact hl
     ·rw[e,List.drop_drop];apply Prod.ext
      ·show _+_+_=_+(_+_);omega
      ·show Option.map _ (Option.map _ _)=Option.map _ _;rw[Option.map_map];congr 1;funext us;show vs++(if(JM.bz c).isSome=true then Pu.valueOf found::us else us)=vs++us
       rw[if_neg som]
  ·rintro σ H1 ⟨at_,vs,x4,x5,x6,rfl,s1,hd1,hl,ha,e⟩;rw[cps] at hd1 hl e;rw[List.take_length] at hd1 hl;rw[List.drop_length] at e;refine⟨_,rfl,_,rfl,_,rfl,?_⟩;intro x dx nx ndx nex;refine⟨x,dx,d,i,rfl,hi,a7,fun H3 h3 kp=>⟨rfl,?_⟩⟩
   have s2:=aq.made nx ndx kp;intro y dy ny ndy ney;refine⟨y,dy,at_,.ref x,rfl,a7,fun H4 h4 kp4=>⟨rfl,k H4 y ?_ ?_⟩⟩
   ·exact(s1.trans s2).trans (aq.made ny ndy kp4)
   ·have s3:=aq.made ny ndy kp4;rw[e];refine⟨dy,.ref x,?_,x,rfl,dx,d,s3 _ _ h3,?_⟩
    ·rw[h4];show some (HO.ins t.cR dy (rf at_ (.ref x)))=some (HO.ins t.cR dy (rf (0+at_) (.ref x)));rw[Nat.zero_add]
    ·show H4 d=some (.dK (mm (JM.cE (JM.jg i)) (vs++[])));rw[ec,List.append_nil];exact s3 _ _ (s2 _ _ hd1)
def vW(K:PySem.W.Frag)(t:Adr):Sp:=fun vs H Q _=>∃(a:Addr) (L:Bs),vs=[.ref a]/\SqL K H a (L.map vB)/\∀(H':Hp) (p:Addr),aq H H'->uC t H' p (JM.aW L)->Q (.ref p) H'
theorem nW:au ["line", "best", "form", "reading"] ["line"] (ae wd):=⟨rfl,rfl,rfl,by decide +kernel,rfl,by decide +kernel,by decide +kernel⟩
theorem Em(F:Fun K "read_line" "read_line" wd f fd)(T:Txt K w mg t)(cBy:Cal P w K mg base "read_by" 4 ["form", "line"] (ID K t))(mR:Mak P w K mg base "Reading" t.cR 1 ["self", "right", "part"] (rE t)) :
  aT P w K mg base CX0 5 f fd ["line"] (vW K t):=by
 refine F.ok nW (fun vs H Q E h=>?_) (fun cdv A outer s H vs Q E hr h=>?_)
 ·obtain⟨a,L,rfl,_⟩:=h;rfl
 ·obtain⟨a,L,rfl,hS,k⟩:=h;refine⟨_,a4 (ax (i:=1) nW.nd rfl (Or.inl rfl) (fo mR hr (by decide) rfl (a0 ah (a0 cG a5))))
   (a4 (bM PassesOwn.never rfl (B5 (je T.gF rfl)) (aH (i:=2) nW.nd rfl (Or.inl rfl))
    (a4 (ax (i:=3) nW.nd rfl (Or.inl rfl) (az cBy hr (by decide) rfl (a0 (pv 2) (a0 (pv 0) a5))))
    (a8 (aP (aB iU (aI (pv 3) rfl) (aI (pv 1) rfl) (aJ _)) (a8 (ax (i:=1) nW.nd rfl (Or.inl rfl) (pv 3))) aD))))
   (a8 (ai (pv 1)))),?_⟩
  intro x dx nx ndx nex;refine⟨x,dx,0,.non,rfl,a7,fun H1 h1 kp=>⟨rfl,?_⟩⟩
  have s1:=aq.made nx ndx kp;refine⟨t.aF,rfl,⟨_,T.sF _⟩,C8 (K:=K) (a:=t.aF) (xs:=(List.range 10).map fun i=>V.str (fu i)) (fun j σ H'=>∃(b:Addr) (x2 x3:Option V),σ=[some (.ref a),some (.ref b),x2,x3]/\aq H H'/\uC t H' b (JM.eW L j))
   ⟨x,none,none,rfl,s1,dx,.non,h1,rfl⟩ (fun _ _ _ _ _=>T.sF _) ?_ ?_⟩
  ·rintro j y σ H2 hj ⟨b,x2,x3,rfl,s2,r2⟩;have hj10:j<10:=by
    have:=(List.getElem?_eq_some_iff.mp hj).1;simpa using this
   have ey:y=V.str (fu j):=by
    rw[List.getElem?_map,List.getElem?_range hj10] at hj;exact(Option.some.inj hj).symm
   subst ey;refine⟨_,rfl,_,rfl,j,a,L,rfl,hj10,s2.seq hS,fun H3 p s3 r3=>?_⟩
   have r2':=r2.same s3;have r3':=r3;obtain⟨d3,v3,o3,m3⟩:=r3;obtain⟨d2,v2,o2,m2⟩:=r2.same s3;refine⟨_,rfl,p,t.cR,d3,_,_,rfl,o3,T.clR,T.nRr,rfl,_,rfl,b,t.cR,d2,_,_,rfl,o2,T.clR,T.nRr,rfl,_,_,rfl,rfl,_,rfl,dF (fun g=>?_) (fun g=>?_)⟩
   ·have g:=of_decide_eq_true g;refine⟨_,rfl,?_⟩;refine⟨p,_,_,rfl,s2.trans s3,?_⟩;show uC t H3 p (JM.eY (JM.eW L j) (JM.fj j L));unfold JM.eY;rw[if_pos (by omega)]
    exact r3'
   ·have g:¬(JM.eW L j).1<(JM.fj j L).1:=fun z=>g (decide_eq_true (by omega))
    refine⟨b,_,_,rfl,s2.trans s3,?_⟩;show uC t H3 b (JM.eY (JM.eW L j) (JM.fj j L));unfold JM.eY;rw[if_neg g];exact r2'
  ·rintro σ H2 ⟨b,x2,x3,rfl,s2,r2⟩;exact⟨_,rfl,k H2 b s2 r2⟩
def xx(K:PySem.W.Frag):Sp:=fun vs H Q _=>∃(a:Addr) (b:Bs),vs=[.ref a]/\SqL K H a (b.map vB)/\b.length<=100000/\∀(H':Hp) (p:Addr),aq H H'->dU H' p oI (Pu.pieces b)->Q (.ref p) H'
theorem jO:au ["text", "lines", "line", "byte"] ["text"] (ae qt):=⟨rfl,rfl,rfl,by decide +kernel,rfl,by decide +kernel,by decide +kernel⟩
structure Cut(b:Bs)(H H':Hp)(p l:Addr)(i:Nat):Prop where
 ex:∃(as:List Addr) (done:List Bs) (cur:Bs),H' p=some (.lst (as.map V.ref))/\as.length=done.length/\(∀(j:Nat) (a:Addr) (x:Bs),as[j]?=some a->done[j]?=some x->oI H' a x)/\
  oI H' l cur/\p ∉ as/\l ∉ as/\(10:UInt8) ∉ cur/\Pu.pieces b=done++Pu.pieces (cur++b.drop i)/\as.length<=i/\cur.length<=i
 lp:l≠p
 np:H p=none
 nl:H l=none
 sm:aq H H'
theorem B2(F:Fun K "split_lines" "split_lines" qt f fd)(T:Txt K w mg t):aT P w K mg base CX0 1 f fd ["text"] (xx K):=by
 refine F.ok jO (fun vs H Q E h=>?_) (fun cdv A outer s H vs Q E hr h=>?_)
 ·obtain⟨a,b,rfl,_⟩:=h;rfl
 ·obtain⟨a,b,rfl,hS,hb,k⟩:=h;have big:(100001:Nat)<sizeLine:=by decide
  refine⟨_,a4 (ax (i:=1) jO.nd rfl (Or.inl rfl) (b9 a5))
   (a4 (ax (i:=2) jO.nd rfl (Or.inl rfl) (b9 a5))
   (a4 (bM PassesOwn.never rfl (bu (pv 0)) (aH (i:=3) jO.nd rfl (Or.inl rfl))
    (a4 (aX (d5 PySem.F.plainAttrs_list PySem.F.slot_list_append PySem.F.type_list_append bF (pv 2) (a0 (pv 3) a5)))
    (a8 (aP (aB bY (pv 3) (bH T.kEnd rfl) (aJ _)) (a4 (aX (d5 PySem.F.plainAttrs_list PySem.F.slot_list_append PySem.F.type_list_append bF (pv 1) (a0 (pv 2) a5))) (a8 (ax (i:=2) jO.nd rfl (Or.inl rfl) (b9 a5)))) aD))))
   (a4 (aP (dY (pv 2) (fun _=>rfl)) (a8 (aX (d5 PySem.F.plainAttrs_list PySem.F.slot_list_append PySem.F.type_list_append bF (pv 1) (a0 (pv 2) a5)))) aD)
   (a8 (ai (pv 1)))))),?_⟩
  refine⟨Nat.zero_le _,fun p hp=>?_⟩
  refine⟨Nat.zero_le _,fun l hl=>?_⟩
  have npl:l≠p:=Ne.symm (a9 (a7 (H:=H) (a:=p) (o:=.lst [])) hl);have hl0:H l=none:=by rw[af npl] at hl;exact hl
  have s0:aq H (upd (upd H p (.lst [])) l (.lst [])):=(ag hp).trans (ag hl);refine⟨_,rfl,a,rfl,⟨_,s0.seq hS⟩,d4 (K:=K) (a:=a) (xs:=b.map vB) (fun i σ H'=>∃(l:Addr) (x:Option V),σ=[some (.ref a),some (.ref p),some (.ref l),x]/\Cut b H H' p l i) ?_ (by rintro i σ H' _ ⟨_,_,_,c⟩;exact c.sm.seq hS) ?_ ?_⟩
  ·refine⟨l,none,rfl,⟨[],[],[],by rw[af (Ne.symm npl)];exact a7,rfl,fun j a x ha=>(by cases ha),a7,(by simp),(by simp),(by simp),rfl,Nat.le_refl _,Nat.le_refl _⟩,npl,hp,hl0,s0⟩
  ·rintro i y σ H1 hi ⟨l,x,rfl,⟨as,done,cur,h1,h2,h3,h4,h5,h6,h7,h8,h9,h10⟩,lp,np,nl,sm⟩;obtain⟨c,hc,rfl⟩:=AX hi;have hil:i<b.length:=(List.getElem?_eq_some_iff.mp hc).1;have hdr:b.drop i=c::b.drop (i+1):=by
    obtain⟨z,e⟩:=List.getElem?_eq_some_iff.mp hc;rw[<-e,<-List.drop_eq_getElem_cons z]
   refine⟨_,rfl,.inl ⟨rfl,_,SqL.of h4⟩,_,rfl,l,_,_,rfl,rfl,h4,(by rw[List.length_map];omega),?_⟩
   have g1:upd H1 l (.lst (cur.map vB++[vB c])) l=some (.lst ((cur++[c]).map vB)):=by rw[a7,List.map_append];rfl
   have g2:upd H1 l (.lst (cur.map vB++[vB c])) p=some (.lst (as.map V.ref)):=by rw[af (Ne.symm lp)];exact h1
   have g3:∀(j:Nat) (a:Addr) (x:Bs),as[j]?=some a->done[j]?=some x->oI (upd H1 l (.lst (cur.map vB++[vB c]))) a x:=fun j a x ha hx=>by
    have ne:a≠l:=fun z=>h6 (by rw[<-z];exact List.mem_of_getElem? ha)
    unfold oI;rw[af ne];exact h3 j a x ha hx
   have g4:aq H (upd H1 l (.lst (cur.map vB++[vB c]))):=fun q o e=>by
    rw[af (a9 e nl)];exact sm q o e
   generalize upd H1 l (.lst (cur.map vB++[vB c]))=H2 at g1 g2 g3 g4;refine⟨_,rfl,rfl,_,rfl,dF (fun e=>?_) (fun e=>?_)⟩
   ·have ec:c=10:=by
     have:=V.int.inj (of_decide_eq_true e);apply UInt8.toNat_inj.mp;show c.toNat=10;omega
    subst ec;refine⟨_,rfl,.inl ⟨rfl,_,SqL.of g2⟩,_,rfl,p,_,_,rfl,rfl,g2,(by rw[List.length_map];omega),?_⟩
    have k1:upd H2 p (.lst (as.map V.ref++[V.ref l])) p=some (.lst ((as++[l]).map V.ref)):=by rw[a7,List.map_append];rfl
    have k2:∀q o,H2 q=some o->q≠p->upd H2 p (.lst (as.map V.ref++[V.ref l])) q=some o:=fun q o e ne=>by rw[af ne];exact e
    have k3:aq H (upd H2 p (.lst (as.map V.ref++[V.ref l]))):=fun q o e=>k2 q o (g4 q o e) (a9 e np)
    generalize upd H2 p (.lst (as.map V.ref++[V.ref l]))=H3 at k1 k2 k3;refine⟨Nat.zero_le _,fun q hq=>?_⟩
    have k4:=ag (o:=.lst []) hq;have lH3:H3 l=some (.lst ((cur++[10]).map vB)):=k2 l _ g1 lp;have nql:q≠l:=Ne.symm (a9 lH3 hq);have nqp:q≠p:=Ne.symm (a9 k1 hq);refine⟨q,_,rfl,⟨as++[l],done++[cur++[10]],[],k4 _ _ k1,by rw[List.length_append,List.length_append,h2];rfl,fun j a x ha hx=>?_,a7,?_,?_,by simp,?_,by rw[List.length_append];exact Nat.succ_le_succ h9,Nat.zero_le _⟩,nqp,np,k3.free hq,k3.trans k4⟩
    ·by_cases lt:j<as.length
     ·rw[List.getElem?_append_left lt] at ha;rw[List.getElem?_append_left (by omega)] at hx
      have na:a≠p:=fun z=>h5 (by rw[<-z];exact List.mem_of_getElem? ha)
      exact k4 _ _ (k2 _ _ (g3 j a x ha hx) na)
     ·rw[List.getElem?_append_right (by omega)] at ha
      rw[List.getElem?_append_right (by omega)] at hx
      have ej:j=as.length:=by
       have:=(List.getElem?_eq_some_iff.mp ha).1;simp at this;omega
      subst ej;rw[Nat.sub_self] at ha;rw[h2,Nat.sub_self] at hx;cases ha;cases hx;exact k4 _ _ lH3
    ·intro z;rcases List.mem_append.mp z with z | z
     ·exact h5 z
     ·exact lp (List.mem_singleton.mp z).symm
    ·intro z;rcases List.mem_append.mp z with z | z
     ·obtain⟨j,hj,ej⟩:=List.mem_iff_getElem.mp z;have hx:done[j]?=some done[j]:=List.getElem?_eq_getElem (by omega)
      have ha:as[j]?=some q:=by rw[List.getElem?_eq_getElem hj,ej]
      have na:q≠p:=fun z=>h5 (by rw[<-z];exact List.mem_of_getElem? ha)
      have:=k2 _ _ (g3 j q _ ha hx) na;rw[hq] at this;cases this
     ·exact nql (List.mem_singleton.mp z)
    ·rw[h8,hdr,JM.iz cur _ h7,List.append_assoc];rfl
   ·have ec:c≠10:=by
     rintro rfl;exact e (decide_eq_true rfl)
    refine⟨l,_,rfl,⟨as,done,cur++[c],g2,h2,g3,g1,h5,h6,?_,?_,by omega,by rw[List.length_append];exact Nat.succ_le_succ h10⟩,lp,np,nl,g4⟩
    ·intro z;rcases List.mem_append.mp z with z | z
     ·exact h7 z
     ·exact ec (List.mem_singleton.mp z).symm
    ·rw[h8,hdr,List.append_assoc];rfl
  ·rintro σ H1 ⟨l,x,rfl,⟨as,done,cur,h1,h2,h3,h4,h5,h6,h7,h8,h9,h10⟩,lp,np,nl,sm⟩;rw[List.length_map] at h8 h9 h10;rw[List.drop_length,List.append_nil] at h8;refine⟨_,rfl,_,.inl ⟨_,SqL.of h4,rfl⟩,?_⟩;by_cases ce:cur=[]
   ·subst ce;refine aZ ⟨_,rfl,k H1 p sm ?_⟩;rw[h8];exact⟨as,h1,by rw[h2];simp[Pu.pieces],fun j a x ha hx=>h3 j a x ha (by simpa [Pu.pieces] using hx)⟩
   ·have em:(cur.map vB).isEmpty=false:=by
     cases cur with
     |nil=>exact absurd rfl ce
     |cons _ _=>rfl
    rw[em];refine bh ?_;refine⟨_,rfl,.inl ⟨rfl,_,SqL.of h1⟩,_,rfl,p,_,_,rfl,rfl,h1,(by rw[List.length_map];omega),?_⟩
    refine⟨_,rfl,k _ p (fun q o e=>by rw[af (a9 e np)];exact sm q o e) ?_⟩
    rw[h8,JM.iT cur h7 ce];refine⟨as++[l],by rw[a7,List.map_append];rfl,by rw[List.length_append,List.length_append,h2];rfl,fun j a x ha hx=>?_⟩
    unfold oI;by_cases lt:j<as.length
    ·rw[List.getElem?_append_left lt] at ha;rw[List.getElem?_append_left (by omega)] at hx
     have na:a≠p:=fun z=>h5 (by rw[<-z];exact List.mem_of_getElem? ha)
     rw[af na];exact h3 j a x ha hx
    ·rw[List.getElem?_append_right (by omega)] at ha
     rw[List.getElem?_append_right (by omega)] at hx
     have ej:j=as.length:=by
      have:=(List.getElem?_eq_some_iff.mp ha).1;simp at this;omega
     subst ej;rw[Nat.sub_self] at ha;rw[h2,Nat.sub_self] at hx;cases ha;cases hx;rw[af lp];exact h4
def xR(t:Adr):Sp:=fun vs H Q _=>∃(a:Addr) (ls:List Bs),vs=[.ref a]/\dU H a oI ls/\∀(H':Hp) (p:Addr),aq H H'->dU H' p (dc t) (JM.aw (ls.take 64))->Q (.ref p) H'
theorem lR:au ["lines", "parts", "line", "part"] ["lines"] (ae qJ):=⟨rfl,rfl,rfl,by decide +kernel,rfl,by decide +kernel,by decide +kernel⟩
theorem fX:∀(ls:List Bs) (i:Nat) (L:Bs),ls[i]?=some L->(JM.aw (ls.take i)).length=i->JM.aw (ls.take (i+1))=JM.aw (ls.take i)++(match(JM.aW L).2 with | none=>[] | some x=>[x])
 |[],i,L,h,_=>by simp at h
 |A::r,0,L,h,_=>by
  have e:A=L:=Option.some.inj h;subst e;show JM.aw [A]=JM.aw []++_;cases e:(JM.aW A).2 with
  |none=>simp[JM.aw,e]
  |some x=>simp[JM.aw,e]
 |A::r,i+1,L,h,hl=>by
  have h':r[i]?=some L:=h;show JM.aw (A::r.take (i+1))=JM.aw (A::r.take i)++_;have hl:(JM.aw (A::r.take i)).length=i+1:=hl;rw[JM.aw,JM.aw] at *;cases e:(JM.aW A).2 with
  |none=>rw[e] at hl;simp at hl
  |some x=>
   rw[e] at hl;dsimp only at hl ⊢;rw[fX r i L h' (by simpa using hl)]
   rfl
theorem iN:∀(ls:List Bs) (i:Nat) (L:Bs),ls[i]?=some L->(JM.aw (ls.take i)).length=i->(JM.aW L).2=none->JM.aw ls=JM.aw (ls.take i)
 |[],i,L,h,_,_=>by simp at h
 |A::r,0,L,h,_,hn=>by
  have e:A=L:=Option.some.inj h;subst e;rw[JM.aw,hn];rfl
 |A::r,i+1,L,h,hl,hn=>by
  have h':r[i]?=some L:=h;have hl:(JM.aw (A::r.take i)).length=i+1:=hl;show JM.aw (A::r)=JM.aw (A::r.take i);rw[JM.aw,JM.aw] at *;cases e:(JM.aW A).2 with
  |none=>rfl
  |some x=>
   rw[e] at hl;dsimp only at hl ⊢;rw[iN r i L h' (by simpa using hl) hn]
theorem BN{α:Type}{H:Hp}{p:Addr}{R:Hp->Addr->α->Prop}(h:H p=some (.lst [])):dU H p R []:=⟨[],h,rfl,fun j a x ha=>by cases ha⟩
theorem Bi(F:Fun K "read_parts" "read_parts" qJ f fd)(T:Txt K w mg t)(cLine:Cal P w K mg base "read_line" 5 ["line"] (vW K t)):aT P w K mg base CX0 6 f fd ["lines"] (xR t):=by
 refine F.ok lR (fun vs H Q E h=>?_) (fun cdv A outer s H vs Q E hr h=>?_)
 ·obtain⟨a,b,rfl,_⟩:=h;rfl
 ·obtain⟨a,ls,rfl,⟨bs,hb1,hb2,hb3⟩,k⟩:=h;refine⟨_,a4 (ax (i:=1) lR.nd rfl (Or.inl rfl) (b9 a5))
   (a4 (bM PassesOwn.never rfl (bu (gB iZ (pv 0) rR (fD (bH T.kLines rfl)))) (aH (i:=2) lR.nd rfl (Or.inl rfl))
    (a4 (ax (i:=3) lR.nd rfl (Or.inl rfl) (aI (az cLine hr (by decide) rfl (a0 (pv 2) a5)) rfl))
    (a4 (aP (aB iV (pv 3) cG (aJ _)) (a8 (ai (pv 1))) aD)
    (a8 (aX (d5 PySem.F.plainAttrs_list PySem.F.slot_list_append PySem.F.type_list_append bF (pv 1) (a0 (pv 3) a5)))))))
   (a8 (ai (pv 1)))),?_⟩
  refine⟨Nat.zero_le _,fun p hp=>?_⟩
  have s0:aq H (upd H p (.lst [])):=ag hp;refine⟨_,rfl,_,rfl,a,_,rfl,SqL.of (s0 _ _ hb1),fun q hq=>?_⟩
  have cutE:ic (bs.map V.ref) none (some 64)=(bs.take 64).map V.ref:=by
   unfold ic;rw[show((64:Int))=((64:Nat):Int) by rfl,HT.sIx_nat,HT.sIx_none,List.drop_zero,Nat.sub_zero,List.length_map,<-List.map_take]
   congr 1;by_cases z:64<=bs.length
   ·rw[Nat.min_eq_left z]
   ·rw[Nat.min_eq_right (by omega),List.take_of_length_le (Nat.le_refl _),List.take_of_length_le (by omega)]
  rw[cutE];have s1:aq H (upd (upd H p (.lst [])) q (.lst ((bs.take 64).map V.ref))):=s0.trans (ag hq);have npq:p≠q:=a9 (a7 (H:=H) (a:=p) (o:=.lst [])) hq;have hq0:H q=none:=s0.free hq;have hp1:upd (upd H p (.lst [])) q (.lst ((bs.take 64).map V.ref)) p=some (.lst []):=by rw[af npq];exact a7
  have hq1:upd (upd H p (.lst [])) q (.lst ((bs.take 64).map V.ref)) q=some (.lst ((bs.take 64).map V.ref)):=a7;generalize upd (upd H p (.lst [])) q (.lst ((bs.take 64).map V.ref))=H1 at s1 hp1 hq1;have l64:(bs.take 64).length=(ls.take 64).length:=by rw[List.length_take,List.length_take,hb2]
  refine⟨q,rfl,⟨_,SqL.of hq1⟩,d4 (K:=K) (a:=q) (xs:=(bs.take 64).map V.ref) (fun i σ H'=>∃(x y:Option V),σ=[some (.ref a),some (.ref p),x,y]/\aq H H'/\H' q=some (.lst ((bs.take 64).map V.ref))/\
    dU H' p (dc t) (JM.aw ((ls.take 64).take i))/\(JM.aw ((ls.take 64).take i)).length=i)
   ⟨none,none,rfl,s1,hq1,BN hp1,rfl⟩ (by rintro i σ H' _ ⟨_,_,_,_,h,_⟩;exact SqL.of h) ?_ ?_⟩
  ·rintro i y σ H2 hi ⟨x2,x3,rfl,s2,hq2,⟨as,e1,e2,e3⟩,hl⟩;obtain⟨c,hc,rfl⟩:∃c,(bs.take 64)[i]?=some c/\y=V.ref c:=by
    rw[List.getElem?_map] at hi;cases e:(bs.take 64)[i]? with
    |none=>rw[e] at hi;cases hi
    |some c=>rw[e] at hi;exact⟨c,rfl,(Option.some.inj hi).symm⟩
   have hi1:=(List.getElem?_eq_some_iff.mp hc).1;have hi64:i<64:=by rw[List.length_take] at hi1;omega
   obtain⟨L,hL⟩:∃L,(ls.take 64)[i]?=some L:=⟨_,List.getElem?_eq_getElem (by omega)⟩
   have lnL:oI H c L:=hb3 i c L (by rw[List.getElem?_take_of_lt hi64] at hc;exact hc) (by rw[List.getElem?_take_of_lt hi64] at hL;exact hL)
   refine⟨_,rfl,c,L,rfl,SqL.of (s2 _ _ lnL),fun H3 r s3 rd=>?_⟩
   obtain⟨dr,v,o,m⟩:=rd;refine⟨r,t.cR,dr,_,_,rfl,o,T.clR,T.nRp,rfl,?_⟩;refine⟨_,rfl,rfl,_,rfl,?_⟩;cases er:(JM.aW L).2 with
   |none=>
    rw[er] at m;have m:v=.non:=m;subst m;refine bh ⟨_,rfl,k H3 p (s2.trans s3) ?_⟩;rw[iN (ls.take 64) i L hL hl er];exact⟨as,s3 _ _ e1,e2,fun j a x ha hx=>(e3 j a x ha hx).same s3⟩
   |some x=>
    rw[er] at m;obtain⟨b,rfl,pb⟩:=m;refine aZ ?_;refine⟨_,rfl,.inl ⟨rfl,_,SqL.of (s3 _ _ e1)⟩,_,rfl,p,_,_,rfl,rfl,s3 _ _ e1,?_,?_⟩
    ·rw[List.length_map,e2,hl];exact Nat.lt_trans hi64 (by decide)
    ·have stay:∀z o,H3 z=some o->z≠p->upd H3 p (.lst (as.map V.ref++[V.ref b])) z=some o:=fun z o e ne=>by rw[af ne];exact e
     have ptp:∀a x,dc t H3 a x->dc t (upd H3 p (.lst (as.map V.ref++[V.ref b]))) a x:=fun a x ⟨dx,d,h1,h2⟩=>
      ⟨dx,d,stay _ _ h1 (cX h1 (s3 _ _ e1) (by intro z;cases z)),stay _ _ h2 (cX h2 (s3 _ _ e1) (by intro z;cases z))⟩
     refine⟨_,_,rfl,fun z o e=>stay z o (s3 _ _ (s2 z o e)) (a9 e hp),stay _ _ (s3 _ _ hq2) (Ne.symm npq),?_,?_⟩
     ·rw[fX (ls.take 64) i L hL hl,er];refine⟨as++[b],by rw[a7,List.map_append];rfl,by rw[List.length_append,List.length_append,e2];rfl,fun j a y ha hy=>?_⟩
      by_cases lt:j<as.length
      ·rw[List.getElem?_append_left lt] at ha;rw[List.getElem?_append_left (by omega)] at hy
       exact ptp _ _ ((e3 j a y ha hy).same s3)
      ·rw[List.getElem?_append_right (by omega)] at ha
       rw[List.getElem?_append_right (by omega)] at hy
       have ej:j=as.length:=by
        have:=(List.getElem?_eq_some_iff.mp ha).1;simp at this;omega
       subst ej;rw[Nat.sub_self] at ha;rw[e2,Nat.sub_self] at hy;cases ha;cases hy;exact ptp _ _ pb
     ·rw[fX (ls.take 64) i L hL hl,er,List.length_append,hl];rfl
  ·rintro σ H2 ⟨x2,x3,rfl,s2,hq2,e,hl⟩;rw[List.length_map,l64,List.take_length] at e;exact⟨_,rfl,k H2 p s2 e⟩
theorem f6(i:Nat)(d:Addr):(pf i d).lookup ("word" : Str)=some (.str (gm i)):=by
 unfold pf;simp[List.lookup]
theorem nu(i:Nat)(d:Addr):(pf i d).lookup ("ending" : Str)=some (.str (oH i)):=by
 unfold pf;have h:(("ending" : Str)==("word" : Str))=false:=by decide +kernel
 simp[List.lookup,h]
theorem dm(i:Nat)(d:Addr):(pf i d).lookup ("numbers" : Str)=some (.ref d):=by
 unfold pf;have h:(("numbers" : Str)==("word" : Str))=false:=by decide +kernel
 have h2:(("numbers" : Str)==("ending" : Str))=false:=by decide +kernel
 simp[List.lookup,h,h2]
theorem kz(x:Str)(f:Nat->Bool)(h:∀i,i<10->decide (gm i=x)=f i){i:Nat}(hi:i<10):decide (V.str (gm i)=V.str x)=f i:=by
 rw[<-h i hi];exact decide_eq_decide.mpr ⟨fun z=>V.str.inj z,fun z=>by rw[z]⟩
theorem zr{i:Nat}(hi:i<10):decide (V.str (gm i)=V.str "key")=(decide (i=2) || decide (i=3)):=kz "key" (fun i=>decide (i=2) || decide (i=3)) (by decide +kernel) hi
theorem Fg{i:Nat}(hi:i<10):decide (V.str (gm i)=V.str "see")=decide (i=6):=kz "see" (fun i=>decide (i=6)) (by decide +kernel) hi
theorem l9{i:Nat}(hi:i<10):decide (V.str (gm i)=V.str "sum")=decide (i=4):=kz "sum" (fun i=>decide (i=4)) (by decide +kernel) hi
theorem gh{i:Nat}(hi:i<10):decide (V.str (gm i)=V.str "count")=decide (i=5):=kz "count" (fun i=>decide (i=5)) (by decide +kernel) hi
theorem FV{i:Nat}(hi:i<10):decide (V.str (gm i)=V.str "list")=decide (7<=i):=kz "list" (fun i=>decide (7<=i)) (by decide +kernel) hi
theorem qO{i:Nat}(hi:i<10):decide (V.str (oH i)=V.str "holes")=decide (i=2):=by
 have h:∀i,i<10->decide (oH i = "holes")=decide (i=2):=by decide +kernel
 rw[<-h i hi];exact decide_eq_decide.mpr ⟨fun z=>V.str.inj z,fun z=>by rw[z]⟩
theorem dh:∀i,i<10->JM.cE (JM.jg i)=([[67,82],[67,82],[67,78,80],[67,78,80],[67,78,80,87],[80,87],[67,78,80],[],[],[]]:List (List Nat)).getD i []:=by decide +kernel
def dD(H:Hp)(d:Addr)(x:Str)(n:Nat):Prop:=ie H d (.str x) (some (.int (n:Int)))
theorem bo{H:Hp}{d:Addr}{kvs:List (Key×V)}{x:Str}{n:Nat}(h:H d=some (.dK kvs))(e:cw kvs (Sum.inr x)=some (.int (n:Int))):dD H d x n:=by
 have:=ie.k (k:=Sum.inr x) h;rw[e] at this;exact this
def uN(t:Adr):Sp:=fun vs H Q _=>∃(a:Addr) (x:JM.Pt),vs=[.ref a]/\dc t H a x/\JM.eB x/\Q (.int ((JM.cf x:Nat):Int)) H
theorem Fn:au ["part"] ["part"] (ae wo):=⟨rfl,rfl,rfl,by decide +kernel,rfl,by decide +kernel,by decide +kernel⟩
theorem Cu(F:Fun K "part_passes" "part_passes" wo f fd)(T:Txt K w mg t):aT P w K mg base CX0 1 f fd ["part"] (uN t):=by
 refine F.ok Fn (fun vs H Q E h=>?_) (fun cdv A outer s H vs Q E hr h=>?_)
 ·obtain⟨a,x,rfl,_⟩:=h;rfl
 ·obtain⟨a,⟨i,vs⟩,rfl,⟨dx,d,ha,hd⟩,⟨hi,ok⟩,k⟩:=h;dsimp only at ha hd hi ok;have hu:=eU hr;refine⟨_,a4 (aP (aB ue (aI (pv 0) rfl) aA (aJ _)) (a8 (ai ah)) aD)
   (a4 (aP (aB bY (aI (pv 0) rfl) aA (aJ _)) (a8 (ai (aQ gu ah (bx hu (aI (pv 0) rfl) aA (fun _ _=>rfl))))) aD)
   (a8 (ai (bx hu (aI (pv 0) rfl) aA (fun _ _=>rfl))))),?_⟩
  refine⟨_,rfl,a,t.cP,dx,_,_,rfl,ha,T.clP,T.nPw,f6 i d,rfl,_,rfl,?_⟩;rw[zr hi];by_cases e2:i=2
  ·subst e2;refine aZ ?_;refine⟨_,rfl,a,t.cP,dx,_,_,rfl,ha,T.clP,T.nPe,nu 2 d,rfl,_,rfl,?_⟩;rw[qO hi];obtain⟨c,n,p,rfl,h1,h2,h3,h4⟩:=ok;rw[dh 2 hi] at hd;have nn:dD H d "N" n:=bo hd rfl;exact bh ⟨_,rfl,a,t.cP,dx,_,_,rfl,ha,T.clP,T.nPn,dm 2 d,d,_,rfl,nn,_,_,rfl,rfl,.inl ⟨by decide,by decide⟩,k⟩
  ·by_cases e3:i=3
   ·subst e3;refine aZ ?_;refine⟨_,rfl,a,t.cP,dx,_,_,rfl,ha,T.clP,T.nPe,nu 3 d,rfl,_,rfl,?_⟩;rw[qO hi];obtain⟨c,n,p,rfl,h1,h2,h3,h4⟩:=ok;rw[dh 3 hi] at hd;have nn:dD H d "N" n:=bo hd rfl;exact aZ ⟨_,rfl,a,t.cP,dx,_,_,rfl,ha,T.clP,T.nPn,dm 3 d,d,_,rfl,nn,k⟩
   ·rw[decide_eq_false e2,decide_eq_false e3];refine bh ?_;have z:JM.cf (i,vs)=0:=by
     unfold JM.cf;dsimp only;split
     ·exact absurd rfl e2
     ·exact absurd rfl e3
     ·rfl
    rw[z] at k;exact k
def rN:Sp:=fun vs H Q _=>∃(d:Addr) (c n:Nat),vs=[.ref d]/\dD H d "C" c/\dD H d "N" n/\Q (.bl (decide (c+n<=80))) H
theorem Cs:au ["numbers"] ["numbers"] (ae qZ):=⟨rfl,rfl,rfl,by decide +kernel,rfl,by decide +kernel,by decide +kernel⟩
theorem zF(F:Fun K "has_field" "has_field" qZ f fd)(T:Txt K w mg t):aT P w K mg base CX0 1 f fd ["numbers"] rN:=by
 refine F.ok Cs (fun vs H Q E h=>?_) (fun cdv A outer s H vs Q E hr h=>?_)
 ·obtain⟨d,c,n,rfl,_⟩:=h;rfl
 ·obtain⟨d,c,n,rfl,hc,hn,k⟩:=h;have hu:=eU hr;refine⟨_,a8 (ai (e7 fH (aQ c8 (bx hu (pv 0) aA (fun _ _=>rfl)) (bx hu (pv 0) aA (fun _ _=>rfl))) (bH T.kCols rfl) (aJ _))),?_⟩
  refine⟨_,rfl,d,_,rfl,hc,_,rfl,d,_,rfl,hn,_,_,rfl,rfl,_,_,rfl,rfl,?_⟩;rw[<-show decide ((c:Int)+(n:Int)<=80)=decide (c+n<=80) from decide_eq_decide.mpr (by omega)] at k
  exact k
def vD(t:Adr):Sp:=fun vs H Q _=>∃(a:Addr) (x:JM.Pt),vs=[.ref a]/\dc t H a x/\JM.eB x/\Q (.bl (JM.iJ x)) H
theorem vy:au ["part", "numbers", "amount"] ["part"] (ae wg):=⟨rfl,rfl,rfl,by decide +kernel,rfl,by decide +kernel,by decide +kernel⟩
theorem Ei(F:Fun K "has_room" "has_room" wg f fd)(T:Txt K w mg t)(cField:Cal P w K mg base "has_field" 1 ["numbers"] rN):aT P w K mg base CX0 2 f fd ["part"] (vD t):=by
 refine F.ok vy (fun vs H Q E h=>?_) (fun cdv A outer s H vs Q E hr h=>?_)
 ·obtain⟨a,x,rfl,_⟩:=h;rfl
 ·obtain⟨a,⟨i,vs⟩,rfl,⟨dx,d,ha,hd⟩,⟨hi,ok⟩,k⟩:=h;dsimp only at ha hd hi ok;have hu:=eU hr;refine⟨_,a4 (ax (i:=1) vy.nd rfl (Or.inl rfl) (aI (pv 0) rfl))
   (a4 (aP (PW.pt (iP (aB bY (aI (pv 0) rfl) aA (aJ _)) (fW (aB bY (aI (pv 0) rfl) aA (aJ _)))))
    (a8 (ai (mw (az cField hr (by decide) rfl (a0 (pv 1) a5)) (oy (e7 fH (aQ c8 (bx hu (pv 1) aA (fun _ _=>rfl)) (bx hu (pv 1) aA (fun _ _=>rfl))) (bH T.kPlaces rfl) (aJ _)))))) aD)
   (a4 (aP (aB bY (aI (pv 0) rfl) aA (aJ _))
    (a4 (ax (i:=2) vy.nd rfl (Or.inl rfl) (mw (az cField hr (by decide) rfl (a0 (pv 1) a5)) (oy (e7 fH (bx hu (pv 1) aA (fun _ _=>rfl)) (bH T.kAmt rfl) (aJ _)))))
    (a8 (ai (mw (pv 2) (oy (e7 fH (aQ c8 (bx hu (pv 1) aA (fun _ _=>rfl)) (bx hu (pv 1) aA (fun _ _=>rfl))) (bH T.kPlaces rfl) (aJ _))))))) aD)
   (a4 (aP (aB bY (aI (pv 0) rfl) aA (aJ _)) (a8 (ai (e7 fH (aQ c8 (bx hu (pv 1) aA (fun _ _=>rfl)) (bx hu (pv 1) aA (fun _ _=>rfl))) (bH T.kPlaces rfl) (aJ _)))) aD)
   (a8 (ai iM))))),?_⟩
  refine⟨_,rfl,a,t.cP,dx,_,_,rfl,ha,T.clP,T.nPn,dm i d,?_⟩;have isW:∀x:Str,TIs (dM (tOp rEq (lO K (cb 0) "word") (tC (.str x)))) [some (.ref a),some (.ref d),none] H (decide (V.str (gm i)=V.str x)):=fun x Q q=>⟨_,rfl,a,t.cP,dx,_,_,rfl,ha,T.clP,T.nPw,f6 i d,rfl,_,rfl,q⟩
  refine TIs.or (isW "key") (fun _=>isW "see") _ ?_
  rw[zr hi,Fg hi];have room3:∀c n p:Nat,vs=[c,n,p]->dD H d "C" c->dD H d "N" n->dD H d "P" p->(JM.iJ (i,vs)=(decide (c+n<=80)&&decide (p+n<=132)))->En (AE (p9 rN [] E0 (gC (cb 1) jz)) (tOp (rI0 fun i j=>.bl (decide (i<=j))) (tOp (rI0 fun i j=>.int (i+j)) (tJ (cb 1) (tC (.str "P"))) (tJ (cb 1) (tC (.str "N")))) (tC (.int 132))))
    { nx:=fun _ H'=>Q .non H',rt:=Q } [some (.ref a),some (.ref d),none] H:=by
   intro c n p ev hc hn hp hrm;refine⟨_,rfl,d,c,n,rfl,hc,hn,_,rfl,?_⟩;rw[hrm] at k;refine dF (fun g=>?_) (fun g=>?_)
   ·rw[g,Bool.true_and] at k;refine⟨_,rfl,d,_,rfl,hp,_,rfl,d,_,rfl,hn,_,_,rfl,rfl,_,_,rfl,rfl,?_⟩;rw[<-show decide ((p:Int)+(n:Int)<=132)=decide (p+n<=132) from decide_eq_decide.mpr (by omega)] at k
    exact k
   ·rw[(Bool.not_eq_true _).mp g,Bool.false_and] at k;exact k
  match i,hi with
  |0,hi=>exact aZ (isW "sum" _ (by rw[l9 hi];exact aZ (isW "count" _ (by rw[gh hi];exact aZ k))))
  |1,hi=>exact aZ (isW "sum" _ (by rw[l9 hi];exact aZ (isW "count" _ (by rw[gh hi];exact aZ k))))
  |2,hi=>
   rw[dh 2 hi] at hd;obtain⟨c,n,p,rfl,h1,h2,h3,h4⟩:=ok;exact bh (room3 c n p rfl (bo hd rfl) (bo hd rfl) (bo hd rfl) rfl)
  |3,hi=>
   rw[dh 3 hi] at hd;obtain⟨c,n,p,rfl,h1,h2,h3,h4⟩:=ok;exact bh (room3 c n p rfl (bo hd rfl) (bo hd rfl) (bo hd rfl) rfl)
  |4,hi=>
   rw[dh 4 hi] at hd;obtain⟨c,n,p,ww,rfl,h1,h2,h3,h4,h5,h6⟩:=ok;have hc:dD H d "C" c:=bo hd rfl;have hn:dD H d "N" n:=bo hd rfl;have hp:dD H d "P" p:=bo hd rfl;have hw:dD H d "W" ww:=bo hd rfl;refine aZ (isW "sum" _ ?_);rw[l9 hi];refine bh ⟨_,rfl,d,c,n,rfl,hc,hn,_,rfl,?_⟩;have k:Q (.bl ((decide (c+n<=80)&&decide (n<=18))&&decide (p+ww<=132))) H:=k;have last:∀b:Bool,Q (.bl (b&&decide (p+ww<=132))) H->En (AE (cb 2) (tOp (rI0 fun i j=>.bl (decide (i<=j))) (tOp (rI0 fun i j=>.int (i+j)) (tJ (cb 1) (tC (.str "P"))) (tJ (cb 1) (tC (.str "W")))) (tC (.int 132))))
     { nx:=fun _ H'=>Q .non H',rt:=Q } [some (.ref a),some (.ref d),some (.bl b)] H:=by
    intro b k;refine⟨_,rfl,b,rfl,?_⟩;refine dF (fun g=>?_) (fun g=>?_)
    ·rw[g,Bool.true_and] at k;refine⟨_,rfl,d,_,rfl,hp,_,rfl,d,_,rfl,hw,_,_,rfl,rfl,_,_,rfl,rfl,?_⟩;rw[<-show decide ((p:Int)+(ww:Int)<=132)=decide (p+ww<=132) from decide_eq_decide.mpr (by omega)] at k
     exact k
    ·rw[(Bool.not_eq_true _).mp g,Bool.false_and] at k;exact k
   refine dF (fun g=>?_) (fun g=>?_)
   ·rw[g,Bool.true_and] at k;refine⟨_,rfl,d,_,rfl,hn,_,_,rfl,rfl,?_⟩;rw[<-show decide ((n:Int)<=18)=decide (n<=18) from decide_eq_decide.mpr (by omega)] at k
    exact last _ k
   ·rw[(Bool.not_eq_true _).mp g,Bool.false_and] at k;exact last false k
  |5,hi=>
   rw[dh 5 hi] at hd;obtain⟨p,ww,rfl,h4,h5,h6⟩:=ok;have hp:dD H d "P" p:=bo hd rfl;have hw:dD H d "W" ww:=bo hd rfl;refine aZ (isW "sum" _ ?_);rw[l9 hi];refine aZ (isW "count" _ ?_);rw[gh hi];refine bh ⟨_,rfl,d,_,rfl,hp,_,rfl,d,_,rfl,hw,_,_,rfl,rfl,_,_,rfl,rfl,?_⟩;have k:Q (.bl (decide (p+ww<=132))) H:=k;rw[<-show decide ((p:Int)+(ww:Int)<=132)=decide (p+ww<=132) from decide_eq_decide.mpr (by omega)] at k
   exact k
  |6,hi=>
   rw[dh 6 hi] at hd;obtain⟨c,n,p,rfl,h1,h2,h3,h4⟩:=ok;exact bh (room3 c n p rfl (bo hd rfl) (bo hd rfl) (bo hd rfl) rfl)
  |7,hi=>exact aZ (isW "sum" _ (by rw[l9 hi];exact aZ (isW "count" _ (by rw[gh hi];exact aZ k))))
  |8,hi=>exact aZ (isW "sum" _ (by rw[l9 hi];exact aZ (isW "count" _ (by rw[gh hi];exact aZ k))))
  |9,hi=>exact aZ (isW "sum" _ (by rw[l9 hi];exact aZ (isW "count" _ (by rw[gh hi];exact aZ k))))
  |i+10,hi=>omega
theorem d9{as:List Addr}{i:Nat}{y:V}(h:(as.map V.ref)[i]?=some y):∃c,as[i]?=some c/\y=V.ref c:=by
 rw[List.getElem?_map] at h;cases e:as[i]? with
 |none=>rw[e] at h;cases h
 |some c=>rw[e] at h;exact⟨c,rfl,(Option.some.inj h).symm⟩
def xE(t:Adr):Sp:=fun vs H Q _=>∃(a:Addr) (ps:List JM.Pt),vs=[.ref a]/\dU H a (dc t) ps/\(∀x∈ps,JM.eB x)/\∀H':Hp,aq H H'->Q (match JM.iW (ps.map JM.rl) with
 |some i=>.int (i:Int)
 |none=>.non) H'
theorem eZ:au ["parts", "counts", "latest", "passes", "index", "part", "sort", "most"] ["parts"] (ae ou):=⟨rfl,rfl,rfl,by decide +kernel,rfl,by decide +kernel,by decide +kernel⟩
def cl(ps:List JM.Pt):List V:=(List.range 5).map fun s=>V.int ((JM.cnt ps s:Nat):Int)
theorem wZ(i:Nat):JM.aO i<5:=by
 unfold JM.aO
 repeat' split
 all_goals decide
theorem xi(ps:List JM.Pt){s:Nat}(h:s<5):(cl ps)[s]?=some (V.int ((JM.cnt ps s:Nat):Int)):=by
 unfold cl;rw[List.getElem?_map,List.getElem?_range h];rfl
theorem DA(ps:List JM.Pt)(x:JM.Pt):(cl ps).set (JM.aO x.1) (V.int (((JM.cnt ps (JM.aO x.1):Nat):Int)+1))=cl (ps++[x]):=by
 apply List.ext_getElem?;intro j;have hs:=wZ x.1;have len:(cl ps).length=5:=by unfold cl;simp
 by_cases hj:j<5
 ·rw[xi _ hj];by_cases e:JM.aO x.1=j
  ·subst e;rw[List.getElem?_set_self (by omega),JM.iO]
   rfl
  ·rw[List.getElem?_set_ne e,xi _ hj];have:JM.cnt (ps++[x]) j=JM.cnt ps j:=by
    unfold JM.cnt;rw[List.filter_append,List.filter_cons,if_neg (by simpa using e),List.filter_nil,List.append_nil]
   rw[this]
 ·rw[List.getElem?_eq_none (by rw[List.length_set];omega),List.getElem?_eq_none (by unfold cl;simp;omega)]
theorem A7:∀i,i<10->sW.lookup (gm i)=some (.int ((JM.aO i:Nat):Int)):=by decide +kernel
theorem Cz:∀s,s<5->atI [V.int 16,V.int 3,V.int 8,V.int 16,V.int 1] ((s:Nat):Int)=some (V.int ((Pu.mostOf s:Nat):Int)):=by decide +kernel
theorem oP(ps:List JM.Pt)(x:JM.Pt):JM.cg (ps++[x])=JM.aO x.1:=by
 unfold JM.cg;rw[List.getLast?_append];rfl
theorem J9:gv ["parts", "counts", "latest", "passes", "index", "part", "sort", "most"] (ae ou) { kind:=.function,names:=[(".0",.local),("most",.local)],isGenerator:=false,isCoroutine:=false } [("most",7)]=true:=by decide +kernel
theorem BH(F:Fun K "first_unfit" "first_unfit" ou f fd)(T:Txt K w mg t)(cPass:Cal P w K mg base "part_passes" 1 ["part"] (uN t))(cRoom:Cal P w K mg base "has_room" 2 ["part"] (vD t)) :
  aT P w K mg base CX0 3 f fd ["parts"] (xE t):=by
 refine F.ok eZ (fun vs H Q E h=>?_) (fun cdv A outer s H vs Q E hr h=>?_)
 ·obtain⟨a,ps,rfl,_⟩:=h;rfl
 ·obtain⟨a,ps,rfl,⟨as,h1,h2,h3⟩,ok,k⟩:=h;refine⟨_,a4 (iF (own:=[("most",7)]) (i:=1) rfl eZ.nd rfl rfl (kf rfl rfl rfl rfl) (B5 (je T.gM rfl)) (bD J9) (fun s H C cl fp=>aH (i:=7) eZ.nd rfl (Or.inl rfl)) (fun s H C cl fp=>dj) (fun s H C cl fp=>ah))
   (a4 (ax (i:=2) eZ.nd rfl (Or.inl rfl) ah)
   (a4 (ax (i:=3) eZ.nd rfl (Or.inl rfl) ah)
   (a4 (bM PassesOwn.never rfl (gY rfl T.zEnum (a0 (pv 0) a5)) (fM rfl (ba (aH (i:=4) eZ.nd rfl (Or.inl rfl)) (ba (aH (i:=5) eZ.nd rfl (Or.inl rfl)) eR)))
    (a4 (ax (i:=6) eZ.nd rfl (Or.inl rfl) (j5 (je T.gS rfl) (aI (pv 5) rfl) (fun _ _=>rfl)))
    (a4 (rK (pv 1) (pv 6) nT ah nN gO)
    (a4 (vt (i:=3) eZ.nd rfl (Or.inl rfl) (az cPass hr (by decide) rfl (a0 (pv 5) a5)) nN)
    (a4 (aP (PW.pt (iP (aB jY (pv 6) (pv 2) (aJ _)) (fW (aB iU (bp bK (pv 1) (pv 6) (fun _ _=>rfl)) (bp cu (je T.gM rfl) (pv 6) (fun _ _=>rfl)) (aJ _))))) (a8 (ai (pv 4))) aD)
    (a4 (aP (PW.pt (iP (aB iU (pv 3) (bH T.kPasses rfl) (aJ _)) (fW (eg (fY (az cRoom hr (by decide) rfl (a0 (pv 5) a5))))))) (a8 (ai (pv 4))) aD)
    (a8 (ax (i:=2) eZ.nd rfl (Or.inl rfl) (pv 6)))))))))
   (a8 (ai cG))))),?_⟩
  refine⟨t.aM,rfl,⟨_,T.sM _⟩,fun D hD=>?_⟩
  refine Hk (K:=K) (a:=t.aM) (xs:=[.int 16,.int 3,.int 8,.int 16,.int 1]) (fun i H'=>aq H H'/\H' D=some (.lst (List.replicate i (V.int 0))))
   ⟨ag hD,a7⟩ (fun _ _ _ _=>T.sM _) ?_ ?_
  ·rintro i y H' hi ⟨s,hd⟩;have hil:i<5:=(List.getElem?_eq_some_iff.mp hi).1;refine⟨rfl,_,hd,?_,?_,?_⟩
   ·rw[List.length_replicate];exact Nat.lt_trans hil (by decide)
   ·intro b o e;rw[af (a9 e hD)];exact s b o e
   ·rw[a7,<-List.replicate_succ']
  rintro H1 ⟨s1,hd1⟩;have hd1:H1 D=some (.lst (cl (ps.take 0))):=hd1;refine⟨_,rfl,a,_,rfl,SqL.of (s1 _ _ h1),fJ (K:=K) (a:=a) (xs:=as.map V.ref) (fun i σ H'=>∃(x4 x5 x6 x7:Option V),σ=[some (.ref a),some (.ref D),some (.int ((JM.cg (ps.take i):Nat):Int)),some (.int ((((ps.take i).map JM.cf).sum:Nat):Int)),x4,x5,x6,x7]/\
    aq H H'/\H' D=some (.lst (cl (ps.take i)))/\∀j,j<i->Pu.lineFine (ps.map JM.rl) j=true)
   ⟨none,none,none,none,rfl,s1,hd1,fun j hj=>absurd hj (Nat.not_lt_zero j)⟩ (by rintro i σ H' _ ⟨_,_,_,_,_,s,_⟩;exact SqL.of (s _ _ h1)) ?_ ?_⟩
  ·rintro i y σ H2 Tp hi ⟨x4,x5,x6,x7,rfl,s2,hd2,fine⟩ hTp;obtain⟨c,hc,rfl⟩:=d9 hi;have hil:=(List.getElem?_eq_some_iff.mp hc).1;obtain⟨x,hx⟩:∃x,ps[i]?=some x:=⟨_,List.getElem?_eq_getElem (by omega)⟩
   have okx:=ok x (List.mem_of_getElem? hx);have s3:aq H2 (upd H2 Tp (.tup [.int (i:Nat),.ref c])):=ag hTp;have ht3:upd H2 Tp (.tup [.int (i:Nat),.ref c]) Tp=some (.tup [.int (i:Nat),.ref c]):=a7;have hd3:=s3 _ _ hd2;have s23:=s2.trans s3;have px:=(h3 i c x hc hx).same s23;generalize upd H2 Tp (.tup [.int (i:Nat),.ref c])=H3 at ht3 hd3 s23 px;have hs5:=wZ x.1;refine⟨Tp,_,rfl,SqT.of ht3,rfl,_,_,rfl,_,_,rfl,rfl,?_⟩;obtain⟨dx,d,ha,hdd⟩:=id px;refine⟨_,rfl,c,t.cP,dx,_,_,rfl,ha,T.clP,T.nPw,f6 x.1 d,t.aS,sW,_,_,rfl,rfl,T.dS,A7 x.1 okx.1,?_⟩;refine⟨_,rfl,_,rfl,D,_,_,_,rfl,rfl,SqL.of hd3,da (xi (ps.take i) hs5),_,_,rfl,rfl,D,_,_,JM.aO x.1,rfl,rfl,hd3,?_,?_⟩
   ·unfold ixN;rw[if_pos (by omega),if_pos (by unfold cl;simp;omega)]
    rfl
   rw[DA,<-JM.cH hx];have stay:∀z o,H3 z=some o->z≠D->upd H3 D (.lst (cl (ps.take (i+1)))) z=some o:=fun z o e ne=>by rw[af ne];exact e
   have nD:H D=none:=hD;have s4:aq H (upd H3 D (.lst (cl (ps.take (i+1))))):=fun z o e=>stay z o (s23 z o e) (a9 e nD)
   have px4:dc t (upd H3 D (.lst (cl (ps.take (i+1))))) c x:=⟨dx,d,stay _ _ ha (cX ha hd3 (by intro z;cases z)),stay _ _ hdd (cX hdd hd3 (by intro z;cases z))⟩
   have hd4:upd H3 D (.lst (cl (ps.take (i+1)))) D=some (.lst (cl (ps.take (i+1)))):=a7;generalize upd H3 D (.lst (cl (ps.take (i+1))))=H4 at s4 px4 hd4;refine⟨_,rfl,_,rfl,c,x,rfl,px4,okx,_,_,rfl,rfl,?_⟩;have psum:((((ps.take i).map JM.cf).sum:Nat):Int)+((JM.cf x:Nat):Int)=((((ps.take (i+1)).map JM.cf).sum:Nat):Int):=by
    rw[JM.cH hx,List.map_append,List.sum_append];simp
   have lf:=JM.kT hx okx fine;have hps:((ps.take (i+1)).map JM.cf).sum=((ps.take i).map JM.cf).sum+JM.cf x:=by
    rw[JM.cH hx,List.map_append,List.sum_append];simp
   have hcn:JM.cnt (ps.take (i+1)) (JM.aO x.1)=JM.cnt (ps.take i) (JM.aO x.1)+1:=by rw[JM.cH hx,JM.iO]
   unfold JM.tm at lf;rw[<-hps,<-hcn] at lf;have out:Pu.lineFine (ps.map JM.rl) i=false->Q (.int (i:Int)) H4:=fun z=>by
    have:=k H4 s4;rw[JM.vF (by rw[List.length_map];omega) fine z] at this
    exact this
   dsimp only;rw[psum];have test1:=TIs.or (t:=dM (tOp (rI0 fun i j=>.bl (decide (i<j))) (cb 6) (cb 2))) (u:=dM (tOp (rI0 fun i j=>.bl (decide (j<i))) (tOp (yz K) (cb 1) (cb 6)) (tOp (G8 K) (tC (.ref t.aM)) (cb 6))))
    (σ:=[some (.ref a),some (.ref D),some (.int ((JM.cg (ps.take i):Nat):Int)),some (.int ((((ps.take (i+1)).map JM.cf).sum:Nat):Int)),some (.int (i:Int)),some (.ref c),some (.int ((JM.aO x.1:Nat):Int)),x7]) (H:=H4)
    (b:=decide (JM.aO x.1<JM.cg (ps.take i))) (c:=decide (Pu.mostOf (JM.aO x.1)<JM.cnt (ps.take (i+1)) (JM.aO x.1)))
    (fun Q q=>⟨_,rfl,_,rfl,_,_,rfl,rfl,_,rfl,by
     rw[<-show decide (((JM.aO x.1:Nat):Int)<((JM.cg (ps.take i):Nat):Int))=decide (JM.aO x.1<JM.cg (ps.take i)) from decide_eq_decide.mpr (by omega)] at q
     exact q⟩)
    (fun _ Q q=>⟨_,rfl,_,rfl,D,_,_,_,rfl,rfl,SqL.of hd4,da (xi (ps.take (i+1)) hs5),_,rfl,t.aM,_,_,_,rfl,rfl,T.sM _,Cz _ hs5,_,_,rfl,rfl,_,rfl,by
     rw[<-show decide (((Pu.mostOf (JM.aO x.1):Nat):Int)<((JM.cnt (ps.take (i+1)) (JM.aO x.1):Nat):Int))=decide (Pu.mostOf (JM.aO x.1)<JM.cnt (ps.take (i+1)) (JM.aO x.1)) from decide_eq_decide.mpr (by omega)] at q
     exact q⟩)
   refine test1 _ ?_;generalize(decide (JM.aO x.1<JM.cg (ps.take i)) || decide (Pu.mostOf (JM.aO x.1)<JM.cnt (ps.take (i+1)) (JM.aO x.1)))=b1 at lf;cases b1 with
   |true=>exact bh ⟨_,rfl,out (by rw[lf];rfl)⟩
   |false=>
    refine aZ ?_;have test2:=TIs.or (t:=dM (tOp (rI0 fun i j=>.bl (decide (j<i))) (cb 3) (tC (.int 250)))) (u:=AU (tB (p9 (vD t) [] E0 (gC (cb 5) jz))))
     (σ:=[some (.ref a),some (.ref D),some (.int ((JM.cg (ps.take i):Nat):Int)),some (.int ((((ps.take (i+1)).map JM.cf).sum:Nat):Int)),some (.int (i:Int)),some (.ref c),some (.int ((JM.aO x.1:Nat):Int)),x7]) (H:=H4)
     (b:=decide (250<((ps.take (i+1)).map JM.cf).sum)) (c:=!JM.iJ x)
     (fun Q q=>⟨_,rfl,_,_,rfl,rfl,_,rfl,by
      rw[<-show decide ((250:Int)<((((ps.take (i+1)).map JM.cf).sum:Nat):Int))=decide (250<((ps.take (i+1)).map JM.cf).sum) from decide_eq_decide.mpr (by omega)] at q
      exact q⟩)
     (fun _ Q q=>⟨_,rfl,c,x,rfl,px4,okx,_,rfl,q⟩)
    refine test2 _ ?_;generalize(decide (250<((ps.take (i+1)).map JM.cf).sum) || !JM.iJ x)=b2 at lf;cases b2 with
    |true=>exact bh ⟨_,rfl,out (by rw[lf];rfl)⟩
    |false=>
     refine aZ ⟨_,rfl,?_⟩;refine⟨some (.int (i:Int)),some (.ref c),some (.int ((JM.aO x.1:Nat):Int)),x7,?_,s4,hd4,fun j hj=>?_⟩
     ·rw[show JM.cg (ps.take (i+1))=JM.aO x.1 by rw[JM.cH hx,oP]]
      rfl
     ·by_cases e:j=i
      ·subst e;rw[lf];rfl
      ·exact fine j (by omega)
  ·rintro σ H2 ⟨x4,x5,x6,x7,rfl,s2,hd2,fine⟩;have:=k H2 s2;rw[JM.vv (by rw[List.length_map];rw[List.length_map,h2] at fine;exact fine)] at this
   exact this
def vX(t:Adr):Sp:=fun vs H Q _=>∃(a:Addr) (i:Nat) (ls:List Bs),vs=[.ref a,.int (i:Int)]/\dU H a oI ls/\i<ls.length/\∀(H':Hp) (p:Addr),aq H H'->H' p=some (.lst (([1,(i:Int),if i=64 then 0 else((JM.aW (ls.getD i [])).1:Int)]:List Int).map V.int))->Q (.ref p) H'
theorem BX:au ["lines", "index"] ["lines", "index"] (ae rO):=⟨rfl,rfl,rfl,by decide +kernel,rfl,by decide +kernel,by decide +kernel⟩
theorem zp(F:Fun K "wrong_bytes_fault" "wrong_bytes_fault" rO f fd)(T:Txt K w mg t)(cLine:Cal P w K mg base "read_line" 5 ["line"] (vW K t)):aT P w K mg base CX0 6 f fd ["lines", "index"] (vX t):=by
 refine F.ok BX (fun vs H Q E h=>?_) (fun cdv A outer s H vs Q E hr h=>?_)
 ·obtain⟨a,i,ls,rfl,_⟩:=h;rfl
 ·obtain⟨a,i,ls,rfl,⟨as,h1,h2,h3⟩,hi,k⟩:=h;refine⟨_,a4 (aP (aB bY (pv 1) (bH T.kLines rfl) (aJ _)) (a8 (ai (b9 (a0 ah (a0 (pv 1) (a0 ah a5)))))) aD)
   (a8 (ai (b9 (a0 ah (a0 (pv 1) (a0 (aI (az cLine hr (by decide) rfl (a0 (bp bK (pv 0) (pv 1) (fun _ _=>rfl)) a5)) rfl) a5)))))),?_⟩
  refine⟨_,rfl,rfl,_,rfl,dF (fun e=>?_) (fun e=>?_)⟩
  ·have e:i=64:=by
    have:=V.int.inj (of_decide_eq_true e);omega
   refine⟨_,rfl,(by show 3<=sizeLine;decide),fun p hp=>k _ p (ag hp) ?_⟩
   rw[a7,if_pos e];rfl
  ·have e:i≠64:=by
    rintro rfl;exact e (decide_eq_true rfl)
   obtain⟨c,hc⟩:∃c,as[i]?=some c:=⟨_,List.getElem?_eq_getElem (by omega)⟩
   have hL:ls[i]?=some (ls.getD i []):=by
    rw[List.getD_eq_getElem?_getD,List.getElem?_eq_getElem hi];rfl
   refine⟨_,rfl,_,rfl,_,rfl,a,_,_,_,rfl,rfl,SqL.of h1,da (by rw[List.getElem?_map,hc];rfl),c,_,rfl,SqL.of (h3 i c _ hc hL),fun H1 r s1 rd=>?_⟩
   obtain⟨dr,v,o,m⟩:=rd;refine⟨r,t.cR,dr,_,_,rfl,o,T.clR,T.nRr,rfl,(by show 3<=sizeLine;decide),fun p hp=>k _ p (s1.trans (ag hp)) ?_⟩
   rw[a7,if_neg e];rfl
def xh(t:Adr):Sp:=fun vs H Q _=>∃(a q:Addr) (b:Bs),vs=[.ref a,.ref q]/\dU H a oI (Pu.pieces b)/\dU H q (dc t) (JM.bj b)/\∀(H':Hp) (p:Addr),aq H H'->H' p=some (.lst ((JM.bG b).map V.int))->Q (.ref p) H'
theorem xq:au ["lines", "parts", "unfit"] ["lines", "parts"] (ae qB):=⟨rfl,rfl,rfl,by decide +kernel,rfl,by decide +kernel,by decide +kernel⟩
theorem HA(b:Bs):∀x∈JM.bj b,JM.eB x:=fun x hx=>JM.ow _ (fun p hp=>JM.fQ b.length b (Nat.le_refl _) p (List.mem_of_mem_take hp)) x hx
theorem B6(F:Fun K "find_fault" "find_fault" qB f fd)(T:Txt K w mg t)(cWrong:Cal P w K mg base "wrong_bytes_fault" 6 ["lines", "index"] (vX t))(cUnfit:Cal P w K mg base "first_unfit" 3 ["parts"] (xE t)) :
  aT P w K mg base CX0 7 f fd ["lines", "parts"] (xh t):=by
 refine F.ok xq (fun vs H Q E h=>?_) (fun cdv A outer s H vs Q E hr h=>?_)
 ·obtain⟨a,q,b,rfl,_⟩:=h;rfl
 ·obtain⟨a,q,b,rfl,eL,eP,k⟩:=h;have hok:=HA b;have eL':=eL;have eP':=eP;obtain⟨as,a1,a2,a3⟩:=eL;obtain⟨qs,q1,q2,q3⟩:=eP;refine⟨_,a4 (aP (aB jY (b6 aU rfl T.zLen PySem.boot_len (a0 (pv 1) a5)) (b6 aU rfl T.zLen PySem.boot_len (a0 (pv 0) a5)) (aJ _)) (a8 (ai (az cWrong hr (by decide) rfl (a0 (pv 0) (a0 (b6 aU rfl T.zLen PySem.boot_len (a0 (pv 1) a5)) a5))))) aD)
   (a4 (ax (i:=2) xq.nd rfl (Or.inl rfl) (az cUnfit hr (by decide) rfl (a0 (pv 1) a5)))
   (a4 (aP (aB wt (pv 2) cG (aJ _)) (a8 (ai (b9 (a0 ah (a0 (pv 2) (a0 ah a5)))))) aD)
   (a4 (aP (PW.pt (iP (eg (dY (pv 1) (fun _=>rfl))) (fW (aB ue (aI (bp bK (pv 1) (i7 fk ah) (fun _ _=>rfl)) rfl) aA (aJ _))))) (a8 (ai (b9 (a0 ah (a0 (b6 aU rfl T.zLen PySem.boot_len (a0 (pv 1) a5)) (a0 ah a5)))))) aD)
   (a8 (ai (b9 a5)))))),?_⟩
  refine⟨_,rfl,q,_,rfl,.inl (SqL.of q1),_,rfl,a,_,rfl,.inl (SqL.of a1),_,_,rfl,rfl,_,rfl,?_⟩;rw[show decide (((qs.map V.ref).length:Int)<((as.map V.ref).length:Int))=decide ((JM.bj b).length<(Pu.pieces b).length) by rw[List.length_map,List.length_map,q2,a2];exact decide_eq_decide.mpr (by omega)]
  unfold JM.bG at k;refine dF (fun e=>?_) (fun e=>?_)
  ·have e:=of_decide_eq_true e;rw[if_pos e] at k;refine⟨_,rfl,_,rfl,q,_,rfl,.inl (SqL.of q1),a,(JM.bj b).length,Pu.pieces b,?_,eL',e,k⟩;rw[List.length_map,q2];rfl
  ·have e:¬(JM.bj b).length<(Pu.pieces b).length:=fun z=>e (decide_eq_true z)
   rw[if_neg e] at k;refine⟨_,rfl,q,JM.bj b,rfl,eP',hok,fun H1 s1=>?_⟩
   cases eu:JM.iW ((JM.bj b).map JM.rl) with
   |some i=>
    rw[eu] at k;refine⟨_,rfl,rfl,_,rfl,bh ⟨_,rfl,(by show 3<=sizeLine;decide),fun p hp=>k _ p (s1.trans (ag hp)) ?_⟩⟩
    rw[a7];rfl
   |none=>
    rw[eu] at k;dsimp only at k;refine⟨_,rfl,rfl,_,rfl,aZ ?_⟩;have eq:((JM.bj b).map JM.rl).getLast?.map Pu.RLine.sort=some 4↔∃x,(JM.bj b).getLast?=some x/\7<=x.1:=by
     rw[List.getLast?_map,Option.map_map];cases el:(JM.bj b).getLast? with
     |none=>simp
     |some x=>
      have hx:=hok x (List.mem_of_getLast? el);show some ((JM.rl x).sort)=some 4↔_;rw[JM.fF];constructor
      ·intro z;refine⟨x,rfl,?_⟩;have z:=Option.some.inj z;unfold JM.aO at z
       repeat' split at z
       all_goals omega
      ·rintro⟨y,ey,hy⟩;cases ey;unfold JM.aO;rw[if_neg (by omega),if_neg (by omega),if_neg (by omega),if_neg (by omega)]
    have lenQ:((qs.map V.ref).length:Int)=((JM.bj b).length:Int):=by rw[List.length_map,q2]
    have test:TIs _ _ H1 (!decide (((JM.bj b).map JM.rl).getLast?.map Pu.RLine.sort=some 4)):=TIs.or (t:=AU (fun σ H Q=>cb 1 σ H fun x H'=>∃k,zR K x H' k/\Q k H')) (u:=dM (tOp rNe (lO K (tOp (yz K) (cb 1) (tUn (rU fun i=>.int (-i)) (tC (.int 1)))) "word") (tC (.str "list"))))
      (σ:=[some (.ref a),some (.ref q),some .non]) (H:=H1) (b:=qs.isEmpty) (c:=!decide (((JM.bj b).map JM.rl).getLast?.map Pu.RLine.sort=some 4))
      (fun Q h=>⟨_,rfl,_,.inl ⟨_,SqL.of (s1 _ _ q1),rfl⟩,by
       cases qs with
       |nil=>exact h
       |cons _ _=>exact h⟩)
      (fun ne Q h=>by
       have ne:qs≠[]:=by
        rintro rfl;cases ne
       obtain⟨c,hc⟩:∃c,qs.getLast?=some c:=⟨_,List.getLast?_eq_some_getLast ne⟩;obtain⟨x,hx⟩:∃x,(JM.bj b).getLast?=some x:=⟨_,List.getLast?_eq_some_getLast (by
        intro z;rw[z] at q2;exact ne (List.length_eq_zero_iff.mp q2))⟩
       have pc:dc t H1 c x:=(q3 (qs.length-1) c x (by rw[<-List.getLast?_eq_getElem?];exact hc) (by rw[q2,<-List.getLast?_eq_getElem?];exact hx)).same s1
       obtain⟨dx,d,h1,h2⟩:=pc;refine⟨_,rfl,_,rfl,q,_,_,_,rfl,rfl,SqL.of (s1 _ _ q1),qr (by rw[List.getLast?_map,hc];rfl),c,t.cP,dx,_,_,rfl,h1,T.clP,T.nPw,f6 x.1 d,rfl,_,rfl,?_⟩
       have ox:=hok x (List.mem_of_getLast? hx);rw[FV ox.1];have:decide (((JM.bj b).map JM.rl).getLast?.map Pu.RLine.sort=some 4)=decide (7<=x.1):=decide_eq_decide.mpr (eq.trans ⟨fun⟨y,ey,hy⟩=>by rw[hx] at ey;cases ey;exact hy,fun z=>⟨x,hx,z⟩⟩)
       rw[this] at h;exact h) |>.eq (by
        cases hq:qs.isEmpty with
        |false=>rfl
        |true=>
         have qe:qs=[]:=List.isEmpty_iff.mp hq;have pe:JM.bj b=[]:=by
          rw[qe] at q2;exact List.length_eq_zero_iff.mp q2.symm
         rw[pe];rfl)
    refine test _ ?_;by_cases g:((JM.bj b).map JM.rl).getLast?.map Pu.RLine.sort=some 4
    ·rw[decide_eq_true g];rw[if_pos g] at k;exact aZ ⟨Nat.zero_le _,fun p hp=>k _ p (s1.trans (ag hp)) a7⟩
    ·rw[decide_eq_false g];rw[if_neg g] at k;refine bh ⟨_,rfl,q,_,rfl,.inl (SqL.of (s1 _ _ q1)),(by show 3<=sizeLine;decide),fun p hp=>k _ p (s1.trans (ag hp)) ?_⟩
     rw[a7,lenQ];rfl
def Ik(t:Adr)(H:Hp)(p:Addr)(b:Bs):Prop:=∃(dx u r:Addr),H p=some (.ins t.cT dx [("parts",.ref u),("refusal",.ref r)])/\H r=some (.lst ((JM.g0 b).map V.int))/\(JM.g0 b=[]->dU H u (dc t) (JM.bj b))
def uH(K:PySem.W.Frag)(t:Adr):Sp:=fun vs H Q _=>∃(a:Addr) (b:Bs),vs=[.ref a]/\SqL K H a (b.map vB)/\b.length<=65536/\∀(H':Hp) (p:Addr),aq H H'->Ik t H' p b->Q (.ref p) H'
theorem kn:au ["text", "lines", "parts", "fault"] ["text"] (ae lV):=⟨rfl,rfl,rfl,by decide +kernel,rfl,by decide +kernel,by decide +kernel⟩
theorem y1(F:Fun K "read_report" "read_report" lV f fd)(T:Txt K w mg t)(cSplit:Cal P w K mg base "split_lines" 1 ["text"] (xx K))(cParts:Cal P w K mg base "read_parts" 6 ["lines"] (xR t))(cFault:Cal P w K mg base "find_fault" 7 ["lines", "parts"] (xh t))
  (mT:Mak P w K mg base "Report" t.cT 1 ["self", "parts", "refusal"] (wO t)):aT P w K mg base CX0 8 f fd ["text"] (uH K t):=by
 refine F.ok kn (fun vs H Q E h=>?_) (fun cdv A outer s H vs Q E hr h=>?_)
 ·obtain⟨a,b,rfl,_⟩:=h;rfl
 ·obtain⟨a,b,rfl,hS,hb,k⟩:=h;refine⟨_,a4 (aP (aB iU (b6 aU rfl T.zLen PySem.boot_len (a0 (pv 0) a5)) (bH T.kBytes rfl) (aJ _)) (a8 (ai (fo mT hr (by decide) rfl (a0 (b9 a5) (a0 (b9 (a0 (bH T.kLong rfl) a5)) a5))))) aD)
   (a4 (ax (i:=1) kn.nd rfl (Or.inl rfl) (az cSplit hr (by decide) rfl (a0 (pv 0) a5)))
   (a4 (ax (i:=2) kn.nd rfl (Or.inl rfl) (az cParts hr (by decide) rfl (a0 (pv 1) a5)))
   (a4 (ax (i:=3) kn.nd rfl (Or.inl rfl) (az cFault hr (by decide) rfl (a0 (pv 1) (a0 (pv 2) a5))))
   (a4 (aP (dY (pv 3) (fun _=>rfl)) (a8 (ai (fo mT hr (by decide) rfl (a0 (b9 a5) (a0 (aQ mX (b9 (a0 (bH T.kFaulty rfl) a5)) (pv 3)) a5))))) aD)
   (a8 (ai (fo mT hr (by decide) rfl (a0 (pv 2) (a0 (b9 a5) a5))))))))),?_⟩
  refine⟨_,rfl,a,_,rfl,.inl hS,_,_,rfl,rfl,_,rfl,?_⟩;rw[show decide ((4096:Int)<((b.map vB).length:Int))=decide (4096<b.length) by rw[List.length_map];exact decide_eq_decide.mpr (by omega)]
  refine dF (fun e=>?_) (fun e=>?_)
  ·have e:=of_decide_eq_true e;refine⟨Nat.zero_le _,fun u hu=>⟨(by show 1<=sizeLine;decide),fun r hr'=>?_⟩⟩
   intro x dx nx ndx nex;refine⟨x,dx,.ref u,.ref r,rfl,a7,fun H3 h3 kp=>⟨rfl,k H3 x ?_ ?_⟩⟩
   ·exact((ag hu).trans (ag hr')).trans (aq.made nx ndx kp)
   ·have rf:JM.g0 b=[-1]:=by
     unfold JM.g0;rw[if_pos e]
    refine⟨dx,u,r,h3,?_,fun z=>by rw[rf] at z;cases z⟩
    rw[rf];exact aq.made nx ndx kp _ _ a7
  ·have e:¬4096<b.length:=fun z=>e (decide_eq_true z)
   refine⟨_,rfl,a,b,rfl,hS,by omega,fun H1 p1 s1 e1=>?_⟩
   refine⟨_,rfl,p1,Pu.pieces b,rfl,e1,fun H2 p2 s2 e2=>?_⟩
   refine⟨_,rfl,_,rfl,p1,p2,b,rfl,e1.same s2 (fun a x h=>s2 _ _ h),e2,fun H3 p3 s3 e3=>?_⟩
   have s13:=(s1.trans s2).trans s3;have e2':dU H3 p2 (dc t) (JM.bj b):=e2.same s3 (fun a x h=>h.same s3)
   refine⟨_,rfl,_,.inl ⟨_,SqL.of e3,rfl⟩,?_⟩;have jd:JM.g0 b=if JM.bG b=[] then[] else -6::JM.bG b:=by
    unfold JM.g0;rw[if_neg e]
   by_cases fe:JM.bG b=[]
   ·rw[fe];refine aZ ⟨_,rfl,Nat.zero_le _,fun r hr'=>?_⟩
    intro x dx nx ndx nex;refine⟨x,dx,.ref p2,.ref r,rfl,a7,fun H4 h4 kp=>⟨rfl,k H4 x ?_ ?_⟩⟩
    ·exact(s13.trans (ag hr')).trans (aq.made nx ndx kp)
    ·have s4:=(ag (o:=.lst []) hr').trans (aq.made nx ndx kp);refine⟨dx,p2,r,h4,?_,fun _=>e2'.same s4 (fun a x h=>h.same s4)⟩
     rw[jd,if_pos fe];exact aq.made nx ndx kp _ _ a7
   ·have em:((JM.bG b).map V.int).isEmpty=false:=by
     cases z:JM.bG b with
     |nil=>exact absurd z fe
     |cons _ _=>rfl
    rw[em];have flen:(JM.bG b).length<=3:=by
     unfold JM.bG
     repeat' split
     all_goals simp
    refine bh ⟨Nat.zero_le _,fun u hu=>⟨(by show 1<=sizeLine;decide),fun g hg=>?_⟩⟩
    have su:=ag (o:=.lst []) hu;have sg:=ag (o:=.lst [V.int (-6)]) hg;refine⟨_,rfl,g,p3,_,_,rfl,rfl,a7,sg _ _ (su _ _ e3),?_,fun r hr'=>?_⟩
    ·rw[List.length_map];refine Nat.le_trans (m:=4) ?_ (by decide)
     show 1+_<=4;omega
    ·have sr:=ag (o:=.lst ([V.int (-6)]++(JM.bG b).map V.int)) hr';intro x dx nx ndx nex;refine⟨x,dx,.ref u,.ref r,rfl,a7,fun H4 h4 kp=>⟨rfl,k H4 x ?_ ?_⟩⟩
     ·exact(((s13.trans su).trans sg).trans sr).trans (aq.made nx ndx kp)
     ·refine⟨dx,u,r,h4,?_,fun z=>by rw[jd,if_neg fe] at z;cases z⟩
      rw[jd,if_neg fe];exact aq.made nx ndx kp _ _ a7
theorem p8:∀ns:List Int,(∀n∈ns,0<=n/\n<=255)->(ReportsNeutral.text ns).map vB=ns.map V.int
 |[],_=>rfl
 |n::ns,h=>by
  have ih:=p8 ns fun m hm=>h m (List.mem_cons_of_mem _ hm)
  have hn:=h n List.mem_cons_self;show vB (UInt8.ofNat n.toNat)::(ReportsNeutral.text ns).map vB=V.int n::ns.map V.int;rw[ih];congr 1;unfold vB;congr 1;rw[UInt8.toNat_ofNat'];omega
end
abbrev kg:Stmt:=top 48
section
variable{P:Program}{w:World}{K:PySem.W.Frag}{mg:Str->Option Value}{base:Heap}{t:Adr}{f:Addr}{fd:FuncData}
def uf(t:Adr):Sp:=fun vs H Q _=>∃(a:Addr) (ps:List JM.Pt),vs=[.ref a]/\dU H a (dc t) ps/\(∀x∈ps,JM.eB x)/\ps.length<=64/\∀H':Hp,aq H H'->Q (.int (((ps.map JM.cf).sum:Nat):Int)) H'
theorem my:au ["parts", "part"] ["parts"] (ae kg):=⟨rfl,rfl,rfl,by decide +kernel,rfl,by decide +kernel,by decide +kernel⟩
theorem uj:∀l:List Nat,(List.map (fun(n:Nat)=>(n:Int)) l).sum=((l.sum:Nat):Int)
 |[]=>rfl
 |a::l=>by
  rw[List.map_cons,List.sum_cons,List.sum_cons,uj l];omega
theorem IW:gv ["parts", "part"] (ae kg) { kind:=.function,names:=[(".0",.local),("part",.local),("part_passes",.globalImplicit)],isGenerator:=false,isCoroutine:=false } [("part",1)]=true:=by decide +kernel
theorem yP(F:Fun K "report_passes" "report_passes" kg f fd)(T:Txt K w mg t)(cPass:Cal P w K mg base "part_passes" 1 ["part"] (uN t)):aT P w K mg base CX0 2 f fd ["parts"] (uf t):=by
 refine F.ok my (fun vs H Q E h=>?_) (fun cdv A outer s H vs Q E hr h=>?_)
 ·obtain⟨a,ps,rfl,_⟩:=h;rfl
 ·obtain⟨a,ps,rfl,⟨as,h1,h2,h3⟩,ok,len,k⟩:=h;refine⟨_,a8 (ai (b6 (Gz rfl) rfl T.zSum boot_sum (a0 (fG (own:=[("part",1)]) rfl my.nd (bu (pv 0)) (bD IW)
   (fun s H C cl fp=>aH (i:=1) my.nd rfl (Or.inl rfl)) (fun s H C cl fp=>dj) (fun s H C cl fp=>az cPass hr (by decide) rfl (a0 (pv 1) a5))) a5))),?_⟩
  refine⟨_,rfl,a,rfl,⟨_,SqL.of h1⟩,fun D hD=>?_⟩
  refine xg (K:=K) (a:=a) (xs:=as.map V.ref) (fun i H'=>aq H H'/\H' D=some (.lst (((ps.take i).map fun x=>((JM.cf x:Nat):Int)).map V.int)))
   ⟨ag hD,a7⟩ (by rintro i H' _ ⟨s,_⟩;exact SqL.of (s _ _ h1)) ?_ ?_
  ·rintro i y H' hi ⟨s,hd⟩;obtain⟨c,hc,rfl⟩:=d9 hi;have hil:=(List.getElem?_eq_some_iff.mp hc).1;obtain⟨x,hx⟩:∃x,ps[i]?=some x:=⟨_,List.getElem?_eq_getElem (by omega)⟩
   refine⟨rfl,_,rfl,c,x,rfl,(h3 i c x hc hx).same s,ok x (List.mem_of_getElem? hx),_,hd,?_,?_,?_⟩
   ·rw[List.length_map,List.length_map,List.length_take];exact Nat.lt_of_le_of_lt (Nat.le_trans (Nat.min_le_right _ _) len) (by decide)
   ·intro b o e;rw[af (a9 e hD)];exact s b o e
   ·rw[a7,JM.cH hx,List.map_append,List.map_append];rfl
  ·rintro H' ⟨s,hd⟩;rw[List.length_map,h2,List.take_length] at hd;refine⟨D,_,rfl,SqL.of hd,?_⟩;have e:(ps.map fun x=>((JM.cf x:Nat):Int)).sum=(((ps.map JM.cf).sum:Nat):Int):=by
    rw[<-uj,List.map_map];rfl
   rw[e];exact k H' s
end
abbrev sWs:Stmt:=top 68
abbrev sKs:Stmt:=top 69
noncomputable abbrev iE(names:List (Str×NameKind)):Scope:={ kind:=.function,names:=names,isGenerator:=false,isCoroutine:=false }
section
variable{P:Program}{w:World}{K:PySem.W.Frag}{mg:Str->Option Value}{base:Heap}{t:Adr}{f:Addr}{fd:FuncData}
theorem lX{β:Type}{H:Hp}{p:Addr}{R:Hp->Addr->β->Prop}{ys:List β}(h:bg H p (fun H v x=>∃a,v=.ref a/\R H a x) ys):dU H p R ys:=by
 obtain⟨vs,e,pr⟩:=h;have go:∀{vs:List V} {ys:List β},Paired (fun v y=>∃a,v=.ref a/\R H a y) vs ys->∃as:List Addr,vs=as.map V.ref/\Paired (fun a y=>R H a y) as ys:=by
  intro vs ys q
  induction q with
  |nil=>exact⟨[],rfl,.nil⟩
  |cons r _ ih=>
   obtain⟨a,rfl,h⟩:=r;obtain⟨as,rfl,q⟩:=ih;exact⟨a::as,rfl,.cons h q⟩
 obtain⟨as,rfl,q⟩:=go pr;exact⟨as,e,b5 q,fun j a x h1 h2=>cj q h1 h2⟩
def PtV(t:Adr)(H:Hp)(v:V)(x:JM.Pt):Prop:=∃a,v=.ref a/\dc t H a x
theorem jQ{t:Adr}{D:Addr}(H H':Hp)(y:V)(z:JM.Pt)(acc:List V)(hD:H D=some (.lst acc))(o:bZ D H H')(h:PtV t H y z):PtV t H' y z:=by
 obtain⟨a,e,dx,d,h1,h2⟩:=h;exact⟨a,e,dx,d,o _ _ (cX h1 hD (by intro z;cases z)) h1,o _ _ (cX h2 hD (by intro z;cases z)) h2⟩
def kj(t:Adr)(p:JM.Pt->Bool):Sp:=fun vs H Q _=>∃(a:Addr) (ps:List JM.Pt),vs=[.ref a]/\dU H a (dc t) ps/\(∀x∈ps,JM.eB x)/\ps.length<=64/\∀(H':Hp) (q:Addr),aq H H'->H q=none->dU H' q (dc t) (ps.filter p)->Q (.ref q) H'
theorem Dt{i:Nat}(hi:i<10):decide (V.str (gm i)=V.str "where")=(decide (i=0) || decide (i=1)):=kz "where" (fun i=>decide (i=0) || decide (i=1)) (by decide +kernel) hi
theorem Hx:au ["parts", "part"] ["parts"] (ae sWs):=⟨rfl,rfl,rfl,by decide +kernel,rfl,by decide +kernel,by decide +kernel⟩
theorem IH:gv ["parts", "part"] (ae sWs) (iE [(".0",.local),("part",.local)]) [("part",1)]=true:=by decide +kernel
theorem Ib(F:Fun K "wheres_of" "wheres_of" sWs f fd)(T:Txt K w mg t):aT P w K mg base CX0 1 f fd ["parts"] (kj t JM.isW):=by
 refine F.ok Hx (fun vs H Q E h=>?_) (fun cdv A outer s H vs Q E hr h=>?_)
 ·obtain⟨a,ps,rfl,_⟩:=h;rfl
 ·obtain⟨a,ps,rfl,⟨as,h1,h2,h3⟩,ok,len,k⟩:=h;refine⟨_,a8 (ai (fG (own:=[("part",1)]) (tt:=dM (tOp rEq (lO K (cb 1) "word") (tC (.str "where")))) rfl Hx.nd (bu (pv 0)) (bD IH) (fun s H C cl fp=>aH (i:=1) Hx.nd rfl (Or.inl rfl))
   (fun s H C cl fp=>j4 (aB bY (aI (pv 1) rfl) aA (aJ _))) (fun s H C cl fp=>pv 1))),?_⟩
  refine⟨_,rfl,a,rfl,⟨_,SqL.of h1⟩,fun D hD=>?_⟩
  refine dH (p:=JM.isW) (f:=id) (S:=PtV t) (by rw[List.length_map];exact h2) (by omega) hD (SqL.of h1) jQ ?_ (fun H' s e=>k H' D s hD (by have e:=lX e;rw[List.map_id] at e;exact e))
  intro i v x H' hv hx s Fin Nx kY kN;obtain⟨c,hc,rfl⟩:=d9 hv;obtain⟨dx,d,g1,g2⟩:=(h3 i c x hc hx).same s;have okx:=ok x (List.mem_of_getElem? hx);refine⟨rfl,_,rfl,c,t.cP,dx,_,_,rfl,g1,T.clP,T.nPw,f6 _ _,rfl,_,rfl,?_⟩;rw[Dt okx.1];show if JM.isW x=true then _ else _
  cases e:JM.isW x with
  |true=>exact bh ⟨_,rfl,kY e H' _ (aq.refl _) ⟨c,rfl,dx,d,g1,g2⟩⟩
  |false=>exact aZ (kN e H' (aq.refl _))
theorem G1:au ["parts", "part"] ["parts"] (ae sKs):=⟨rfl,rfl,rfl,by decide +kernel,rfl,by decide +kernel,by decide +kernel⟩
theorem Ij:gv ["parts", "part"] (ae sKs) (iE [(".0",.local),("part",.local)]) [("part",1)]=true:=by decide +kernel
theorem HS(F:Fun K "keys_of" "keys_of" sKs f fd)(T:Txt K w mg t):aT P w K mg base CX0 1 f fd ["parts"] (kj t JM.isK):=by
 refine F.ok G1 (fun vs H Q E h=>?_) (fun cdv A outer s H vs Q E hr h=>?_)
 ·obtain⟨a,ps,rfl,_⟩:=h;rfl
 ·obtain⟨a,ps,rfl,⟨as,h1,h2,h3⟩,ok,len,k⟩:=h;refine⟨_,a8 (ai (fG (own:=[("part",1)]) (tt:=dM (tOp rEq (lO K (cb 1) "word") (tC (.str "key")))) rfl G1.nd (bu (pv 0)) (bD Ij) (fun s H C cl fp=>aH (i:=1) G1.nd rfl (Or.inl rfl))
   (fun s H C cl fp=>j4 (aB bY (aI (pv 1) rfl) aA (aJ _))) (fun s H C cl fp=>pv 1))),?_⟩
  refine⟨_,rfl,a,rfl,⟨_,SqL.of h1⟩,fun D hD=>?_⟩
  refine dH (p:=JM.isK) (f:=id) (S:=PtV t) (by rw[List.length_map];exact h2) (by omega) hD (SqL.of h1) jQ ?_ (fun H' s e=>k H' D s hD (by have e:=lX e;rw[List.map_id] at e;exact e))
  intro i v x H' hv hx s Fin Nx kY kN;obtain⟨c,hc,rfl⟩:=d9 hv;obtain⟨dx,d,g1,g2⟩:=(h3 i c x hc hx).same s;have okx:=ok x (List.mem_of_getElem? hx);refine⟨rfl,_,rfl,c,t.cP,dx,_,_,rfl,g1,T.clP,T.nPw,f6 _ _,rfl,_,rfl,?_⟩;rw[zr okx.1];show if JM.isK x=true then _ else _
  cases e:JM.isK x with
  |true=>exact bh ⟨_,rfl,kY e H' _ (aq.refl _) ⟨c,rfl,dx,d,g1,g2⟩⟩
  |false=>exact aZ (kN e H' (aq.refl _))
end
structure cF where
 cS:Addr
 cU:Addr
 cL:Addr
 aL:Addr
 aG:Addr
 cM:Addr
 cO:Addr
noncomputable def mr:List (Int×V):=[(4,.int 0),(8,.int 1),(16,.int 2),(32,.int 3),(64,.int 4),(128,.int 5),(256,.int 6),(512,.int 7),(1024,.int 8),(2048,.int 9)]
noncomputable def nV:List (Str×V):=[("none",.int 0),("all",.int 1),("first",.int 2)]
structure Tx2(K:PySem.W.Frag)(w:World)(mg:Str->Option Value)(u:cF):Prop where
 kCodes:∃u,mg "CODES" = some (.int 64 u)
 kByte:∃u,mg "MOST_BYTE" = some (.int 255 u)
 kNoS:∃u,mg "NO_SIGNS" = some (.int (-2) u)
 kBox:∃u,mg "FIRST_BOX" = some (.int 16 u)
 kRows:∃u,mg "ROWS" = some (.int 12 u)
 kAllR:∃u,mg "ALL_ROWS" = some (.int 4095 u)
 kCtl:∃u,mg "CONTROL_NUMBERS" = some (.int 6 u)
 kNoP:∃u,mg "NO_PUNCH" = some (.int 0 u)
 kCard:∃u,mg "CARD_LINE" = some (.int 0 u)
 kLast:∃u,mg "LAST_LEVEL" = some (.int 4 u)
 kAdd0:∃u,mg "ADD_AMOUNT" = some (.int 0 u)
 kAdd1:∃u,mg "ADD_ONE" = some (.int 2 u)
 kShF:∃u,mg "SHOW_FIELD" = some (.int 0 u)
 kShC:∃u,mg "SHOW_COUNTER" = some (.int 1 u)
 gL:mg "LISTINGS" = some (.ref u.aL)
 dL:gz K w u.aL nV
 clS:Cls K u.cS
 nSs:aE K u.cS "strange"
 nSh:aE K u.cS "by_holes"
 clU:Cls K u.cU
 nUh:aE K u.cU "head"
 nUs:aE K u.cU "signs"
 nUc:aE K u.cU "counters"
 nUt:aE K u.cU "things"
 clL:Cls K u.cL
 nLp:aE K u.cL "passes"
 nLn:aE K u.cL "panel"
 nLs:aE K u.cL "setup"
 nLj:aE K u.cL "job"
 kMinus:∃u,mg "MINUS_ROW" = some (.int 1 u)
 kLimit:∃u,mg "SUM_LIMIT" = some (.int 10000000000000000 u)
 kPl:∃u,mg "PLACES" = some (.int 132 u)
 kBlank:∃u,mg "BLANK" = some (.int 32 u)
 kCtlL:∃u,mg "CONTROL_LEVELS" = some (.int 3 u)
 kLiAt:∃u,mg "LIST_AT" = some (.int 6 u)
 kLiA:∃u,mg "LIST_ALL" = some (.int 1 u)
 kLiF:∃u,mg "LIST_FIRST" = some (.int 2 u)
 kPaper:∃u,mg "MOST_PAPER" = some (.int 256 u)
 kPock:∃u,mg "POCKETS" = some (.int 13 u)
 kFine:∃u,mg "NOTHING_WRONG" = some (.int 0 u)
 kW7:∃u,mg "WRONG_CARD" = some (.int 7 u)
 kW9:∃u,mg "TOO_MUCH_PAPER" = some (.int 9 u)
 gG:mg "FIGURES" = some (.ref u.aG)
 dG:jA K u.aG mr
 clM:Cls K u.cM
 nMs:aE K u.cM "setup"
 nMc:aE K u.cM "counts"
 nMl:aE K u.cM "last_card"
 nMi:aE K u.cM "lines"
 clO:Cls K u.cO
 nOt:aE K u.cO "trays"
 nOp:aE K u.cO "panels"
 nOs:aE K u.cO "setups"
 nOr:aE K u.cO "paper"
 zAbs:mg "abs" = none
 zZip:mg "zip" = none
 zSet:mg "set" = none
 zAll:mg "all" = none
 zRange:mg "range" = none
 zRev:mg "reversed" = none
 zList:mg "list" = none
 zStr:mg "str" = none
abbrev uq:Stmt:=cD (top 60) 1
abbrev wu:Stmt:=top 17
abbrev DE:Stmt:=top 18
abbrev zI:Stmt:=top 64
abbrev CB:Stmt:=top 65
abbrev Cm:Stmt:=top 66
abbrev mD:Stmt:=cD (top 107) 0
abbrev xT:Stmt:=cD (top 107) 1
abbrev Dq:Stmt:=cD (top 107) 2
abbrev zq:Stmt:=cD (top 107) 3
abbrev Dl:Stmt:=cD (top 107) 4
abbrev CF:Stmt:=cD (top 107) 5
abbrev Ec:Stmt:=cD (top 107) 6
abbrev E8:Stmt:=top 108
abbrev wj:Stmt:=top 110
abbrev xk:Stmt:=top 111
abbrev Dx:Stmt:=top 112
abbrev qk:Stmt:=cD (top 119) 0
abbrev xb:Stmt:=cD (top 119) 1
abbrev C2:Stmt:=cD (top 119) 2
abbrev Cn:Stmt:=cD (top 119) 3
abbrev wq:Stmt:=top 120
abbrev yG:Stmt:=top 121
abbrev B8:Stmt:=top 122
abbrev BV:Stmt:=top 123
abbrev Df:Stmt:=top 124
abbrev DJ:Stmt:=top 125
abbrev Dy:Stmt:=top 127
abbrev we:Stmt:=top 14
abbrev xf:Stmt:=top 15
abbrev wz:Stmt:=top 16
abbrev rD:Stmt:=cD (top 60) 0
abbrev wY:Stmt:=top 61
abbrev zN:Stmt:=top 62
abbrev qi:Stmt:=top 63
abbrev sTs:Stmt:=top 70
abbrev sSs:Stmt:=top 71
abbrev Cd:Stmt:=top 72
abbrev xC:Stmt:=top 74
abbrev qU:Stmt:=cD (top 88) 0
abbrev r9:Stmt:=cD (top 89) 0
abbrev qj:Stmt:=top 90
abbrev qF:Stmt:=top 91
abbrev j7:Stmt:=top 92
abbrev Eg:Stmt:=top 93
abbrev xo:Stmt:=top 94
abbrev md:Stmt:=top 95
abbrev kb:Stmt:=top 96
abbrev gQ:Stmt:=top 97
abbrev qX:Stmt:=top 98
abbrev xJ:Stmt:=top 99
abbrev j2:Stmt:=top 100
abbrev wk:Stmt:=top 101
section
variable{P:Program}{w:World}{K:PySem.W.Frag}{mg:Str->Option Value}{base:Heap}{t:Adr}{u:cF}{f:Addr}{fd:FuncData}
def kE:Sp:=fun vs H Q _=>∃r:Nat,vs=[.int (r:Int)]/\r<=11/\Q (.int ((2 ^ r:Nat):Int)) H
theorem G6:au ["row"] ["row"] (ae we):=⟨rfl,rfl,rfl,by decide +kernel,rfl,by decide +kernel,by decide +kernel⟩
theorem D6(F:Fun K "row_holes" "row_holes" we f fd):aT P w K mg base CX0 1 f fd ["row"] kE:=by
 refine F.ok G6 (fun vs H Q E h=>?_) (fun cdv A outer s H vs Q E hr h=>?_)
 ·obtain⟨r,rfl,_⟩:=h;rfl
 ·obtain⟨r,rfl,hl,k⟩:=h;refine⟨_,a8 (ai (aQ Gj ah (pv 0))),?_⟩;refine⟨_,rfl,_,_,rfl,rfl,⟨by omega,by omega,by decide⟩,?_⟩
  have e:(1:Int) * 2 ^ ((r:Int)).toNat=((2 ^ r:Nat):Int):=by
   rw[Int.one_mul,Int.toNat_natCast,Int.natCast_pow];rfl
  rw[<-e] at k;exact k
def Bg:Sp:=fun vs H Q _=>∃d:Nat,vs=[.int (d:Int)]/\d<=9/\Q (.int ((2 ^ (d+2):Nat):Int)) H
theorem GK:au ["figure"] ["figure"] (ae xf):=⟨rfl,rfl,rfl,by decide +kernel,rfl,by decide +kernel,by decide +kernel⟩
theorem CW(F:Fun K "figure_holes" "figure_holes" xf f fd)(cRowH:Cal P w K mg base "row_holes" 1 ["row"] kE):aT P w K mg base CX0 2 f fd ["figure"] Bg:=by
 refine F.ok GK (fun vs H Q E h=>?_) (fun cdv A outer s H vs Q E hr h=>?_)
 ·obtain⟨r,rfl,_⟩:=h;rfl
 ·obtain⟨d,rfl,hl,k⟩:=h;refine⟨_,a8 (ai (az cRowH hr (by decide) rfl (a0 (aQ c8 (pv 0) ah) a5))),?_⟩
  exact⟨_,rfl,_,_,rfl,rfl,d+2,rfl,by omega,k⟩
noncomputable def cdP(n:Nat):Int:=if 9<n % 16 then Builtin.bitOr (Builtin.bitOr (if 0<n / 16 then((2 ^ (n / 16-1):Nat):Int) else 0) ((2 ^ 10:Nat):Int)) ((2 ^ (n % 16-8+2):Nat):Int)
 else if 0<n % 16 then Builtin.bitOr (if 0<n / 16 then((2 ^ (n / 16-1):Nat):Int) else 0) ((2 ^ (n % 16+2):Nat):Int) else(if 0<n / 16 then((2 ^ (n / 16-1):Nat):Int) else 0)
theorem Ho:∀n,n<64->cdP n=((Pu.code n:Nat):Int):=by decide +kernel
def vV:Sp:=fun vs H Q _=>∃n:Nat,vs=[.int (n:Int)]/\n<64/\Q (.int ((Pu.code n:Nat):Int)) H
theorem oe:au ["number", "zone", "value", "holes"] ["number"] (ae wz):=⟨rfl,rfl,rfl,by decide +kernel,rfl,by decide +kernel,by decide +kernel⟩
theorem Dk(F:Fun K "code_holes" "code_holes" wz f fd)(cRowH:Cal P w K mg base "row_holes" 1 ["row"] kE)(cFigH:Cal P w K mg base "figure_holes" 2 ["figure"] Bg):aT P w K mg base CX0 3 f fd ["number"] vV:=by
 refine F.ok oe (fun vs H Q E h=>?_) (fun cdv A outer s H vs Q E hr h=>?_)
 ·obtain⟨r,rfl,_⟩:=h;rfl
 ·obtain⟨n,rfl,hl,k⟩:=h;rw[<-Ho n hl] at k;refine⟨_,a4 (ax (i:=1) oe.nd rfl (Or.inl rfl) (aQ CV (pv 0) ah))
   (a4 (ax (i:=2) oe.nd rfl (Or.inl rfl) (aQ G0 (pv 0) ah))
   (a4 (ax (i:=3) oe.nd rfl (Or.inl rfl) ah)
   (a4 (aP (aB iU (pv 1) ah (aJ _)) (a8 (ax (i:=3) oe.nd rfl (Or.inl rfl) (az cRowH hr (by decide) rfl (a0 (aQ fi (pv 1) ah) a5)))) aD)
   (a4 (aP (aB iU (pv 2) ah (aJ _)) (a8 (ai (aQ zE (aQ zE (pv 3) (az cFigH hr (by decide) rfl (a0 ah a5))) (az cFigH hr (by decide) rfl (a0 (aQ fi (pv 2) ah) a5))))) aD)
   (a4 (aP (aB iU (pv 2) ah (aJ _)) (a8 (ai (aQ zE (pv 3) (az cFigH hr (by decide) rfl (a0 (pv 2) a5))))) aD)
   (a8 (ai (pv 3)))))))),?_⟩
  have ez:(n:Int) / 16=((n / 16:Nat):Int):=by omega
  have ev:(n:Int) % 16=((n % 16:Nat):Int):=by omega
  unfold cdP at k;have v16:n % 16<16:=Nat.mod_lt _ (by decide)
  refine⟨_,rfl,_,_,rfl,rfl,⟨by decide,by decide⟩,_,rfl,_,_,rfl,rfl,(by show(0:Int)<16;decide),?_⟩
  dsimp only;rw[ez,ev];refine⟨_,rfl,_,_,rfl,rfl,_,rfl,dF (fun e=>?_) (fun e=>?_)⟩
  ·have e:0<n / 16:=by
    have:=of_decide_eq_true e;omega
   rw[if_pos e] at k;refine⟨_,rfl,_,_,rfl,rfl,n / 16-1,?_,by omega,?_⟩
   ·show[V.int (((n / 16:Nat):Int)-1)]=_;rw[show((n / 16:Nat):Int)-1=((n / 16-1:Nat):Int) by omega]
   refine⟨_,rfl,_,_,rfl,rfl,_,rfl,dF (fun e2=>?_) (fun e2=>?_)⟩
   ·have e2:9<n % 16:=by
     have:=of_decide_eq_true e2;omega
    rw[if_pos e2] at k;refine⟨_,rfl,8,rfl,by decide,_,_,rfl,rfl,_,rfl,_,_,rfl,rfl,n % 16-8,?_,by omega,_,_,rfl,rfl,k⟩
    show[V.int (((n % 16:Nat):Int)-8)]=_;rw[show((n % 16:Nat):Int)-8=((n % 16-8:Nat):Int) by omega]
   ·have e2:¬9<n % 16:=fun z=>e2 (decide_eq_true (by omega))
    rw[if_neg e2] at k;refine⟨_,rfl,_,_,rfl,rfl,_,rfl,dF (fun e3=>?_) (fun e3=>?_)⟩
    ·have e3:0<n % 16:=by
      have:=of_decide_eq_true e3;omega
     rw[if_pos e3] at k;exact⟨_,rfl,_,rfl,n % 16,rfl,by omega,_,_,rfl,rfl,k⟩
    ·have e3:¬0<n % 16:=fun z=>e3 (decide_eq_true (by omega))
     rw[if_neg e3] at k;exact⟨_,rfl,k⟩
  ·have e:¬0<n / 16:=fun z=>e (decide_eq_true (by omega))
   rw[if_neg e] at k;refine⟨_,rfl,_,_,rfl,rfl,_,rfl,dF (fun e2=>?_) (fun e2=>?_)⟩
   ·have e2:9<n % 16:=by
     have:=of_decide_eq_true e2;omega
    rw[if_pos e2] at k;refine⟨_,rfl,8,rfl,by decide,_,_,rfl,rfl,_,rfl,_,_,rfl,rfl,n % 16-8,?_,by omega,_,_,rfl,rfl,k⟩
    show[V.int (((n % 16:Nat):Int)-8)]=_;rw[show((n % 16:Nat):Int)-8=((n % 16-8:Nat):Int) by omega]
   ·have e2:¬9<n % 16:=fun z=>e2 (decide_eq_true (by omega))
    rw[if_neg e2] at k;refine⟨_,rfl,_,_,rfl,rfl,_,rfl,dF (fun e3=>?_) (fun e3=>?_)⟩
    ·have e3:0<n % 16:=by
      have:=of_decide_eq_true e3;omega
     rw[if_pos e3] at k;exact⟨_,rfl,_,rfl,n % 16,rfl,by omega,_,_,rfl,rfl,k⟩
    ·have e3:¬0<n % 16:=fun z=>e3 (decide_eq_true (by omega))
     rw[if_neg e3] at k;exact⟨_,rfl,k⟩
theorem Gu:au ["parts", "part"] ["parts"] (ae sSs):=⟨rfl,rfl,rfl,by decide +kernel,rfl,by decide +kernel,by decide +kernel⟩
theorem HH:gv ["parts", "part"] (ae sSs) (iE [(".0",.local),("part",.local)]) [("part",1)]=true:=by decide +kernel
theorem HY(F:Fun K "seens_of" "seens_of" sSs f fd)(T:Txt K w mg t):aT P w K mg base CX0 1 f fd ["parts"] (kj t JM.isS):=by
 refine F.ok Gu (fun vs H Q E h=>?_) (fun cdv A outer s H vs Q E hr h=>?_)
 ·obtain⟨a,ps,rfl,_⟩:=h;rfl
 ·obtain⟨a,ps,rfl,⟨as,h1,h2,h3⟩,ok,len,k⟩:=h;refine⟨_,a8 (ai (fG (own:=[("part",1)]) (tt:=dM (tOp rEq (lO K (cb 1) "word") (tC (.str "see")))) rfl Gu.nd (bu (pv 0)) (bD HH) (fun s H C cl fp=>aH (i:=1) Gu.nd rfl (Or.inl rfl))
   (fun s H C cl fp=>j4 (aB bY (aI (pv 1) rfl) aA (aJ _))) (fun s H C cl fp=>pv 1))),?_⟩
  refine⟨_,rfl,a,rfl,⟨_,SqL.of h1⟩,fun D hD=>?_⟩
  refine dH (p:=JM.isS) (f:=id) (S:=PtV t) (by rw[List.length_map];exact h2) (by omega) hD (SqL.of h1) jQ ?_ (fun H' s e=>k H' D s hD (by have e:=lX e;rw[List.map_id] at e;exact e))
  intro i v x H' hv hx s Fin Nx kY kN;obtain⟨c,hc,rfl⟩:=d9 hv;obtain⟨dx,d,g1,g2⟩:=(h3 i c x hc hx).same s;have okx:=ok x (List.mem_of_getElem? hx);refine⟨rfl,_,rfl,c,t.cP,dx,_,_,rfl,g1,T.clP,T.nPw,f6 _ _,rfl,_,rfl,?_⟩;rw[Fg okx.1];show if JM.isS x=true then _ else _
  cases e:JM.isS x with
  |true=>exact bh ⟨_,rfl,kY e H' _ (aq.refl _) ⟨c,rfl,dx,d,g1,g2⟩⟩
  |false=>exact aZ (kN e H' (aq.refl _))
theorem Fp:au ["parts", "part"] ["parts"] (ae sTs):=⟨rfl,rfl,rfl,by decide +kernel,rfl,by decide +kernel,by decide +kernel⟩
theorem HP:gv ["parts", "part"] (ae sTs) (iE [(".0",.local),("part",.local)]) [("part",1)]=true:=by decide +kernel
theorem IG(F:Fun K "totals_of" "totals_of" sTs f fd)(T:Txt K w mg t):aT P w K mg base CX0 1 f fd ["parts"] (kj t JM.isT):=by
 refine F.ok Fp (fun vs H Q E h=>?_) (fun cdv A outer s H vs Q E hr h=>?_)
 ·obtain⟨a,ps,rfl,_⟩:=h;rfl
 ·obtain⟨a,ps,rfl,⟨as,h1,h2,h3⟩,ok,len,k⟩:=h;refine⟨_,a8 (ai (fG (own:=[("part",1)]) (tt:=tOr (dM (tOp rEq (lO K (cb 1) "word") (tC (.str "sum")))) (dM (tOp rEq (lO K (cb 1) "word") (tC (.str "count"))))) rfl Fp.nd (bu (pv 0)) (bD HP) (fun s H C cl fp=>aH (i:=1) Fp.nd rfl (Or.inl rfl))
   (fun s H C cl fp=>j4 (PW.pt (iP (aB bY (aI (pv 1) rfl) aA (aJ _)) (fW (aB bY (aI (pv 1) rfl) aA (aJ _)))))) (fun s H C cl fp=>pv 1))),?_⟩
  refine⟨_,rfl,a,rfl,⟨_,SqL.of h1⟩,fun D hD=>?_⟩
  refine dH (p:=JM.isT) (f:=id) (S:=PtV t) (by rw[List.length_map];exact h2) (by omega) hD (SqL.of h1) jQ ?_ (fun H' s e=>k H' D s hD (by have e:=lX e;rw[List.map_id] at e;exact e))
  intro i v x H' hv hx s Fin Nx kY kN;obtain⟨c,hc,rfl⟩:=d9 hv;obtain⟨dx,d,g1,g2⟩:=(h3 i c x hc hx).same s;have okx:=ok x (List.mem_of_getElem? hx);have e:JM.isT x=(decide (x.1=4) || decide (x.1=5)):=rfl;refine⟨rfl,_,rfl,c,t.cP,dx,_,_,rfl,g1,T.clP,T.nPw,f6 _ _,rfl,_,rfl,?_⟩;rw[l9 okx.1];by_cases e4:x.1=4
  ·rw[decide_eq_true e4] at e ⊢;exact bh (bh ⟨_,rfl,kY e H' _ (aq.refl _) ⟨c,rfl,dx,d,g1,g2⟩⟩)
  ·rw[decide_eq_false e4] at e ⊢;refine aZ ⟨_,rfl,c,t.cP,dx,_,_,rfl,g1,T.clP,T.nPw,f6 _ _,rfl,_,rfl,?_⟩;rw[gh okx.1];rw[Bool.false_or] at e;rw[<-e];cases e:JM.isT x with
   |true=>exact bh ⟨_,rfl,kY e H' _ (aq.refl _) ⟨c,rfl,dx,d,g1,g2⟩⟩
   |false=>exact aZ (kN e H' (aq.refl _))
def EW(t:Adr):Sp:=fun vs H Q _=>∃(a:Addr) (ini:List JM.Pt) (x:JM.Pt),vs=[.ref a]/\dU H a (dc t) (ini++[x])/\Q (.str (oH x.1)) H
theorem Ip:au ["parts"] ["parts"] (ae Cd):=⟨rfl,rfl,rfl,by decide +kernel,rfl,by decide +kernel,by decide +kernel⟩
theorem GD(F:Fun K "listing_of" "listing_of" Cd f fd)(T:Txt K w mg t):aT P w K mg base CX0 1 f fd ["parts"] (EW t):=by
 refine F.ok Ip (fun vs H Q E h=>?_) (fun cdv A outer s H vs Q E hr h=>?_)
 ·obtain⟨a,ini,x,rfl,_⟩:=h;rfl
 ·obtain⟨a,ini,x,rfl,⟨as,h1,h2,h3⟩,k⟩:=h;refine⟨_,a8 (ai (aI (bp bK (pv 0) (i7 fk ah) (fun _ _=>rfl)) rfl)),?_⟩
  rw[List.length_append,List.length_singleton] at h2;obtain⟨c,hc⟩:∃c,as[ini.length]?=some c:=⟨_,List.getElem?_eq_getElem (by omega)⟩
  obtain⟨dx,d,g1,g2⟩:=h3 ini.length c x hc (by simp)
  refine⟨_,rfl,_,rfl,a,_,_,_,rfl,rfl,SqL.of h1,qr (x:=V.ref c) ?_,c,t.cP,dx,_,_,rfl,g1,T.clP,T.nPe,nu x.1 d,k⟩;rw[List.getLast?_map,List.getLast?_eq_getElem?,show as.length-1=ini.length by omega,hc]
  rfl
structure Cy(H:Hp)(d:Addr)(x:JM.Pt):Prop where
 c:x.1<5\/x.1=6->dD H d "C" (JM.n0 x)
 r:x.1<2->dD H d "R" (JM.n1 x)
 n:x.1=2\/x.1=3\/x.1=4\/x.1=6->dD H d "N" (JM.n1 x)
 p:x.1=2\/x.1=3\/x.1=4\/x.1=6->dD H d "P" (JM.n2 x)
 p5:x.1=5->dD H d "P" (JM.n0 x)
 w5:x.1=5->dD H d "W" (JM.n1 x)
 w4:x.1=4->dD H d "W" (JM.n3 x)
theorem j1{H:Hp}{d:Addr}{x:JM.Pt}(ok:JM.eB x)(h:H d=some (.dK (mm (JM.cE (JM.jg x.1)) x.2))):Cy H d x:=by
 obtain⟨i,vs⟩:=x;obtain⟨hi,ok⟩:=ok;dsimp only at h hi ok
 match i,hi with
 |0,hi=>
  rw[dh 0 hi] at h;obtain⟨c,r,rfl,_⟩:=ok;exact⟨fun _=>bo h rfl,fun _=>bo h rfl,fun z=>by simp at z,fun z=>by simp at z,fun z=>by simp at z,fun z=>by simp at z,fun z=>by simp at z⟩
 |1,hi=>
  rw[dh 1 hi] at h;obtain⟨c,r,rfl,_⟩:=ok;exact⟨fun _=>bo h rfl,fun _=>bo h rfl,fun z=>by simp at z,fun z=>by simp at z,fun z=>by simp at z,fun z=>by simp at z,fun z=>by simp at z⟩
 |2,hi=>
  rw[dh 2 hi] at h;obtain⟨c,n,p,rfl,_⟩:=ok;exact⟨fun _=>bo h rfl,fun z=>by simp at z,fun z=>bo h rfl,fun z=>bo h rfl,fun z=>by simp at z,fun z=>by simp at z,fun z=>by simp at z⟩
 |3,hi=>
  rw[dh 3 hi] at h;obtain⟨c,n,p,rfl,_⟩:=ok;exact⟨fun _=>bo h rfl,fun z=>by simp at z,fun z=>bo h rfl,fun z=>bo h rfl,fun z=>by simp at z,fun z=>by simp at z,fun z=>by simp at z⟩
 |4,hi=>
  rw[dh 4 hi] at h;obtain⟨c,n,p,ww,rfl,_⟩:=ok;exact⟨fun _=>bo h rfl,fun z=>by simp at z,fun z=>bo h rfl,fun z=>bo h rfl,fun z=>by simp at z,fun z=>by simp at z,fun z=>bo h rfl⟩
 |5,hi=>
  rw[dh 5 hi] at h;obtain⟨p,ww,rfl,_⟩:=ok;exact⟨fun z=>by simp at z,fun z=>by simp at z,fun z=>by simp at z,fun z=>by simp at z,fun _=>bo h rfl,fun z=>bo h rfl,fun z=>by simp at z⟩
 |6,hi=>
  rw[dh 6 hi] at h;obtain⟨c,n,p,rfl,_⟩:=ok;exact⟨fun _=>bo h rfl,fun z=>by simp at z,fun z=>bo h rfl,fun z=>bo h rfl,fun z=>by simp at z,fun z=>by simp at z,fun z=>by simp at z⟩
 |7,hi=>exact⟨fun z=>by simp at z,fun z=>by simp at z,fun z=>by simp at z,fun z=>by simp at z,fun z=>by simp at z,fun z=>by simp at z,fun z=>by simp at z⟩
 |8,hi=>exact⟨fun z=>by simp at z,fun z=>by simp at z,fun z=>by simp at z,fun z=>by simp at z,fun z=>by simp at z,fun z=>by simp at z,fun z=>by simp at z⟩
 |9,hi=>exact⟨fun z=>by simp at z,fun z=>by simp at z,fun z=>by simp at z,fun z=>by simp at z,fun z=>by simp at z,fun z=>by simp at z,fun z=>by simp at z⟩
 |i+10,hi=>omega
def xr(u:cF):Sp:=fun vs H Q _=>∃(p dx:Addr) (a b c d:V),vs=[.ref p,a,b,c,d]/\H p=some (.ins u.cU dx [])/\∀H':Hp,H' p=some (.ins u.cU dx [("head",a),("signs",b),("counters",c),("things",d)])->(∀b o,H b=some o->b≠p->H' b=some o)->Q .non H'
theorem Eb:au ["self", "head", "signs", "counters", "things"] ["self", "head", "signs", "counters", "things"] (ae qU):=⟨rfl,rfl,rfl,by decide +kernel,rfl,by decide +kernel,by decide +kernel⟩
theorem zB(F:Fun K "__init__" "Setup.__init__" qU f fd)(T:Tx2 K w mg u):aT P w K mg base CX0 1 f fd ["self", "head", "signs", "counters", "things"] (xr u):=by
 refine F.ok Eb (fun vs H Q E h=>?_) (fun cdv A outer s H vs Q E hr h=>?_)
 ·obtain⟨p,dx,a,b,c,d,rfl,_⟩:=h;rfl
 ·obtain⟨p,dx,a,b,c,d,rfl,hp,k⟩:=h;refine⟨_,a4 (c7 (pv 0) (pv 1) rfl) (a4 (c7 (pv 0) (pv 2) rfl) (a4 (c7 (pv 0) (pv 3) rfl) (a8 (c7 (pv 0) (pv 4) rfl)))),?_⟩;refine⟨_,rfl,_,rfl,p,u.cU,dx,[],rfl,hp,T.clU,T.nUh,(by show 0<1000;decide),?_⟩
  refine⟨_,rfl,_,rfl,p,u.cU,dx,_,rfl,a7,T.clU,T.nUs,(by show 1<1000;decide),?_⟩
  refine⟨_,rfl,_,rfl,p,u.cU,dx,_,rfl,a7,T.clU,T.nUc,(by show 2<1000;decide),?_⟩
  refine⟨_,rfl,_,rfl,p,u.cU,dx,_,rfl,a7,T.clU,T.nUt,(by show 3<1000;decide),?_⟩
  exact k _ a7 fun b o e hb=>by rw[af hb,af hb,af hb,af hb];exact e
def xF(u:cF):Sp:=fun vs H Q _=>∃(p dx:Addr) (a b c d:V),vs=[.ref p,a,b,c,d]/\H p=some (.ins u.cL dx [])/\∀H':Hp,H' p=some (.ins u.cL dx [("passes",a),("panel",b),("setup",c),("job",d)])->(∀b o,H b=some o->b≠p->H' b=some o)->Q .non H'
theorem Ew:au ["self", "passes", "panel", "setup", "job"] ["self", "passes", "panel", "setup", "job"] (ae r9):=⟨rfl,rfl,rfl,by decide +kernel,rfl,by decide +kernel,by decide +kernel⟩
theorem zy(F:Fun K "__init__" "Plan.__init__" r9 f fd)(T:Tx2 K w mg u):aT P w K mg base CX0 1 f fd ["self", "passes", "panel", "setup", "job"] (xF u):=by
 refine F.ok Ew (fun vs H Q E h=>?_) (fun cdv A outer s H vs Q E hr h=>?_)
 ·obtain⟨p,dx,a,b,c,d,rfl,_⟩:=h;rfl
 ·obtain⟨p,dx,a,b,c,d,rfl,hp,k⟩:=h;refine⟨_,a4 (c7 (pv 0) (pv 1) rfl) (a4 (c7 (pv 0) (pv 2) rfl) (a4 (c7 (pv 0) (pv 3) rfl) (a8 (c7 (pv 0) (pv 4) rfl)))),?_⟩;refine⟨_,rfl,_,rfl,p,u.cL,dx,[],rfl,hp,T.clL,T.nLp,(by show 0<1000;decide),?_⟩
  refine⟨_,rfl,_,rfl,p,u.cL,dx,_,rfl,a7,T.clL,T.nLn,(by show 1<1000;decide),?_⟩
  refine⟨_,rfl,_,rfl,p,u.cL,dx,_,rfl,a7,T.clL,T.nLs,(by show 2<1000;decide),?_⟩
  refine⟨_,rfl,_,rfl,p,u.cL,dx,_,rfl,a7,T.clL,T.nLj,(by show 3<1000;decide),?_⟩
  exact k _ a7 fun b o e hb=>by rw[af hb,af hb,af hb,af hb];exact e
noncomputable def vR(b:Bs):Str:=⟨(b.map UInt8.toNat).toArray⟩
def wv:JM.Wd->V
 |.t s=>.str (vR s)
 |.n k=>.int (k:Int)
def jX(H:Hp)(v:V)(l:List JM.Wd):Prop:=∃a,v=.ref a/\H a=some (.tup (l.map wv))
def gN(H:Hp)(v:V)(l:List Nat):Prop:=∃a,v=.ref a/\H a=some (.tup (l.map fun(n:Nat)=>V.int (n:Int)))
def WrV(H:Hp)(v:V)(s:JM.Wr):Prop:=∃a p q,v=.ref a/\H a=some (.tup [.ref p,.ref q])/\H p=some (.tup (s.1.map wv))/\H q=some (.tup (s.2.map wv))
theorem ke{D:Addr}(H H':Hp)(y:V)(z:List JM.Wd)(acc:List V)(hD:H D=some (.lst acc))(o:bZ D H H')(h:jX H y z):jX H' y z:=by
 obtain⟨a,e,h1⟩:=h;exact⟨a,e,o _ _ (cX h1 hD (by intro z;cases z)) h1⟩
theorem gX{D:Addr}(H H':Hp)(y:V)(z:List Nat)(acc:List V)(hD:H D=some (.lst acc))(o:bZ D H H')(h:gN H y z):gN H' y z:=by
 obtain⟨a,e,h1⟩:=h;exact⟨a,e,o _ _ (cX h1 hD (by intro z;cases z)) h1⟩
theorem fA{D:Addr}(H H':Hp)(y:V)(z:JM.Wr)(acc:List V)(hD:H D=some (.lst acc))(o:bZ D H H')(h:WrV H y z):WrV H' y z:=by
 obtain⟨a,p,q,e,h1,h2,h3⟩:=h;exact⟨a,p,q,e,o _ _ (cX h1 hD (by intro z;cases z)) h1,o _ _ (cX h2 hD (by intro z;cases z)) h2,o _ _ (cX h3 hD (by intro z;cases z)) h3⟩
theorem m6{H H':Hp}{y:V}{z:JM.Wr}(s:aq H H')(h:WrV H y z):WrV H' y z:=by
 obtain⟨a,p,q,e,h1,h2,h3⟩:=h;exact⟨a,p,q,e,s _ _ h1,s _ _ h2,s _ _ h3⟩
theorem df{β:Type}{S:Hp->V->β->Prop}{D:Addr}{H H2:Hp}{ys:List β}{v:V}{y:β}(mono:∀H H' y z acc,H D=some (.lst acc)->bZ D H H'->S H y z->S H' y z)(h:bg H D S ys)(s:aq H H2)(hv:S H2 v y) :
  ∃vs,H2 D=some (.lst vs)/\vs.length=ys.length/\bg (upd H2 D (.lst (vs++[v]))) D S (ys++[y]):=by
 obtain⟨vs,e,pr⟩:=h;have e2:=s _ _ e;refine⟨vs,e2,b5 pr,vs++[v],a7,fN (Paired.mapP pr fun a b h=>?_) (mono _ _ _ _ _ e2 bZ.upd hv)⟩
 exact mono _ _ _ _ _ e2 bZ.upd (mono _ _ _ _ _ e (fun b o _ k=>s b o k) h)
theorem jB{α β:Type}{G:α->β->Prop}:∀{l l':List α}{m m':List β},Paired G l m->Paired G l' m'->Paired G (l++l') (m++m')
 |_,_,_,_,.nil,h=>h
 |_,_,_,_,.cons r t,h=>.cons r (jB t h)
theorem gU{β:Type}{S:Hp->V->β->Prop}{D E:Addr}{H H2:Hp}{ys zs:List β}(mono:∀H H' y z acc,H D=some (.lst acc)->bZ D H H'->S H y z->S H' y z)(h:bg H D S ys)(s:aq H H2)(hv:bg H2 E S zs) :
  ∃vs us,H2 D=some (.lst vs)/\H2 E=some (.lst us)/\vs.length=ys.length/\us.length=zs.length/\bg (upd H2 D (.lst (vs++us))) D S (ys++zs):=by
 obtain⟨vs,e,pr⟩:=h;obtain⟨us,e',pr'⟩:=hv;have e2:=s _ _ e;refine⟨vs,us,e2,e',b5 pr,b5 pr',vs++us,a7,jB (Paired.mapP pr fun a b h=>?_) (Paired.mapP pr' fun a b h=>mono _ _ _ _ _ e2 bZ.upd h)⟩
 exact mono _ _ _ _ _ e2 bZ.upd (mono _ _ _ _ _ e (fun b o _ k=>s b o k) h)
theorem Ag{tA tB:TA}{σ:L2.St}{H:Hp}{Q:VK}{x:JM.Wr}(hA:∀H' (Q:List V->Hp->Prop),aq H H'->Q (x.1.map wv) H'->tA σ H' Q)(hB:∀H' (Q:List V->Hp->Prop),aq H H'->Q (x.2.map wv) H'->tB σ H' Q)(l1:x.1.length<=10)(l2:x.2.length<=10)
  (k:∀H' v,aq H H'->WrV H' v x->Q v H'):uk (gC (uk tA) (gC (uk tB) jz)) σ H Q:=by
 refine hA H _ (aq.refl _) ⟨Nat.le_trans (by rw[List.length_map];exact l1) (by decide),fun p hp=>?_⟩
 have s1:=ag (o:=.tup (x.1.map wv)) hp;refine hB _ _ s1 ⟨Nat.le_trans (by rw[List.length_map];exact l2) (by decide),fun q hq=>?_⟩
 have s2:=ag (o:=.tup (x.2.map wv)) hq;refine⟨(by show 2<=sizeLine;decide),fun a ha=>?_⟩
 have s3:=ag (o:=.tup [.ref p,.ref q]) ha;exact k _ _ ((s1.trans s2).trans s3) ⟨a,p,q,rfl,a7,s3 _ _ (s2 _ _ a7),s3 _ _ a7⟩
theorem EI:(wv (JM.wx "read")=.str "read")/\(wv (JM.wx "look")=.str "look")/\(wv (JM.wx "hole")=.str "hole")/\(wv (JM.wx "by")=.str "by")/\(wv (JM.wx "send")=.str "send")/\(wv (JM.wx "plain")=.str "plain")/\(wv (JM.wx "chosen")=.str "chosen")/\(wv (JM.wx "other")=.str "other")/\(wv (JM.wx "to")=.str "to"):=by decide +kernel
theorem vG:(wv (JM.wx "pass")=.str "pass")/\(wv (JM.wx "C")=.str "C")/\(wv (JM.wx ">")=.str ">")/\(wv (JM.wx "choose")=.str "choose")/\(wv (JM.wx "A")=.str "A")/\(wv (JM.wx "B")=.str "B")/\(wv (JM.wx "account")=.str "account")/\(wv (JM.wx "D")=.str "D"):=by decide +kernel
theorem gi{tA tB:TA}{σ:L2.St}{H:Hp}{Q:VK}{x:JM.Wr}{s1 s2:List V}(e1:x.1.map wv=s1)(e2:x.2.map wv=s2)(hA:∀H' (Q:List V->Hp->Prop),aq H H'->Q s1 H'->tA σ H' Q)(hB:∀H' (Q:List V->Hp->Prop),aq H H'->Q s2 H'->tB σ H' Q)(l1:x.1.length<=10)(l2:x.2.length<=10)
  (k:∀H' v,aq H H'->WrV H' v x->Q v H'):uk (gC (uk tA) (gC (uk tB) jz)) σ H Q:=by
 subst e1 e2;exact Ag hA hB l1 l2 k
theorem DW{H:Hp}{p q v:Addr}{x:JM.Wr}{s1 s2:List V}(e1:x.1.map wv=s1)(e2:x.2.map wv=s2)(hp:H p=none)(hq:upd H p (.tup s1) q=none)(hv:upd (upd H p (.tup s1)) q (.tup s2) v=none) :
  aq H (upd (upd (upd H p (.tup s1)) q (.tup s2)) v (.tup [.ref p,.ref q]))/\WrV (upd (upd (upd H p (.tup s1)) q (.tup s2)) v (.tup [.ref p,.ref q])) (.ref v) x:=by
 subst e1 e2;have a1:=ag (o:=.tup (x.1.map wv)) hp;have a2:=ag (o:=.tup (x.2.map wv)) hq;have a3:=ag (o:=.tup [.ref p,.ref q]) hv;exact⟨(a1.trans a2).trans a3,v,p,q,rfl,a7,a3 _ _ (a2 _ _ a7),a3 _ _ a7⟩
def wA(t:Adr):Sp:=fun vs H Q _=>∃(a:Addr) (x:JM.Pt) (i:Nat),vs=[.ref a,.int (i:Int)]/\dc t H a x/\JM.eB x/\JM.isW x=true/\∀(H':Hp) (D:Addr),aq H H'->bg H' D WrV (JM.dw x i)->Q (.ref D) H'
theorem m7:au ["where", "index", "row", "box", "wires"] ["where", "index"] (ae qj):=⟨rfl,rfl,rfl,by decide +kernel,rfl,by decide +kernel,by decide +kernel⟩
theorem HQ{i:Nat}(hi:i<10):decide (V.str (oH i)=V.str "yes")=decide (i=0):=by
 have h:∀i,i<10->decide (oH i = "yes")=decide (i=0):=by decide +kernel
 rw[<-h i hi];exact decide_eq_decide.mpr ⟨fun z=>V.str.inj z,fun z=>by rw[z]⟩
theorem FJ(i:Nat):decide (V.int (i:Int)=V.int 0)=decide (i=0):=by
 rw[gk];exact Bool.eq_iff_iff.mpr (by simp)
theorem A4(F:Fun K "where_wires" "where_wires" qj f fd)(T:Txt K w mg t)(T2:Tx2 K w mg u):aT P w K mg base CX0 1 f fd ["where", "index"] (wA t):=by
 refine F.ok m7 (fun vs H Q E h=>?_) (fun cdv A outer s H vs Q E hr h=>?_)
 ·obtain⟨a,x,i,rfl,_⟩:=h;rfl
 ·obtain⟨a,x,i,rfl,⟨dx,d,ha,hd⟩,ok,isw,k⟩:=h;have hu:=eU hr;have x01:=JM.cz.1.mp isw;refine⟨_,a4 (ax (i:=2) m7.nd rfl (Or.inl rfl) (bx hu (aI (pv 0) rfl) aA (fun _ _=>rfl)))
   (a4 (ax (i:=3) m7.nd rfl (Or.inl rfl) (aQ c8 (bH T2.kBox rfl) (pv 1)))
   (a4 (ax (i:=4) m7.nd rfl (Or.inl rfl) (b9 (a0 (bc (a0 (bc (a0 aA (a0 (bx hu (aI (pv 0) rfl) aA (fun _ _=>rfl)) a5))) (a0 (bc (a0 aA (a0 (pv 1) a5))) a5))) a5)))
   (a4 (aP (aB bY (aI (pv 0) rfl) aA (aJ _))
    (a8 (aX (d5 PySem.F.plainAttrs_list PySem.F.slot_list_append PySem.F.type_list_append bF (pv 4) (a0 (bc (a0 (bc (a0 aA (a0 (pv 1) (a0 (pv 2) a5)))) (a0 (bc (a0 aA (a0 (pv 3) a5))) a5))) a5))))
    (a4 (aX (d5 PySem.F.plainAttrs_list PySem.F.slot_list_append PySem.F.type_list_append bF (pv 4) (a0 (bc (a0 (bc (a0 aA (a0 (pv 1) (a0 (pv 2) a5)))) (a0 (bc (a0 aA (a0 (pv 1) a5))) a5))) a5)))
    (a4 (aX (d5 PySem.F.plainAttrs_list PySem.F.slot_list_append PySem.F.type_list_append bF (pv 4) (a0 (bc (a0 (bc (a0 aA (a0 ah a5))) (a0 (bc (a0 aA (a0 (pv 1) a5))) a5))) a5)))
    (a8 (aX (d5 PySem.F.plainAttrs_list PySem.F.slot_list_append PySem.F.type_list_append bF (pv 4) (a0 (bc (a0 (bc (a0 aA (a0 (pv 1) a5))) (a0 (bc (a0 aA (a0 (pv 3) a5))) a5))) a5)))))))
   (a4 (aP (aB bY (pv 1) ah (aJ _))
    (a8 (aX (d5 PySem.F.plainAttrs_list PySem.F.slot_list_append PySem.F.type_list_append bF (pv 4) (a0 (bc (a0 (bc (a0 aA (a0 ah a5))) (a0 (bc (a0 aA (a0 (pv 3) a5))) a5))) a5))))
    (a8 (aX (d5 PySem.F.plainAttrs_list PySem.F.slot_list_append PySem.F.type_list_append bF (pv 4) (a0 (bc (a0 (bc (a0 aA (a0 (aQ fi (pv 3) ah) a5))) (a0 (bc (a0 aA (a0 (pv 3) a5))) a5))) a5)))))
   (a8 (ai (pv 4))))))),?_⟩
  have nm:∀H',aq H H'->Cy H' d x:=fun H' s=>j1 ok (s _ _ hd)
  obtain⟨w1,w2,w3,w4,w5,w6,w7,w8,w9⟩:=EI;have box:(16:Int)+(i:Int)=((16+i:Nat):Int):=by omega
  refine⟨_,rfl,a,t.cP,dx,_,_,rfl,ha,T.clP,T.nPn,dm _ _,d,_,rfl,(nm H (aq.refl _)).r (by omega),?_⟩
  refine⟨_,rfl,_,_,rfl,rfl,?_⟩;refine⟨_,rfl,a,t.cP,dx,_,_,rfl,ha,T.clP,T.nPn,dm _ _,d,_,rfl,(nm H (aq.refl _)).c (by omega),(by show 2<=sizeLine;decide),fun p hp=>⟨_,rfl,(by show 2<=sizeLine;decide),fun q hq=>⟨(by show 2<=sizeLine;decide),fun v hv=>⟨(by show 1<=sizeLine;decide),fun D hD=>?_⟩⟩⟩⟩
  obtain⟨s1,r1⟩:=DW (x:=([JM.wx "read",.n (JM.n0 x)],[JM.wx "look",.n i])) (s1:=[.str "read",.int (JM.n0 x:Int)]) (s2:=[.str "look",.int (i:Int)]) (by rw[List.map_cons,w1];rfl) (by rw[List.map_cons,w2];rfl) hp hq hv
  generalize upd (upd (upd H p (.tup [.str "read",.int (JM.n0 x:Int)])) q (.tup [.str "look",.int (i:Int)])) v (.tup [.ref p,.ref q])=H1 at s1 r1 hD;have E1:bg (upd H1 D (.lst [.ref v])) D WrV [([JM.wx "read",.n (JM.n0 x)],[JM.wx "look",.n i])]:=⟨_,a7,.cons (m6 (ag hD) r1) .nil⟩;have S1:aq H (upd H1 D (.lst [.ref v])):=s1.trans (ag hD);have nD:H D=none:=s1.free hD;generalize upd H1 D (.lst [.ref v])=H2 at E1 S1;dsimp only[fU];refine sq ?_;refine g9 (fun σ' H3=>σ'=[some (.ref a),some (.int (i:Int)),some (.int (JM.n1 x:Int)),some (.int ((16+i:Nat):Int)),some (.ref D)]/\∃ws,ws.length<=4/\bg H3 D WrV ws/\aq H H3/\ws++[if i=0 then([JM.wx "send",.n 1],[JM.wx "other",.n (16+i)]) else([JM.wx "chosen",.n (16+i-1)],[JM.wx "other",.n (16+i)])]=JM.dw x i) ?_ (fun j=>?_)
  ·rintro σ' H3 ⟨rfl,ws,l3,E3,S3,e⟩;obtain⟨vs,hv,pr⟩:=id E3;refine⟨_,rfl,rfl,_,rfl,?_⟩;rw[FJ];by_cases i0:i=0
   ·rw[decide_eq_true i0];rw[if_pos i0] at e;refine bh ⟨_,rfl,.inl ⟨rfl,_,SqL.of hv⟩,gi (x:=([JM.wx "send",.n 1],[JM.wx "other",.n (16+i)])) (s1:=[.str "send",.int 1]) (s2:=[.str "other",.int ((16+i:Nat):Int)]) (by rw[List.map_cons,w5];rfl) (by rw[List.map_cons,w8];rfl)
     (fun H' Q s q=>q) (fun H' Q s q=>⟨_,rfl,q⟩) (by show 2<=10;decide) (by show 2<=10;decide) (fun H4 v4 s4 r4=>?_)⟩
    obtain⟨vs2,g1,g2,g3⟩:=df fA E3 s4 r4;rw[e] at g3;refine⟨D,vs2,v4,rfl,rfl,g1,Nat.lt_of_le_of_lt (by rw[g2];exact l3) (by decide),_,rfl,k _ D (fun b o z=>?_) g3⟩
    rw[af (a9 z nD)];exact s4 _ _ (S3 _ _ z)
   ·rw[decide_eq_false i0];rw[if_neg i0] at e;refine aZ ⟨_,rfl,.inl ⟨rfl,_,SqL.of hv⟩,gi (x:=([JM.wx "chosen",.n (16+i-1)],[JM.wx "other",.n (16+i)])) (s1:=[.str "chosen",.int ((16+i-1:Nat):Int)]) (s2:=[.str "other",.int ((16+i:Nat):Int)]) (by rw[List.map_cons,w7];rfl) (by rw[List.map_cons,w8];rfl)
     (fun H' Q s q=>⟨_,rfl,_,_,rfl,rfl,by dsimp only;rw[show((16+i:Nat):Int)-1=((16+i-1:Nat):Int) by omega];exact q⟩) (fun H' Q s q=>⟨_,rfl,q⟩) (by show 2<=10;decide) (by show 2<=10;decide) (fun H4 v4 s4 r4=>?_)⟩
    obtain⟨vs2,g1,g2,g3⟩:=df fA E3 s4 r4;rw[e] at g3;refine⟨D,vs2,v4,rfl,rfl,g1,Nat.lt_of_le_of_lt (by rw[g2];exact l3) (by decide),_,rfl,k _ D (fun b o z=>?_) g3⟩
    rw[af (a9 z nD)];exact s4 _ _ (S3 _ _ z)
  ·refine⟨_,rfl,a,t.cP,dx,_,_,rfl,S1 _ _ ha,T.clP,T.nPe,nu _ _,rfl,_,rfl,?_⟩;rw[HQ ok.1];have off:∀{H3:Hp} {o:HO},aq H H3->aq H (upd H3 D o):=fun s b o z=>by
    rw[af (a9 z nD)];exact s _ _ z
   obtain⟨vs,hv,pr⟩:=id E1;by_cases x0:x.1=0
   ·rw[decide_eq_true x0];refine bh ⟨_,rfl,.inl ⟨rfl,_,SqL.of hv⟩,gi (x:=([JM.wx "hole",.n i,.n (JM.n1 x)],[JM.wx "by",.n (16+i)])) (s1:=[.str "hole",.int (i:Int),.int (JM.n1 x:Int)]) (s2:=[.str "by",.int ((16+i:Nat):Int)]) (by rw[List.map_cons,w3];rfl) (by rw[List.map_cons,w4];rfl)
     (fun H' Q s q=>⟨_,rfl,_,rfl,q⟩) (fun H' Q s q=>⟨_,rfl,q⟩) (by show 3<=10;decide) (by show 2<=10;decide) (fun H4 v4 s4 r4=>?_)⟩
    obtain⟨vs2,g1,g2,g3⟩:=df fA E1 s4 r4;refine⟨D,vs2,v4,rfl,rfl,g1,Nat.lt_of_le_of_lt (by rw[g2];exact(by decide:1<=4)) (by decide),j _ _ ⟨rfl,_,(by show 2<=4;decide),g3,off (S1.trans s4),?_⟩⟩
    unfold JM.dw;rw[if_pos x0];rfl
   ·rw[decide_eq_false x0];refine aZ ⟨_,rfl,.inl ⟨rfl,_,SqL.of hv⟩,gi (x:=([JM.wx "hole",.n i,.n (JM.n1 x)],[JM.wx "by",.n i])) (s1:=[.str "hole",.int (i:Int),.int (JM.n1 x:Int)]) (s2:=[.str "by",.int (i:Int)]) (by rw[List.map_cons,w3];rfl) (by rw[List.map_cons,w4];rfl)
     (fun H' Q s q=>⟨_,rfl,_,rfl,q⟩) (fun H' Q s q=>⟨_,rfl,q⟩) (by show 3<=10;decide) (by show 2<=10;decide) (fun H4 v4 s4 r4=>?_)⟩
    obtain⟨vs2,g1,g2,g3⟩:=df fA E1 s4 r4;refine⟨D,vs2,v4,rfl,rfl,g1,Nat.lt_of_le_of_lt (by rw[g2];exact(by decide:1<=4)) (by decide),?_⟩
    have S4:=off (o:=.lst (vs2++[v4])) (S1.trans s4);generalize upd H4 D (.lst (vs2++[v4]))=H5 at g3 S4;obtain⟨vs5,hv5,_⟩:=id g3;refine⟨_,rfl,.inl ⟨rfl,_,SqL.of hv5⟩,gi (x:=([JM.wx "send",.n 1],[JM.wx "plain",.n i])) (s1:=[.str "send",.int 1]) (s2:=[.str "plain",.int (i:Int)]) (by rw[List.map_cons,w5];rfl) (by rw[List.map_cons,w6];rfl)
     (fun H' Q s q=>q) (fun H' Q s q=>⟨_,rfl,q⟩) (by show 2<=10;decide) (by show 2<=10;decide) (fun H6 v6 s6 r6=>?_)⟩
    obtain⟨vs6,g61,g62,g63⟩:=df fA g3 s6 r6;refine⟨D,vs6,v6,rfl,rfl,g61,Nat.lt_of_le_of_lt (by rw[g62];exact(by decide:2<=4)) (by decide),?_⟩
    have S6:=off (o:=.lst (vs6++[v6])) (S4.trans s6);generalize upd H6 D (.lst (vs6++[v6]))=H7 at g63 S6;obtain⟨vs7,hv7,_⟩:=id g63;refine⟨_,rfl,.inl ⟨rfl,_,SqL.of hv7⟩,gi (x:=([JM.wx "chosen",.n i],[JM.wx "by",.n (16+i)])) (s1:=[.str "chosen",.int (i:Int)]) (s2:=[.str "by",.int ((16+i:Nat):Int)]) (by rw[List.map_cons,w7];rfl) (by rw[List.map_cons,w4];rfl)
     (fun H' Q s q=>⟨_,rfl,q⟩) (fun H' Q s q=>⟨_,rfl,q⟩) (by show 2<=10;decide) (by show 2<=10;decide) (fun H8 v8 s8 r8=>?_)⟩
    obtain⟨vs8,g81,g82,g83⟩:=df fA g63 s8 r8;refine⟨D,vs8,v8,rfl,rfl,g81,Nat.lt_of_le_of_lt (by rw[g82];exact(by decide:3<=4)) (by decide),j _ _ ⟨rfl,_,(by show 4<=4;decide),g83,off (S6.trans s8),?_⟩⟩
    unfold JM.dw;rw[if_neg x0];rfl
def wH(t:Adr):Sp:=fun vs H Q _=>∃(a:Addr) (ws:List JM.Pt),vs=[.ref a]/\dU H a (dc t) ws/\(∀x∈ws,JM.eB x/\JM.isW x=true)/\ws.length<=16/\∀(H':Hp) (D:Addr),aq H H'->bg H' D WrV (JM.eO ws)->Q (.ref D) H'
theorem ma:au ["wheres", "wires", "index", "where"] ["wheres"] (ae qF):=⟨rfl,rfl,rfl,by decide +kernel,rfl,by decide +kernel,by decide +kernel⟩
def vo(ws:List JM.Pt):List JM.Wr:=ws.zipIdx.flatMap fun x=>JM.dw x.1 x.2
theorem yF(ws:List JM.Pt)(x:JM.Pt):vo (ws++[x])=vo ws++JM.dw x ws.length:=by
 unfold vo;rw[List.zipIdx_append,List.flatMap_append];simp
theorem pW(x:JM.Pt)(i:Nat):(JM.dw x i).length<=5:=by
 unfold JM.dw;split<;>simp
theorem nE:∀(ws:List JM.Pt) (o:Nat),((ws.zipIdx o).flatMap fun x=>JM.dw x.1 x.2).length<=5 * ws.length
 |[],_=>Nat.zero_le _
 |x::ws,o=>by
  have:=nE ws (o+1);have h2:=pW x o;rw[List.zipIdx_cons,List.flatMap_cons,List.length_append,List.length_cons];dsimp only;omega
theorem Bb(F:Fun K "plan_panel" "plan_panel" qF f fd)(T:Txt K w mg t)(T2:Tx2 K w mg u)(cWires:Cal P w K mg base "where_wires" 1 ["where", "index"] (wA t)):aT P w K mg base CX0 2 f fd ["wheres"] (wH t):=by
 refine F.ok ma (fun vs H Q E h=>?_) (fun cdv A outer s H vs Q E hr h=>?_)
 ·obtain⟨a,ws,rfl,_⟩:=h;rfl
 ·obtain⟨a,ws,rfl,⟨as,h1,h2,h3⟩,ok,len,k⟩:=h;refine⟨_,a4 (ax (i:=1) ma.nd rfl (Or.inl rfl) (b9 a5))
   (a4 (bM PassesOwn.never rfl (gY rfl T.zEnum (a0 (pv 0) a5)) (fM rfl (ba (aH (i:=2) ma.nd rfl (Or.inl rfl)) (ba (aH (i:=3) ma.nd rfl (Or.inl rfl)) eR)))
    (a8 (aX (d5 PySem.F.plainAttrs_list PySem.F.slot_list_extend PySem.F.type_list_extend dI (pv 1) (a0 (az cWires hr (by decide) rfl (a0 (pv 3) (a0 (pv 2) a5))) a5)))))
   (a4 (aP (dY (pv 0) (fun _=>rfl))
    (a8 (aX (d5 PySem.F.plainAttrs_list PySem.F.slot_list_append PySem.F.type_list_append bF (pv 1) (a0 (bc (a0 (bc (a0 aA (a0 (aQ c8 (aQ fi (bH T2.kBox rfl) ah) (b6 aU rfl T.zLen PySem.boot_len (a0 (pv 0) a5))) a5))) (a0 (bc (a0 aA (a0 ah a5))) a5))) a5))))
    (a8 (aX (d5 PySem.F.plainAttrs_list PySem.F.slot_list_append PySem.F.type_list_append bF (pv 1) (a0 (bc (a0 (bc (a0 aA (a0 ah a5))) (a0 (bc (a0 aA (a0 ah a5))) a5))) a5)))))
   (a8 (ai (pv 1))))),?_⟩
  obtain⟨w1,w2,w3,w4,w5,w6,w7,w8,w9⟩:=EI;refine⟨Nat.zero_le _,fun D hD=>?_⟩
  have off:∀{H3:Hp} {o:HO},aq H H3->aq H (upd H3 D o):=fun s b o z=>by
   rw[af (a9 z hD)];exact s _ _ z
  refine⟨_,rfl,a,_,rfl,SqL.of (ag hD _ _ h1),fJ (K:=K) (a:=a) (xs:=as.map V.ref) (fun i σ H'=>∃(x2 x3:Option V),σ=[some (.ref a),some (.ref D),x2,x3]/\aq H H'/\bg H' D WrV (vo (ws.take i)))
   ⟨none,none,rfl,ag hD,_,a7,by rw[List.take_zero];exact .nil⟩ (by rintro i σ H' _ ⟨_,_,_,s,_⟩;exact SqL.of (s _ _ h1)) ?_ ?_⟩
  ·rintro i y σ H2 Tp hi ⟨x2,x3,rfl,s2,E2⟩ hTp;obtain⟨c,hc,rfl⟩:=d9 hi;have hil:=(List.getElem?_eq_some_iff.mp hc).1;obtain⟨x,hx⟩:∃x,ws[i]?=some x:=⟨_,List.getElem?_eq_getElem (by omega)⟩
   have okx:=ok x (List.mem_of_getElem? hx);have s3:aq H2 (upd H2 Tp (.tup [.int (i:Nat),.ref c])):=ag hTp;have ht3:upd H2 Tp (.tup [.int (i:Nat),.ref c]) Tp=some (.tup [.int (i:Nat),.ref c]):=a7;generalize upd H2 Tp (.tup [.int (i:Nat),.ref c])=H3 at ht3 s3;obtain⟨vs,hv,pr⟩:=id E2;refine⟨Tp,_,rfl,SqT.of ht3,rfl,_,_,rfl,_,_,rfl,rfl,?_⟩;refine⟨_,rfl,.inl ⟨rfl,_,SqL.of (s3 _ _ hv)⟩,_,rfl,_,rfl,c,x,i,rfl,(h3 i c x hc hx).same (s2.trans s3),okx.1,okx.2,fun H4 E4 s4 e4=>?_⟩
   obtain⟨vs4,us4,g1,g2,g3,g4,g5⟩:=gU fA E2 (s3.trans s4) e4;refine⟨D,E4,vs4,us4,rfl,rfl,g1,g2,?_,some (.int (i:Nat)),some (.ref c),rfl,off ((s2.trans s3).trans s4),?_⟩
   ·have:=nE (ws.take i) 0;have h5:=pW x i;rw[List.length_take] at this;rw[g3,g4];refine Nat.le_trans (m:=100) ?_ (by decide)
    have:(vo (ws.take i)).length<=5 * min i ws.length:=this;omega
   ·rw[bU hx,yF,List.length_take,show min i ws.length=i by omega]
    exact g5
  ·rintro σ H2 ⟨x2,x3,rfl,s2,E2⟩;rw[List.length_map,h2,List.take_length] at E2;obtain⟨vs,hv,pr⟩:=id E2;refine⟨_,rfl,_,.inl ⟨_,SqL.of (s2 _ _ h1),rfl⟩,?_⟩;have lw:(vo ws).length<=80:=by
    have:=nE ws 0;have t2:(vo ws).length<=5 * ws.length:=this;omega
   by_cases w0:ws.length=0
   ·have em:(as.map V.ref).isEmpty=true:=by
     rw[List.isEmpty_iff,List.map_eq_nil_iff];exact List.length_eq_zero_iff.mp (by omega)
    rw[em];refine aZ ⟨_,rfl,.inl ⟨rfl,_,SqL.of hv⟩,gi (x:=([JM.wx "send",.n 1],[JM.wx "to",.n 0])) (s1:=[.str "send",.int 1]) (s2:=[.str "to",.int 0]) (by rw[List.map_cons,w5];rfl) (by rw[List.map_cons,w9];rfl)
     (fun H' Q s q=>q) (fun H' Q s q=>q) (by show 2<=10;decide) (by show 2<=10;decide) (fun H4 v4 s4 r4=>?_)⟩
    obtain⟨vs2,g1,g2,g3⟩:=df fA E2 s4 r4;refine⟨D,vs2,v4,rfl,rfl,g1,Nat.lt_of_le_of_lt (by rw[g2];exact lw) (by decide),_,rfl,k _ D (off (s2.trans s4)) ?_⟩
    unfold JM.eO;rw[if_pos w0];exact g3
   ·have em:(as.map V.ref).isEmpty=false:=by
     rw[Bool.eq_false_iff];intro z;rw[List.isEmpty_iff,List.map_eq_nil_iff] at z;rw[z] at h2;exact w0 h2.symm
    rw[em];refine bh ⟨_,rfl,.inl ⟨rfl,_,SqL.of hv⟩,gi (x:=([JM.wx "chosen",.n (15+ws.length)],[JM.wx "to",.n 0])) (s1:=[.str "chosen",.int ((15+ws.length:Nat):Int)]) (s2:=[.str "to",.int 0]) (by rw[List.map_cons,w7];rfl) (by rw[List.map_cons,w9];rfl)
     (fun H' Q s q=>⟨_,_,rfl,rfl,_,rfl,a,_,rfl,.inl (SqL.of (s _ _ (s2 _ _ h1))),_,_,rfl,rfl,by dsimp only;rw[List.length_map,h2,show(16:Int)-1+(ws.length:Int)=((15+ws.length:Nat):Int) by omega];exact q⟩) (fun H' Q s q=>q) (by show 2<=10;decide) (by show 2<=10;decide) (fun H4 v4 s4 r4=>?_)⟩
    obtain⟨vs2,g1,g2,g3⟩:=df fA E2 s4 r4;refine⟨D,vs2,v4,rfl,rfl,g1,Nat.lt_of_le_of_lt (by rw[g2];exact lw) (by decide),_,rfl,k _ D (off (s2.trans s4)) ?_⟩
    unfold JM.eO;rw[if_neg w0];exact g3
theorem tW{H H':Hp}{y:V}{z:List JM.Wd}(s:aq H H')(h:jX H y z):jX H' y z:=by
 obtain⟨a,e,h1⟩:=h;exact⟨a,e,s _ _ h1⟩
def Du(H:Hp)(v:V)(n:Nat):Prop:=v=.int (n:Int)
theorem zS{D:Addr}(H H':Hp)(y:V)(z:Nat)(acc:List V)(hD:H D=some (.lst acc))(o:bZ D H H')(h:Du H y z):Du H' y z:=h
theorem Ek{H:Hp}{p:Addr}{ns:List Nat}(h:bg H p Du ns):H p=some (.lst (ns.map fun(n:Nat)=>V.int (n:Int))):=by
 obtain⟨vs,e,pr⟩:=h;rw[e];clear e;congr 2
 induction pr with
 |nil=>rfl
 |cons r _ ih=>rw[List.map_cons,ih,show _=_ from r]
theorem Bq{tA:TA}{σ:L2.St}{H:Hp}{Q:VK}{x:List JM.Wd}{s1:List V}(e1:x.map wv=s1)(hA:∀(Q:List V->Hp->Prop),Q s1 H->tA σ H Q)(l1:x.length<=10)
  (k:∀H' v,aq H H'->jX H' v x->Q v H'):uk tA σ H Q:=by
 subst e1;exact hA _ ⟨Nat.le_trans (by rw[List.length_map];exact l1) (by decide),fun p hp=>k _ _ (ag hp) ⟨p,rfl,a7⟩⟩
def uF(t:Adr):Sp:=fun vs H Q _=>∃(a:Addr) (x:JM.Pt),vs=[.ref a]/\dc t H a x/\JM.eB x/\JM.isK x=true/\∀(H':Hp) (D:Addr),aq H H'->bg H' D jX (JM.dJ x)->Q (.ref D) H'
theorem dX:au ["key", "looked", "first", "last", "lines", "column", "row", "rows"] ["key"] (ae j7):=⟨rfl,rfl,rfl,by decide +kernel,rfl,by decide +kernel,by decide +kernel⟩
theorem Gs:gv ["key", "looked", "first", "last", "lines", "column", "row", "rows"] (ae j7) (iE [(".0",.local),("row",.local),("row_holes",.globalImplicit)]) [("row",6)]=true:=by decide +kernel
theorem Gy:gv ["key", "looked", "first", "last", "lines", "column", "row", "rows"] (ae j7) (iE [(".0",.local),("rows",.local),("column",.free)]) [("rows",7)]=true:=by decide +kernel
def rX(c n:Nat)(lk:List Nat)(i:Nat):List (List JM.Wd):=(List.range i).flatMap fun j=>lk.map fun l=>JM.i8 (c+(n-1-j)) l
theorem pU(c n:Nat)(lk:List Nat)(i:Nat):rX c n lk (i+1)=rX c n lk i++lk.map fun l=>JM.i8 (c+(n-1-i)) l:=by
 unfold rX;rw[List.range_succ,List.flatMap_append];simp
theorem EG(x:JM.Pt):rX (JM.n0 x) (JM.n1 x) (JM.dZ x) (JM.n1 x)=JM.dJ x:=by
 unfold rX JM.dJ;have:(List.range (JM.n1 x)).reverse=(List.range (JM.n1 x)).map fun j=>JM.n1 x-1-j:=by
  apply List.ext_getElem?;intro j;by_cases hj:j<JM.n1 x
  ·rw[List.getElem?_reverse (by rw[List.length_range];exact hj),List.getElem?_map,List.length_range,List.getElem?_range (by omega),List.getElem?_range hj]
   rfl
  ·rw[List.getElem?_eq_none (by rw[List.length_reverse,List.length_range];omega),List.getElem?_eq_none (by rw[List.length_map,List.length_range];omega)]
 rw[this,List.flatMap_map]
theorem vj(c n:Nat)(lk:List Nat):∀i,(rX c n lk i).length=i * lk.length
 |0=>by simp[rX]
 |i+1=>by
  rw[pU,List.length_append,vj c n lk i,List.length_map,Nat.succ_mul]
theorem jw(x:JM.Pt):(JM.dZ x).length<=12:=by
 unfold JM.dZ;split<;>simp
theorem ym(F:Fun K "key_lines" "key_lines" j7 f fd)(T:Txt K w mg t)(T2:Tx2 K w mg u)(cRowH:Cal P w K mg base "row_holes" 1 ["row"] kE):aT P w K mg base CX0 2 f fd ["key"] (uF t):=by
 refine F.ok dX (fun vs H Q E h=>?_) (fun cdv A outer s H vs Q E hr h=>?_)
 ·obtain⟨a,x,rfl,_⟩:=h;rfl
 ·obtain⟨a,x,rfl,⟨dx,d,ha,hd⟩,ok,isk,k⟩:=h;have hu:=eU hr;have x23:=JM.cz.2.1.mp isk;refine⟨_,a4 (ax (i:=1) dX.nd rfl (Or.inl rfl) (b9 (a0 (bH T2.kAllR rfl) a5)))
   (a4 (aP (aB bY (aI (pv 0) rfl) aA (aJ _))
    (a8 (iF (own:=[("row",6)]) (i:=1) rfl dX.nd rfl rfl (kf rfl rfl rfl rfl) (pB rfl T2.zRange (a0 (bH T2.kRows rfl) a5)) (bD Gs) (fun s H C cl fp=>aH (i:=6) dX.nd rfl (Or.inl rfl)) (fun s H C cl fp=>dj) (fun s H C cl fp=>az cRowH hr (by decide) rfl (a0 (pv 6) a5)))) aD)
   (a4 (ax (i:=2) dX.nd rfl (Or.inl rfl) (bx hu (aI (pv 0) rfl) aA (fun _ _=>rfl)))
   (a4 (ax (i:=3) dX.nd rfl (Or.inl rfl) (aQ fi (aQ c8 (pv 2) (bx hu (aI (pv 0) rfl) aA (fun _ _=>rfl))) ah))
   (a4 (ax (i:=4) dX.nd rfl (Or.inl rfl) (b9 a5))
   (a4 (bM PassesOwn.never rfl (l6 rfl T2.zRange (a0 (pv 3) (a0 (aQ fi (pv 2) ah) (a0 (i7 fk ah) a5)))) (aH (i:=5) dX.nd rfl (Or.inr rfl))
    (a8 (aX (d5 PySem.F.plainAttrs_list PySem.F.slot_list_extend PySem.F.type_list_extend dI (pv 4) (a0 (fG (own:=[("rows",7)]) rfl dX.nd (bu (pv 1)) (bD Gy) (fun s H C cl fp=>aH (i:=7) dX.nd rfl (Or.inl rfl)) (fun s H C cl fp=>dj)
     (fun s H C cl fp=>bc (a0 aA (a0 aA (a0 (pv 5) (a0 (pv 7) (a0 aA (a0 aA a5)))))))) a5)))))
   (a8 (ai (pv 4)))))))),?_⟩
  have nm:∀H',aq H H'->Cy H' d x:=fun H' s=>j1 ok (s _ _ hd)
  obtain⟨v1,v2,v3,v4,v5,v6,v7,v8⟩:=vG;have vn:∃c n p,x.2=[c,n,p]/\c<=79/\1<=n/\n<=80/\p<=131:=by
   have o:=ok.2;rcases x23 with e | e
   ·rw[e] at o;exact o
   ·rw[e] at o;exact o
  obtain⟨cc,nn,pp,ev,b1,b2,b3,b4⟩:=vn;have ec:JM.n0 x=cc:=by unfold JM.n0;rw[ev];rfl
  have en:JM.n1 x=nn:=by unfold JM.n1;rw[ev];rfl
  refine⟨(by show 1<=sizeLine;decide),fun L hL=>?_⟩
  have sL:=ag (o:=.lst [V.int 4095]) hL;have hL2:upd H L (.lst [V.int 4095]) L=some (.lst [V.int 4095]):=a7;generalize upd H L (.lst [V.int 4095])=H1 at sL hL2;dsimp only[fU];refine sq ?_;refine g9 (fun σ' H2=>∃L',σ'=[some (.ref a),some (.ref L'),none,none,none,none,none,none]/\aq H H2/\H2 L'=some (.lst ((JM.dZ x).map fun(n:Nat)=>V.int (n:Int)))) ?_ (fun j=>?_)
  ·rintro σ' H2 ⟨L',rfl,s2,hl2⟩;refine⟨_,rfl,a,t.cP,dx,_,_,rfl,s2 _ _ ha,T.clP,T.nPn,dm _ _,d,_,rfl,(nm H2 s2).c (by omega),?_⟩
   refine⟨_,rfl,_,rfl,a,t.cP,dx,_,_,rfl,s2 _ _ ha,T.clP,T.nPn,dm _ _,d,_,rfl,(nm H2 s2).n (by omega),_,_,rfl,rfl,_,_,rfl,rfl,?_⟩
   refine⟨Nat.zero_le _,fun D hD=>?_⟩
   have nD:H D=none:=s2.free hD;have off:∀{H3:Hp} {o:HO},aq H2 H3->aq H2 (upd H3 D o):=fun s b o z=>by
    rw[af (a9 z hD)];exact s _ _ z
   refine⟨_,rfl,_,rfl,_,_,rfl,rfl,_,rfl,_,_,_,JM.n1 x,rfl,?_,jF (lo:=(JM.n0 x:Int)+(JM.n1 x:Int)-1) (c:=-1) (n:=JM.n1 x) (fun i σ H'=>∃(y5 y6 y7:Option V),σ=[some (.ref a),some (.ref L'),some (.int (JM.n0 x:Int)),some (.int ((JM.n0 x:Int)+(JM.n1 x:Int)-1)),some (.ref D),y5,y6,y7]/\aq H2 H'/\bg H' D jX (rX (JM.n0 x) (JM.n1 x) (JM.dZ x) i))
    ⟨none,none,none,rfl,ag hD,_,a7,.nil⟩ ?_ ?_⟩
   ·have:=RgC.neg (i:=(JM.n0 x:Int)+(JM.n1 x:Int)-1) (j:=(JM.n0 x:Int)-1) (by omega) (by omega) (by omega) (by omega)
    rw[show((JM.n0 x:Int)+(JM.n1 x:Int)-1-((JM.n0 x:Int)-1)).toNat=JM.n1 x by omega] at this
    exact this
   ·rintro i σ H3 hi ⟨y5,y6,y7,rfl,s3,E3⟩;obtain⟨vs,hv,pr⟩:=id E3;have col:(JM.n0 x:Int)+(JM.n1 x:Int)-1+((i:Nat):Int) * -1=((JM.n0 x+(JM.n1 x-1-i):Nat):Int):=by omega
    rw[col];refine⟨_,rfl,.inl ⟨rfl,_,SqL.of hv⟩,_,rfl,L',rfl,⟨_,SqL.of (s3 _ _ hl2)⟩,fun E hE=>?_⟩
    refine dH (xs:=JM.dZ x) (p:=fun _=>true) (f:=fun l=>JM.i8 (JM.n0 x+(JM.n1 x-1-i)) l) (S:=jX) (by rw[List.length_map]) (Nat.le_trans (jw x) (by decide)) hE (SqL.of (s3 _ _ hl2)) ke ?_ ?_
    ·intro m v l H4 hv hl s4 Fin Nx kY kN;rw[List.getElem?_map,hl] at hv;cases hv;exact⟨rfl,jt (Bq (x:=JM.i8 (JM.n0 x+(JM.n1 x-1-i)) l) (s1:=[.str "pass",.str "C",.int ((JM.n0 x+(JM.n1 x-1-i):Nat):Int),.int (l:Int),.str ">",.str "C"])
      (by show[wv (JM.wx "pass"),wv (JM.wx "C"),_,_,wv (JM.wx ">"),wv (JM.wx "C")]=_;rw[v1,v2,v3];rfl) (fun Q q=>⟨_,rfl,_,rfl,q⟩) (by show 6<=10;decide) (fun H5 v5 s5 r5=>kY rfl H5 v5 s5 r5))⟩
    ·intro H4 s4 e4;rw[eQ] at e4;obtain⟨vs4,us4,g1,g2,g3,g4,g5⟩:=gU ke E3 s4 e4;refine⟨D,E,vs4,us4,rfl,rfl,g1,g2,?_,_,_,_,rfl,off (s3.trans s4),?_⟩
     ·have:=jw x;rw[g3,g4,vj,List.length_map];refine Nat.le_trans (m:=80 * 12+12) ?_ (by decide)
      have:i * (JM.dZ x).length<=80 * 12:=Nat.mul_le_mul (by omega) this
      omega
     ·rw[pU];exact g5
   ·rintro σ H3 ⟨y5,y6,y7,rfl,s3,E3⟩;rw[EG] at E3;exact⟨_,rfl,k H3 D (s2.trans s3) E3⟩
  ·refine⟨_,rfl,a,t.cP,dx,_,_,rfl,sL _ _ ha,T.clP,T.nPe,nu _ _,rfl,_,rfl,?_⟩;rw[qO ok.1];by_cases e2:x.1=2
   ·rw[decide_eq_true e2];refine bh ⟨12,rfl,by decide,by decide,fun E hE=>?_⟩
    refine El (p:=fun _=>true) (f:=fun r=>2 ^ r) (S:=Du) (by decide) hE zS ?_ ?_
    ·intro i H2 hi s2 Fin Nx kY kN;refine⟨rfl,_,rfl,i,?_,by omega,kY rfl H2 _ (aq.refl _) rfl⟩
     show[V.int (0+(i:Int))]=_;rw[Int.zero_add]
    ·intro H2 s2 e2';rw[eQ] at e2';have:=Ek e2';refine j _ _ ⟨E,rfl,sL.trans s2,?_⟩;rw[this];unfold JM.dZ;rw[if_pos e2];rfl
   ·rw[decide_eq_false e2];refine aZ (j _ _ ⟨L,rfl,sL,?_⟩);rw[hL2];unfold JM.dZ;rw[if_neg e2];rfl
def Fb(t:Adr):Sp:=fun vs H Q _=>∃(a:Addr) (ks:List JM.Pt),vs=[.ref a]/\dU H a (dc t) ks/\(∀x∈ks,JM.eB x/\JM.isK x=true)/\ks.length<=3/\∀(H':Hp) (D:Addr),aq H H'->bg H' D jX (JM.E9 ks)->Q (.ref D) H'
theorem AR:au ["keys", "lines", "key"] ["keys"] (ae Eg):=⟨rfl,rfl,rfl,by decide +kernel,rfl,by decide +kernel,by decide +kernel⟩
theorem hG{x:JM.Pt}(ok:JM.eB x)(isk:JM.isK x=true):(JM.dJ x).length<=960:=by
 rw[<-EG,vj];have o:=ok.2;have x23:=JM.cz.2.1.mp isk;have vn:∃c n p,x.2=[c,n,p]/\c<=79/\1<=n/\n<=80/\p<=131:=by
  rcases x23 with e | e
  ·rw[e] at o;exact o
  ·rw[e] at o;exact o
 obtain⟨cc,nn,pp,ev,b1,b2,b3,b4⟩:=vn;have en:JM.n1 x=nn:=by unfold JM.n1;rw[ev];rfl
 rw[en];exact Nat.mul_le_mul b3 (jw x)
theorem mZ{α:Type}(f:α->List (List JM.Wd))(m:Nat):∀(l:List α),(∀x∈l,(f x).length<=m)->(l.flatMap f).length<=l.length * m
 |[],_=>by simp
 |x::l,h=>by
  have:=mZ f m l fun y hy=>h y (by simp[hy])
  have h2:=h x (by simp)
  rw[List.flatMap_cons,List.length_append,List.length_cons,Nat.succ_mul];omega
theorem GJ(F:Fun K "plan_job" "plan_job" Eg f fd)(T:Txt K w mg t)(T2:Tx2 K w mg u)(cKL:Cal P w K mg base "key_lines" 2 ["key"] (uF t)):aT P w K mg base CX0 3 f fd ["keys"] (Fb t):=by
 refine F.ok AR (fun vs H Q E h=>?_) (fun cdv A outer s H vs Q E hr h=>?_)
 ·obtain⟨a,x,rfl,_⟩:=h;rfl
 ·obtain⟨a,ks,rfl,⟨as,h1,h2,h3⟩,ok,len,k⟩:=h;refine⟨_,a4 (ax (i:=1) AR.nd rfl (Or.inl rfl) (b9 (a0 (bc (a0 aA (a0 aA (a0 ah (a0 aA (a0 aA (a0 aA a5))))))) a5)))
   (a4 (bM PassesOwn.never rfl (lB rfl T2.zRev (a0 (pv 0) a5)) (aH (i:=2) AR.nd rfl (Or.inl rfl))
    (a8 (aX (d5 PySem.F.plainAttrs_list PySem.F.slot_list_extend PySem.F.type_list_extend dI (pv 1) (a0 (az cKL hr (by decide) rfl (a0 (pv 2) a5)) a5)))))
   (a4 (aX (d5 PySem.F.plainAttrs_list PySem.F.slot_list_append PySem.F.type_list_append bF (pv 1) (a0 (bc (a0 aA (a0 aA (a0 ah (a0 ah (a0 aA (a0 aA a5))))))) a5)))
   (a8 (ai (pv 1))))),?_⟩
  obtain⟨v1,v2,v3,v4,v5,v6,v7,v8⟩:=vG;refine⟨(by show 6<=sizeLine;decide),fun p hp=>⟨(by show 1<=sizeLine;decide),fun D hD=>?_⟩⟩
  have s1:=ag (o:=.tup [.str "choose",.str "A",.int 0,.str ">",.str "B",.str "C"]) hp;have r1:jX (upd H p (.tup [.str "choose",.str "A",.int 0,.str ">",.str "B",.str "C"])) (.ref p) [JM.wx "choose",JM.wx "A",.n 0,JM.wx ">",JM.wx "B",JM.wx "C"]:=⟨p,rfl,by
   rw[a7];show _=some (HO.tup [wv (JM.wx "choose"),wv (JM.wx "A"),_,wv (JM.wx ">"),wv (JM.wx "B"),wv (JM.wx "C")]);rw[v4,v5,v3,v6,v2];rfl⟩
  generalize upd H p (.tup [.str "choose",.str "A",.int 0,.str ">",.str "B",.str "C"])=H1 at s1 r1 hD;have nD:H D=none:=s1.free hD;have off:∀{H3:Hp} {o:HO},aq H H3->aq H (upd H3 D o):=fun s b o z=>by
   rw[af (a9 z nD)];exact s _ _ z
  have S1:aq H (upd H1 D (.lst [.ref p])):=off s1;have E1:bg (upd H1 D (.lst [.ref p])) D jX [[JM.wx "choose",JM.wx "A",.n 0,JM.wx ">",JM.wx "B",JM.wx "C"]]:=⟨_,a7,.cons (tW (ag hD) r1) .nil⟩;generalize upd H1 D (.lst [.ref p])=H2 at S1 E1;refine⟨_,rfl,a,_,rfl,SqL.of (S1 _ _ h1),wb (K:=K) (a:=a) (xs:=as.map V.ref) (fun i σ H'=>∃(x2:Option V),σ=[some (.ref a),some (.ref D),x2]/\aq H H'/\bg H' D jX ([JM.wx "choose",JM.wx "A",.n 0,JM.wx ">",JM.wx "B",JM.wx "C"]::(ks.reverse.take i).flatMap JM.dJ))
   ⟨none,rfl,S1,by rw[List.take_zero];exact E1⟩ (by rintro i σ H' _ ⟨_,_,s,_⟩;exact SqL.of (s _ _ h1)) ?_ ?_⟩
  ·rintro i y σ H3 hi ⟨x2,rfl,s3,E3⟩;rw[<-List.map_reverse] at hi;obtain⟨c,hc,rfl⟩:=d9 hi;have hil:=(List.getElem?_eq_some_iff.mp hc).1;rw[List.length_reverse] at hil;obtain⟨x,hx⟩:∃x,ks.reverse[i]?=some x:=⟨_,List.getElem?_eq_getElem (by rw[List.length_reverse];omega)⟩
   have hx':=hx;have hc':=hc;rw[List.getElem?_reverse hil] at hc';rw[List.getElem?_reverse (by omega),<-h2] at hx'
   have okx:=ok x (List.mem_of_getElem? hx');obtain⟨vs,hv,pr⟩:=id E3;refine⟨_,rfl,.inl ⟨rfl,_,SqL.of hv⟩,_,rfl,c,x,rfl,(h3 _ c x hc' hx').same s3,okx.1,okx.2,fun H4 E4 s4 e4=>?_⟩
   obtain⟨vs4,us4,g1,g2,g3,g4,g5⟩:=gU ke E3 s4 e4;refine⟨D,E4,vs4,us4,rfl,rfl,g1,g2,?_,_,rfl,off (s3.trans s4),?_⟩
   ·have l1:=mZ JM.dJ 960 (ks.reverse.take i) fun y hy=>by
     have:=ok y (List.mem_reverse.mp (List.mem_of_mem_take hy));exact hG this.1 this.2
    have l2:=hG okx.1 okx.2;rw[List.length_take,List.length_reverse] at l1;rw[g3,g4,List.length_cons];refine Nat.le_trans (m:=4000) ?_ (by decide)
    have:min i ks.length * 960<=3 * 960:=Nat.mul_le_mul_right _ (by omega)
    omega
   ·rw[bU hx,List.flatMap_append,List.flatMap_cons,List.flatMap_nil,List.append_nil];exact g5
  ·rintro σ H3 ⟨x2,rfl,s3,E3⟩;rw[List.take_of_length_le (by rw[List.length_reverse,List.length_map];omega)] at E3
   obtain⟨vs,hv,pr⟩:=id E3;refine⟨_,rfl,.inl ⟨rfl,_,SqL.of hv⟩,Bq (x:=[JM.wx "account",JM.wx "C",.n 0,.n 1,JM.wx ">",JM.wx "D"]) (s1:=[.str "account",.str "C",.int 0,.int 1,.str ">",.str "D"]) (by show[wv (JM.wx "account"),wv (JM.wx "C"),_,_,wv (JM.wx ">"),wv (JM.wx "D")]=_;rw[v7,v2,v3,v8];rfl)
    (fun Q q=>q) (by show 6<=10;decide) (fun H4 v4' s4 r4=>?_)⟩
   obtain⟨vs2,g1,g2,g3⟩:=df ke E3 s4 r4;refine⟨D,vs2,v4',rfl,rfl,g1,?_,_,rfl,k _ D (off (s3.trans s4)) g3⟩;have l1:=mZ JM.dJ 960 ks.reverse fun y hy=>by
    have:=ok y (List.mem_reverse.mp hy);exact hG this.1 this.2
   rw[List.length_reverse] at l1;rw[g2,List.length_cons];refine Nat.lt_of_le_of_lt (m:=4000) ?_ (by decide)
   have:ks.length * 960<=3 * 960:=Nat.mul_le_mul_right _ len;omega
noncomputable def eM(lg:List Int):List (Key×V):=lg.zipIdx.map fun x=>((Sum.inl ((Pu.code x.2:Nat):Int):Key),V.int x.1)
def vA:Sp:=fun vs H Q _=>∃n:Int,vs=[.int n]/\Q (.bl (decide (0<=n)&&decide (n<=255))) H
theorem FY:au ["number"] ["number"] (ae wY):=⟨rfl,rfl,rfl,by decide +kernel,rfl,by decide +kernel,by decide +kernel⟩
theorem DZ(F:Fun K "is_byte" "is_byte" wY f fd)(T:Tx2 K w mg u):aT P w K mg base CX0 1 f fd ["number"] vA:=by
 refine F.ok FY (fun vs H Q E h=>?_) (fun cdv A outer s H vs Q E hr h=>?_)
 ·obtain⟨r,rfl,_⟩:=h;rfl
 ·obtain⟨n,rfl,k⟩:=h;refine⟨_,a8 (ai (tD fH fH ah (pv 0) (bH T.kByte rfl))),?_⟩;refine⟨_,rfl,_,_,rfl,rfl,_,rfl,dF (fun e=>?_) (fun e=>?_)⟩
  ·rw[e,Bool.true_and] at k;exact⟨_,_,rfl,rfl,k⟩
  ·rw[Bool.eq_false_iff.mpr e,Bool.false_and] at k;exact k
theorem yU:∀(ns:List Int),(firstMet (fun i=>ns.getD i 0) ns.length).length=ns.length↔ns.Nodup:=by
 intro ns;have any:∀i k,(firstMet (fun i=>ns.getD i 0) i).any (·==k)=((List.range i).map fun i=>ns.getD i 0).any (·==k):=fun i k=>firstMet_any _ i k
 have go:∀i,i<=ns.length->((firstMet (fun i=>ns.getD i 0) i).length=i↔(ns.take i).Nodup):=by
  intro i
  induction i with
  |zero=>intro _;simp[firstMet_zero]
  |succ i ih=>
   intro hi;have ih:=ih (by omega)
   have le:=firstMet_length_le (fun i=>ns.getD i 0) i
   have hx:ns[i]?=some (ns.getD i 0):=by
    rw[List.getD_eq_getElem?_getD,List.getElem?_eq_getElem (by omega)]
    rfl
   have tk:(List.range i).map (fun i=>ns.getD i 0)=ns.take i:=by
    apply List.ext_getElem?;intro j;rw[List.getElem?_map,List.getElem?_take];by_cases hj:j<i
    ·rw[if_pos hj,List.getElem?_range hj,List.getElem?_eq_getElem (show j<ns.length by omega)]
     simp[List.getD_eq_getElem?_getD,List.getElem?_eq_getElem (show j<ns.length by omega)]
    ·rw[if_neg hj,List.getElem?_eq_none (by rw[List.length_range];omega)]
     rfl
   rw[firstMet_succ,step_length,any,tk,L2.bU hx,List.nodup_append];by_cases m:ns.getD i 0∈ns.take i
   ·have a:((ns.take i).any (·==ns.getD i 0))=true:=List.any_eq_true.mpr ⟨_,m,by simp⟩
    rw[if_pos a];constructor
    ·intro z;omega
    ·rintro⟨_,_,z⟩;exact absurd rfl (z _ m _ (by simp))
   ·have a:((ns.take i).any (·==ns.getD i 0))=false:=by
     rw[List.any_eq_false];intro y hy z;have:y=ns.getD i 0:=by simpa using z
     exact m (this ▸ hy)
    rw[if_neg (by rw[a];exact Bool.false_ne_true)]
    constructor
    ·intro z;refine⟨ih.mp (by omega),by simp,fun y hy z2 hz2=>?_⟩
     rw[List.mem_singleton] at hz2;subst hz2;rintro rfl;exact m hy
    ·rintro⟨z,_,_⟩;rw[ih.mpr z]
 have:=go ns.length (Nat.le_refl _);rw[List.take_length] at this;exact this
def Ff(K:PySem.W.Frag):Sp:=fun vs H Q _=>∃(a:Addr) (ns:List Int),vs=[.ref a]/\SqL K H a (ns.map V.int)/\(∀n∈ns,0<=n/\n<=255)/\∀H',aq H H'->Q (.bl (JM.kW ns)) H'
theorem zW:au ["legend", "number"] ["legend"] (ae zN):=⟨rfl,rfl,rfl,by decide +kernel,rfl,by decide +kernel,by decide +kernel⟩
theorem GH:gv ["legend", "number"] (ae zN) (iE [(".0",.local),("number",.local),("is_byte",.globalImplicit)]) [("number",1)]=true:=by decide +kernel
theorem Ba(a b:Nat):decide (V.int (a:Int)=V.int (b:Int))=decide (a=b):=by
 rw[gk];exact Bool.eq_iff_iff.mpr (by simp;omega)
def BlV(H:Hp)(v:V)(b:Bool):Prop:=v=.bl b
theorem Dm{D:Addr}(H H':Hp)(y:V)(z:Bool)(acc:List V)(hD:H D=some (.lst acc))(o:bZ D H H')(h:BlV H y z):BlV H' y z:=h
theorem FI{H:Hp}{p:Addr}{bs:List Bool}(h:bg H p BlV bs):H p=some (.lst (bs.map V.bl)):=by
 obtain⟨vs,e,pr⟩:=h;rw[e];clear e;congr 2
 induction pr with
 |nil=>rfl
 |cons r _ ih=>rw[List.map_cons,ih,show _=_ from r]
theorem FN(F:Fun K "is_legend" "is_legend" zN f fd)(T:Txt K w mg t)(T2:Tx2 K w mg u)(cByte:Cal P w K mg base "is_byte" 1 ["number"] vA):aT P w K mg base CX0 2 f fd ["legend"] (Ff K):=by
 refine F.ok zW (fun vs H Q E h=>?_) (fun cdv A outer s H vs Q E hr h=>?_)
 ·obtain⟨a,ns,rfl,_⟩:=h;rfl
 ·obtain⟨a,ns,rfl,hS,hn,k⟩:=h;refine⟨_,a8 (ai (mw (e7 bY (b6 aU rfl T.zLen PySem.boot_len (a0 (pv 0) a5)) (bH T2.kCodes rfl) (aJ _))
   (mw (e7 bY (b6 yX rfl T.zLen PySem.boot_len (a0 (j9 (Ga rfl) rfl T2.zSet (show bootBuiltins "set" = some (.type "set") by decide +kernel) (a0 (pv 0) a5)) a5)) (bH T2.kCodes rfl) (aJ _))
   (oy (b6 (G3 rfl) rfl T2.zAll boot_all (a0 (fG (own:=[("number",1)]) rfl zW.nd (bu (pv 0)) (bD GH) (fun s H C cl fp=>aH (i:=1) zW.nd rfl (Or.inl rfl)) (fun s H C cl fp=>dj) (fun s H C cl fp=>az cByte hr (by decide) rfl (a0 (pv 1) a5))) a5)))))),?_⟩
  refine⟨_,rfl,a,_,rfl,.inl hS,rfl,_,rfl,?_⟩;have e64:decide (V.int ((ns.map V.int).length:Int)=V.int 64)=decide (ns.length=64):=by
   rw[List.length_map];exact Ba _ 64
  rw[e64];unfold JM.kW at k;refine dF (fun e=>?_) (fun e=>?_)
  ·rw[e,Bool.true_and] at k;have e:=of_decide_eq_true e;refine⟨_,rfl,a,ns,rfl,hS,by omega,fun p hp=>⟨p,_,_,rfl,a7,Nat.le_trans (firstMet_length_le _ _) (by omega),rfl,_,rfl,?_⟩⟩
   have s1:=ag (o:=.set (fun k=>(firstMet (fun i=>ns.getD i 0) ns.length).any (·==k)) (firstMet (fun i=>ns.getD i 0) ns.length).length) hp
   generalize upd H p (.set (fun k=>(firstMet (fun i=>ns.getD i 0) ns.length).any (·==k)) (firstMet (fun i=>ns.getD i 0) ns.length).length)=H1 at s1
   have en:decide (V.int (((firstMet (fun i=>ns.getD i 0) ns.length).length:Nat):Int)=V.int 64)=decide ns.Nodup:=by
    rw[show(64:Int)=((64:Nat):Int) from rfl,Ba _ 64]
    exact decide_eq_decide.mpr (by rw[<-e];exact yU ns)
   rw[en];refine dF (fun nd=>?_) (fun nd=>?_)
   ·refine⟨_,rfl,a,rfl,⟨_,s1.seq hS⟩,fun D hD=>?_⟩
    refine dH (xs:=ns) (p:=fun _=>true) (f:=fun n=>decide (0<=n)&&decide (n<=255)) (S:=BlV) (by rw[List.length_map]) (by omega) hD (s1.seq hS) Dm ?_ ?_
    ·intro i v n H2 hv hx s2 Fin Nx kY kN;rw[List.getElem?_map,hx] at hv;cases hv;exact⟨rfl,_,rfl,n,rfl,kY rfl H2 _ (aq.refl _) rfl⟩
    ·intro H2 s2 e2;rw[eQ] at e2;refine⟨D,_,rfl,SqL.of (FI e2),?_⟩;have al:(ns.map fun n=>decide (0<=n)&&decide (n<=255)).all id=true:=by
      rw[List.all_map,List.all_eq_true];intro n hm;have:=hn n hm;show(decide (0<=n)&&decide (n<=255))=true;rw[decide_eq_true this.1,decide_eq_true this.2];rfl
     rw[al];rw[nd] at k;exact k H2 (s1.trans s2)
   ·rw[(Bool.not_eq_true _).mp nd] at k;exact k H1 s1
  ·rw[(Bool.not_eq_true _).mp e,Bool.false_and] at k;exact k H (aq.refl _)
def sS(u:cF)(H:Hp)(p:Addr)(s:Int)(lg:List Int):Prop:=∃dx d,H p=some (.ins u.cS dx [("strange",.int s),("by_holes",.ref d)])/\H d=some (.dK (eM lg))
theorem sS.same{u:cF}{H H':Hp}{p:Addr}{s:Int}{lg:List Int}(sm:aq H H')(h:sS u H p s lg):sS u H' p s lg:=by
 obtain⟨dx,d,h1,h2⟩:=h;exact⟨dx,d,sm _ _ h1,sm _ _ h2⟩
theorem uT:∀i,i<64->∀j,j<i->Pu.code j≠Pu.code i:=by decide +kernel
theorem yA{kvs:List (Key×V)}{k:Key}(h:∀p∈kvs,p.1≠k):cw kvs k=none:=by
 unfold cw;rw[List.find?_eq_none.mpr fun p hp=>by simpa using h p hp]
 rfl
theorem vx(lg:List Int)(n:Int):eM (lg++[n])=eM lg++[((Sum.inl ((Pu.code lg.length:Nat):Int):Key),V.int n)]:=by
 unfold eM;rw[List.zipIdx_append,List.map_append];simp
theorem uB{lg:List Int}(h:lg.length<64):cw (eM lg) (Sum.inl ((Pu.code lg.length:Nat):Int))=none:=yA fun p hp=>by
 unfold eM at hp;obtain⟨⟨n,j⟩,hm,rfl⟩:=List.mem_map.mp hp;have hj:=(List.getElem?_eq_some_iff.mp (List.mem_zipIdx_iff_getElem?.mp hm)).1;intro z;have z:=Sum.inl.inj z;exact uT lg.length h j hj (by dsimp only at z;omega)
theorem wa{H H':Hp}{a p:Addr}{xs:List V}{C dx:Addr}{fs:List (Str×V)}(h:SqL K H a xs)(hp:H p=some (.ins C dx fs))(k:∀b o,H b=some o->b≠p->H' b=some o):SqL K H' a xs:=by
 rcases h with(h | ⟨o,h⟩) | h
 ·exact .inl (.inl (k _ _ h (cX h hp (by intro z;cases z))))
 ·exact .inl (.inr ⟨o,k _ _ h (cX h hp (by intro z;cases z))⟩)
 ·exact .inr h
def xO(K:PySem.W.Frag)(u:cF):Sp:=fun vs H Q _=>∃(p dx a:Addr) (s:Int) (lg:List Int),vs=[.ref p,.int s,.ref a]/\H p=some (.ins u.cS dx [])/\SqL K H a (lg.map V.int)/\lg.length=64/\
 ∀(H':Hp) (d:Addr),H' p=some (.ins u.cS dx [("strange",.int s),("by_holes",.ref d)])->H' d=some (.dK (eM lg))->(∀b o,H b=some o->b≠p->H' b=some o)->Q .non H'
theorem qN:au ["self", "strange", "legend", "number", "byte"] ["self", "strange", "legend"] (ae rD):=⟨rfl,rfl,rfl,by decide +kernel,rfl,by decide +kernel,by decide +kernel⟩
theorem sY(x d:V):([("strange",x),("by_holes",d)]:List (Str×V)).lookup ("by_holes" : Str)=some d:=by
 have h:(("by_holes" : Str)==("strange" : Str))=false:=by decide +kernel
 simp[List.lookup,h]
theorem om(x d:V):([("strange",x),("by_holes",d)]:List (Str×V)).lookup ("strange" : Str)=some x:=by
 simp[List.lookup]
theorem AW(F:Fun K "__init__" "Signs.__init__" rD f fd)(T:Txt K w mg t)(T2:Tx2 K w mg u)(cCode:Cal P w K mg base "code_holes" 3 ["number"] vV):aT P w K mg base CX0 4 f fd ["self", "strange", "legend"] (xO K u):=by
 refine F.ok qN (fun vs H Q E h=>?_) (fun cdv A outer s H vs Q E hr h=>?_)
 ·obtain⟨p,dx,a,x,lg,rfl,_⟩:=h;rfl
 ·obtain⟨p,dx,a,x,lg,rfl,hp,hS,hl,k⟩:=h;have hu:=eU hr;refine⟨_,a4 (c7 (pv 0) (pv 1) rfl) (a4 (c7 (pv 0) ur rfl)
   (a8 (bM PassesOwn.never rfl (gY rfl T.zEnum (a0 (pv 2) a5)) (fM rfl (ba (aH (i:=3) qN.nd rfl (Or.inl rfl)) (ba (aH (i:=4) qN.nd rfl (Or.inl rfl)) eR)))
    (a8 (jL hu (aI (pv 0) rfl) (az cCode hr (by decide) rfl (a0 (pv 3) a5)) (pv 4) rfl))))),?_⟩
  refine⟨_,rfl,_,rfl,p,u.cS,dx,[],rfl,hp,T2.clS,T2.nSs,(by show 0<1000;decide),fun d hd=>?_⟩
  have npd:p≠d:=a9 a7 hd;have hd0:H d=none:=by
   rw[af (Ne.symm npd)] at hd;exact hd
  refine⟨_,rfl,p,u.cS,dx,_,rfl,by rw[af npd];exact a7,T2.clS,T2.nSh,(by show 1<1000;decide),?_⟩
  generalize hH1:upd (upd (upd H p _) d (.dK [])) p _=H1;have h1p:H1 p=some (.ins u.cS dx [("strange",.int x),("by_holes",.ref d)]):=by
   rw[<-hH1,a7];rfl
  have h1d:H1 d=some (.dK []):=by
   rw[<-hH1,af (Ne.symm npd),a7]
  have h1k:∀b o,H b=some o->b≠p->H1 b=some o:=fun b o e ne=>by
   rw[<-hH1,af ne,af (a9 e hd0),af ne];exact e
  refine⟨_,rfl,a,_,rfl,wa hS hp h1k,fJ (K:=K) (a:=a) (xs:=lg.map V.int) (fun i σ H'=>∃(x3 x4:Option V),σ=[some (.ref p),some (.int x),some (.ref a),x3,x4]/\H' p=some (.ins u.cS dx [("strange",.int x),("by_holes",.ref d)])/\H' d=some (.dK (eM (lg.take i)))/\∀b o,H b=some o->b≠p->H' b=some o)
   ⟨none,none,rfl,h1p,by rw[List.take_zero];exact h1d,h1k⟩ (by rintro i σ H' _ ⟨_,_,_,_,_,kk⟩;exact wa hS hp kk) ?_ ?_⟩
  ·rintro i y σ H2 Tp hi ⟨x3,x4,rfl,g1,g2,g3⟩ hTp;rw[List.getElem?_map] at hi;cases ei:lg[i]? with
   |none=>rw[ei] at hi;cases hi
   |some n=>
    rw[ei] at hi;cases hi;have hil:=(List.getElem?_eq_some_iff.mp ei).1;have s3:aq H2 (upd H2 Tp (.tup [.int (i:Nat),.int n])):=ag hTp;have ht3:upd H2 Tp (.tup [.int (i:Nat),.int n]) Tp=some (.tup [.int (i:Nat),.int n]):=a7;generalize upd H2 Tp (.tup [.int (i:Nat),.int n])=H3 at ht3 s3;have li:(lg.take i).length=i:=by rw[List.length_take];omega
    refine⟨Tp,_,rfl,SqT.of ht3,rfl,_,_,rfl,_,_,rfl,rfl,?_⟩;refine⟨_,rfl,_,rfl,p,u.cS,dx,_,_,rfl,s3 _ _ g1,T2.clS,T2.nSh,sY _ _,_,rfl,i,rfl,by omega,d,_,rfl,lP.k (k:=Sum.inl ((Pu.code i:Nat):Int)) (s3 _ _ g2) ?_,?_⟩
    ·refine Nat.lt_of_le_of_lt (m:=64) ?_ (by decide)
     unfold eM;rw[List.length_map,List.length_zipIdx,li];omega
    ·refine⟨_,_,rfl,?_,?_,fun b o e ne=>?_⟩
     ·rw[af npd];exact s3 _ _ g1
     ·have fr:=uB (lg:=lg.take i) (by omega)
      rw[li] at fr;rw[a7,tL fr,bU ei,vx,li]
     ·rw[af (a9 e hd0)];exact s3 _ _ (g3 b o e ne)
  ·rintro σ H2 ⟨x3,x4,rfl,g1,g2,g3⟩;rw[List.length_map,List.take_length] at g2;exact k H2 d g1 g2 g3
def jJ(s:Int)(lg:List Int):Bool:=JM.kW lg&&(decide (0<=s)&&decide (s<=255))
def xN(K:PySem.W.Frag)(u:cF):Sp:=fun vs H Q _=>∃(a:Addr) (s:Int) (lg:List Int),vs=[.int s,.ref a]/\SqL K H a (lg.map V.int)/\(∀n∈lg,0<=n/\n<=255)/\(jJ s lg=false->∀H',aq H H'->Q .non H')/\(jJ s lg=true->∀H' p,aq H H'->sS u H' p s lg->Q (.ref p) H')
theorem CJ:au ["strange", "legend"] ["strange", "legend"] (ae qi):=⟨rfl,rfl,rfl,by decide +kernel,rfl,by decide +kernel,by decide +kernel⟩
theorem zu(F:Fun K "read_signs" "read_signs" qi f fd)(T:Txt K w mg t)(T2:Tx2 K w mg u)(cLeg:Cal P w K mg base "is_legend" 2 ["legend"] (Ff K))(cByte:Cal P w K mg base "is_byte" 1 ["number"] vA)
  (mS:Mak P w K mg base "Signs" u.cS 4 ["self", "strange", "legend"] (xO K u)):aT P w K mg base CX0 6 f fd ["strange", "legend"] (xN K u):=by
 refine F.ok CJ (fun vs H Q E h=>?_) (fun cdv A outer s H vs Q E hr h=>?_)
 ·obtain⟨a,x,lg,rfl,_⟩:=h;rfl
 ·obtain⟨a,x,lg,rfl,hS,hn,k1,k2⟩:=h;refine⟨_,a4 (aP (PW.pt (iP (eg (fY (az cLeg hr (by decide) rfl (a0 (pv 1) a5)))) (fW (eg (fY (az cByte hr (by decide) rfl (a0 (pv 0) a5))))))) (a8 (ai cG)) aD)
   (a8 (ai (fo mS hr (by decide) rfl (a0 (pv 0) (a0 (pv 1) a5))))),?_⟩
  unfold jJ at k1 k2;refine⟨_,rfl,a,lg,rfl,hS,hn,fun H1 s1=>⟨_,rfl,?_⟩⟩
  cases el:JM.kW lg with
  |false=>
   rw[el] at k1;exact bh (bh (k1 rfl H1 s1))
  |true=>
   rw[el] at k1 k2;rw[Bool.true_and] at k1 k2;refine aZ ⟨_,rfl,x,rfl,_,rfl,?_⟩;cases eb:(decide (0<=x)&&decide (x<=255)) with
   |false=>exact bh (k1 eb H1 s1)
   |true=>
    refine aZ ⟨_,rfl,_,rfl,?_⟩;intro y dx ny ndx nex;have l64:lg.length=64:=by
     unfold JM.kW at el;rw[Bool.and_eq_true,decide_eq_true_eq] at el;exact el.1
    refine⟨y,dx,a,x,lg,rfl,a7,?_,l64,fun H3 d h3 h4 kp=>⟨rfl,k2 eb H3 y (s1.trans (aq.made ny ndx kp)) ⟨dx,d,h3,h4⟩⟩⟩
    have s2:aq H1 (upd (upd H1 dx (.own y)) y (.ins u.cS dx [])):=(ag ndx).trans (ag (by rw[af (Ne.symm nex)];exact ny))
    exact s2.seq (s1.seq hS)
noncomputable def vN(n:Nat):V:=.int (n:Int)
theorem Hi:∀i,i<10->7<=i->nV.lookup (oH i)=some (vN (JM.fR i)):=by decide +kernel
def Bx(t:Adr):Sp:=fun vs H Q _=>∃(a:Addr) (s:Nat) (ini:List JM.Pt) (x:JM.Pt),vs=[.ref a,vN s]/\dU H a (dc t) (ini++[x])/\(∀y∈ini++[x],JM.eB y)/\(ini++[x]).length<=64/\7<=x.1/\(JM.br (ini++[x])).length<=3/\
 ∀(H':Hp) (D:Addr),aq H H'->H' D=some (.lst ((JM.gy (JM.br (ini++[x])) (JM.fR x.1) s).map vN))->Q (.ref D) H'
theorem uX:au ["parts", "strange", "head", "key"] ["parts", "strange"] (ae xo):=⟨rfl,rfl,rfl,by decide +kernel,rfl,by decide +kernel,by decide +kernel⟩
theorem two_len(ks:List JM.Pt):(ks.flatMap fun k=>[JM.n0 k,JM.n1 k]).length=2 * ks.length:=by
 induction ks with
 |nil=>rfl
 |cons x ks ih=>
  rw[List.flatMap_cons,List.length_append,ih,List.length_cons];simp;omega
theorem Di(F:Fun K "setup_head" "setup_head" xo f fd)(T:Txt K w mg t)(T2:Tx2 K w mg u)(cKs:Cal P w K mg base "keys_of" 1 ["parts"] (kj t JM.isK))(cLst:Cal P w K mg base "listing_of" 1 ["parts"] (EW t)):aT P w K mg base CX0 2 f fd ["parts", "strange"] (Bx t):=by
 refine F.ok uX (fun vs H Q E h=>?_) (fun cdv A outer s H vs Q E hr h=>?_)
 ·obtain⟨a,x,ini,y,rfl,_⟩:=h;rfl
 ·obtain⟨a,st,ini,x,rfl,hE,ok,len,x7,k3,k⟩:=h;have hu:=eU hr;refine⟨_,a4 (ax (i:=2) uX.nd rfl (Or.inl rfl) (b9 a5))
   (a4 (bM PassesOwn.never rfl (lB rfl T2.zRev (a0 (az cKs hr (by decide) rfl (a0 (pv 0) a5)) a5)) (aH (i:=3) uX.nd rfl (Or.inl rfl))
    (a8 (aX (d5 PySem.F.plainAttrs_list PySem.F.slot_list_extend PySem.F.type_list_extend dI (pv 2) (a0 (b9 (a0 (bx hu (aI (pv 3) rfl) aA (fun _ _=>rfl)) (a0 (bx hu (aI (pv 3) rfl) aA (fun _ _=>rfl)) a5))) a5)))))
   (a4 (aX (d5 PySem.F.plainAttrs_list PySem.F.slot_list_extend PySem.F.type_list_extend dI (pv 2) (a0 (aQ uL (b9 (a0 ah a5)) (aQ fi (bH T2.kCtl rfl) (b6 aU rfl T.zLen PySem.boot_len (a0 (pv 2) a5)))) a5)))
   (a8 (ai (aQ mX (pv 2) (b9 (a0 (j5 (je T2.gL rfl) (az cLst hr (by decide) rfl (a0 (pv 0) a5)) (fun _ _=>rfl)) (a0 (bH T2.kNoP rfl) (a0 (pv 1) a5))))))))),?_⟩
  generalize hps:ini++[x]=ps at hE ok len k3 k;refine⟨Nat.zero_le _,fun D hD=>?_⟩
  have off:∀{H3:Hp} {o:HO},aq H H3->aq H (upd H3 D o):=fun s b o z=>by
   rw[af (a9 z hD)];exact s _ _ z
  refine⟨_,rfl,a,ps,rfl,hE.same (ag hD) (fun a x h=>h.same (ag hD)),ok,len,fun H1 q s1 nq e1=>?_⟩
  obtain⟨as,h1,h2,h3⟩:=e1.ex;have e0:ps.filter JM.isK=JM.br ps:=rfl;rw[e0] at h2 h3;have okk:∀y∈JM.br ps,JM.eB y/\JM.isK y=true:=fun y hy=>⟨ok y (List.mem_filter.mp hy).1,(List.mem_filter.mp hy).2⟩
  generalize JM.br ps=ks at h2 h3 okk k3 k;have S1:aq H H1:=(ag hD).trans s1;have hD1:H1 D=some (.lst []):=s1 _ _ a7;have nDq:D≠q:=a9 a7 nq;refine⟨q,_,rfl,SqL.of h1,wb (K:=K) (a:=q) (xs:=as.map V.ref) (fun i σ H'=>∃(x3:Option V),σ=[some (.ref a),some (vN st),some (.ref D),x3]/\aq H H'/\bZ D H1 H'/\H' D=some (.lst (((ks.reverse.take i).flatMap fun k=>[JM.n0 k,JM.n1 k]).map vN)))
   ⟨none,rfl,S1,bZ.refl,by rw[List.take_zero];exact hD1⟩ (by rintro i σ H' _ ⟨_,_,_,o,_⟩;exact SqL.of (o _ _ (Ne.symm nDq) h1)) ?_ ?_⟩
  ·rintro i y σ H3 hi ⟨x3,rfl,s3,o3,hD3⟩;rw[<-List.map_reverse] at hi;obtain⟨c,hc,rfl⟩:=d9 hi;have hil:=(List.getElem?_eq_some_iff.mp hc).1;rw[List.length_reverse] at hil;obtain⟨y,hy⟩:∃y,ks.reverse[i]?=some y:=⟨_,List.getElem?_eq_getElem (by rw[List.length_reverse];omega)⟩
   have hy':=hy;have hc':=hc;rw[List.getElem?_reverse hil] at hc';rw[List.getElem?_reverse (by omega),<-h2] at hy'
   have oky:=okk y (List.mem_of_getElem? hy');obtain⟨a',e',dx,d,g1,g2⟩:=jQ H1 H3 (.ref c) y [] hD1 o3 ⟨c,rfl,h3 _ c y hc' hy'⟩;cases e';have y23:=JM.cz.2.1.mp oky.2;have nm:=j1 oky.1 g2;refine⟨_,rfl,.inl ⟨rfl,_,SqL.of hD3⟩,_,rfl,c,t.cP,dx,_,_,rfl,g1,T.clP,T.nPn,dm _ _,d,_,rfl,nm.c (by omega),_,rfl,c,t.cP,dx,_,_,rfl,g1,T.clP,T.nPn,dm _ _,d,_,rfl,nm.n (by omega),(by show 2<=sizeLine;decide),fun E hE=>?_⟩
   have sE:=ag (o:=.lst [vN (JM.n0 y),vN (JM.n1 y)]) hE;refine⟨D,E,_,_,rfl,rfl,sE _ _ hD3,a7,?_,_,rfl,off (s3.trans sE),fun b o ne e=>?_,?_⟩
   ·rw[List.length_map,two_len,List.length_take,List.length_reverse];refine Nat.le_trans (m:=8) ?_ (by decide)
    show 2 * min i ks.length+2<=8;omega
   ·rw[af ne];exact sE _ _ (o3 b o ne e)
   ·rw[a7,bU hy,List.flatMap_append,List.map_append];rfl
  ·rintro σ H3 ⟨x3,rfl,s3,o3,hD3⟩;rw[List.take_of_length_le (by rw[List.length_reverse,List.length_map];omega)] at hD3
   have l2:=two_len ks.reverse;rw[List.length_reverse] at l2;refine⟨_,rfl,.inl ⟨rfl,_,SqL.of hD3⟩,(by show 1<=sizeLine;decide),fun Z hZ=>?_⟩
   have sZ:=ag (o:=.lst [V.int 0]) hZ;have hD4:=sZ _ _ hD3;have hZ4:upd H3 Z (.lst [V.int 0]) Z=some (.lst [V.int 0]):=a7;generalize upd H3 Z (.lst [V.int 0])=H4 at sZ hD4 hZ4;refine⟨_,rfl,D,_,rfl,.inl (SqL.of hD4),_,_,rfl,rfl,Z,_,_,rfl,rfl,hZ4,?_,?_,?_,fun R hR=>?_⟩
   ·rw[List.length_map,l2];omega
   ·rw[List.length_map,l2];omega
   ·rw[List.length_map,l2];refine Nat.le_trans (m:=6) ?_ (by decide)
    show 1 * _<=6;omega
   have sR:=ag (o:=.lst (List.replicate ((6:Int)-((((ks.reverse.flatMap fun k=>[JM.n0 k,JM.n1 k]).map vN).length:Nat):Int)).toNat [V.int 0]).flatten) hR
   have ez:(List.replicate ((6:Int)-((((ks.reverse.flatMap fun k=>[JM.n0 k,JM.n1 k]).map vN).length:Nat):Int)).toNat [V.int 0]).flatten=(List.replicate (6-2 * ks.length) 0).map vN:=by
    rw[List.length_map,l2,show((6:Int)-((2 * ks.length:Nat):Int)).toNat=6-2 * ks.length by omega]
    generalize 6-2 * ks.length=m
    induction m with
    |zero=>rfl
    |succ m ih=>rw[List.replicate_succ,List.flatten_cons,ih,List.replicate_succ];rfl
   refine⟨D,R,_,_,rfl,rfl,sR _ _ hD4,a7,?_,?_⟩
   ·rw[ez,List.length_map,List.length_map,l2,List.length_replicate];refine Nat.le_trans (m:=6) ?_ (by decide)
    omega
   rw[ez] at sR ⊢;have hD5:upd (upd H4 R (.lst ((List.replicate (6-2 * ks.length) 0).map vN))) D (.lst ((ks.reverse.flatMap fun k=>[JM.n0 k,JM.n1 k]).map vN++(List.replicate (6-2 * ks.length) 0).map vN)) D=some (.lst ((ks.reverse.flatMap fun k=>[JM.n0 k,JM.n1 k]).map vN++(List.replicate (6-2 * ks.length) 0).map vN)):=a7
   have S5:aq H (upd (upd H4 R (.lst ((List.replicate (6-2 * ks.length) 0).map vN))) D (.lst ((ks.reverse.flatMap fun k=>[JM.n0 k,JM.n1 k]).map vN++(List.replicate (6-2 * ks.length) 0).map vN))):=off ((s3.trans sZ).trans sR)
   generalize upd (upd H4 R (.lst ((List.replicate (6-2 * ks.length) 0).map vN))) D (.lst ((ks.reverse.flatMap fun k=>[JM.n0 k,JM.n1 k]).map vN++(List.replicate (6-2 * ks.length) 0).map vN))=H5 at hD5 S5
   have x10:x.1<10:=(ok x (by rw[<-hps];simp)).1
   refine⟨_,rfl,_,rfl,a,ini,x,rfl,by rw[hps];exact hE.same S5 (fun a x h=>h.same S5),u.aL,_,_,_,rfl,rfl,T2.dL,Hi x.1 x10 x7,_,rfl,(by show 3<=sizeLine;decide),fun L hL=>?_⟩
   have sL:=ag (o:=.lst [vN (JM.fR x.1),.int 0,vN st]) hL;refine⟨D,L,_,_,rfl,rfl,sL _ _ hD5,a7,?_,fun R' hR'=>k _ R' ((S5.trans sL).trans (ag hR')) ?_⟩
   ·rw[List.length_append,List.length_map,List.length_map,l2,List.length_replicate];refine Nat.le_trans (m:=9) ?_ (by decide)
    show _+3<=9;omega
   ·rw[a7];unfold JM.gy;rw[List.map_append,List.map_append];rfl
def nY:Sp:=fun vs H Q _=>∃(a:Addr) (xs:List V),vs=[.ref a]/\H a=some (.lst xs)/\xs.length<=3/\∀(H':Hp) (D:Addr),aq H H'->H D=none->H' D=some (.lst ((JM.bW xs.length).map vN))->Q (.ref D) H'
theorem Bw:au ["keys"] ["keys"] (ae md):=⟨rfl,rfl,rfl,by decide +kernel,rfl,by decide +kernel,by decide +kernel⟩
theorem yB(F:Fun K "setup_levels" "setup_levels" md f fd)(T:Txt K w mg t)(T2:Tx2 K w mg u):aT P w K mg base CX0 1 f fd ["keys"] nY:=by
 refine F.ok Bw (fun vs H Q E h=>?_) (fun cdv A outer s H vs Q E hr h=>?_)
 ·obtain⟨a,xs,rfl,_⟩:=h;rfl
 ·obtain⟨a,xs,rfl,ha,len,k⟩:=h;refine⟨_,a8 (ai (aQ mX (j9 (AY rfl) rfl T2.zList (show bootBuiltins "list" = some (.type "list") by decide +kernel) (a0 (j9 yJ rfl T2.zRange (show bootBuiltins "range" = some (.type "range") by decide +kernel) (a0 ah (a0 (aQ c8 (b6 aU rfl T.zLen PySem.boot_len (a0 (pv 0) a5)) ah) a5))) a5)) (b9 (a0 (bH T2.kLast rfl) a5)))),?_⟩
  refine⟨_,rfl,a,_,rfl,.inl (SqL.of ha),_,_,rfl,rfl,_,_,rfl,fun R hR=>?_⟩
  have sR:=ag (o:=.rng 1 ((xs.length:Int)+1)) hR;refine⟨R,1,xs.length,rfl,by rw[a7,Int.add_comm],by decide,by decide,by omega,fun L hL=>?_⟩
  have sL:=ag (o:=.lst ((List.range xs.length).map fun k=>V.int (1+(k:Nat)))) hL
  refine⟨(by show 1<=sizeLine;decide),fun F4 hF=>?_⟩
  have sF:=ag (o:=.lst [V.int 4]) hF;refine⟨L,F4,_,_,rfl,rfl,sF _ _ a7,a7,?_,fun D hD=>k _ D (((sR.trans sL).trans sF).trans (ag hD)) (((sR.trans sL).trans sF).free hD) ?_⟩
  ·rw[List.length_map,List.length_range];refine Nat.le_trans (m:=4) ?_ (by decide)
   show _+1<=4;omega
  ·rw[a7];unfold JM.bW;rw[List.map_append,List.map_map];congr 2;congr 1;apply List.map_congr_left;intro j _;show V.int (1+(j:Int))=V.int ((j+1:Nat):Int);congr 1;omega
def pV(t:Adr):Sp:=fun vs H Q _=>∃(a:Addr) (x:JM.Pt) (l:Nat),vs=[.ref a,vN l]/\dc t H a x/\JM.eB x/\JM.isT x=true/\∀(H':Hp) (v:V),aq H H'->gN H' v (JM.dW x l)->Q v H'
theorem yM:au ["total", "level"] ["total", "level"] (ae kb):=⟨rfl,rfl,rfl,by decide +kernel,rfl,by decide +kernel,by decide +kernel⟩
theorem uP(F:Fun K "total_counter" "total_counter" kb f fd)(T:Txt K w mg t)(T2:Tx2 K w mg u):aT P w K mg base CX0 1 f fd ["total", "level"] (pV t):=by
 refine F.ok yM (fun vs H Q E h=>?_) (fun cdv A outer s H vs Q E hr h=>?_)
 ·obtain⟨a,x,l,rfl,_⟩:=h;rfl
 ·obtain⟨a,x,l,rfl,⟨dx,d,ha,hd⟩,ok,ist,k⟩:=h;have hu:=eU hr;have x45:=JM.cz.2.2.1.mp ist;have nm:=j1 ok hd;refine⟨_,a4 (aP (aB bY (aI (pv 0) rfl) aA (aJ _)) (a8 (ai (bc (a0 (pv 1) (a0 (bH T2.kAdd1 rfl) (a0 ah (a0 ah (a0 ah (a0 ah a5))))))))) aD)
   (a8 (ai (bc (a0 (pv 1) (a0 (bH T2.kAdd0 rfl) (a0 (bx hu (aI (pv 0) rfl) aA (fun _ _=>rfl)) (a0 (bx hu (aI (pv 0) rfl) aA (fun _ _=>rfl)) (a0 ah (a0 ah a5))))))))),?_⟩
  refine⟨_,rfl,a,t.cP,dx,_,_,rfl,ha,T.clP,T.nPw,f6 _ _,rfl,_,rfl,?_⟩;rw[gh ok.1];unfold JM.dW at k;by_cases e5:x.1=5
  ·rw[decide_eq_true e5];rw[if_pos e5] at k;exact bh ⟨_,rfl,(by show 6<=sizeLine;decide),fun p hp=>k _ _ (ag hp) ⟨p,rfl,a7⟩⟩
  ·rw[decide_eq_false e5];rw[if_neg e5] at k;exact aZ ⟨_,rfl,_,rfl,a,t.cP,dx,_,_,rfl,ha,T.clP,T.nPn,dm _ _,d,_,rfl,nm.c (by omega),_,rfl,a,t.cP,dx,_,_,rfl,ha,T.clP,T.nPn,dm _ _,d,_,rfl,nm.n (by omega),(by show 6<=sizeLine;decide),fun p hp=>k _ _ (ag hp) ⟨p,rfl,a7⟩⟩
def mH(t:Adr):Sp:=fun vs H Q _=>∃(a b:Addr) (xs:List V) (ts:List JM.Pt),vs=[.ref a,.ref b]/\H a=some (.lst xs)/\xs.length<=3/\dU H b (dc t) ts/\(∀x∈ts,JM.eB x/\JM.isT x=true)/\ts.length<=8/\
 ∀(H':Hp) (D:Addr),aq H H'->bg H' D gN (JM.bV xs.length ts)->Q (.ref D) H'
theorem fI:au ["keys", "totals", "counters", "level", "total"] ["keys", "totals"] (ae gQ):=⟨rfl,rfl,rfl,by decide +kernel,rfl,by decide +kernel,by decide +kernel⟩
theorem tS:gv ["keys", "totals", "counters", "level", "total"] (ae gQ) (iE [(".0",.local),("total",.local),("total_counter",.globalImplicit),("level",.free)]) [("total",4)]=true:=by decide +kernel
theorem kD{α β:Type}(f:α->List β)(m:Nat):∀(l:List α),(∀x∈l,(f x).length<=m)->(l.flatMap f).length<=l.length * m
 |[],_=>by simp
 |x::l,h=>by
  have:=kD f m l fun y hy=>h y (by simp[hy])
  have h2:=h x (by simp)
  rw[List.flatMap_cons,List.length_append,List.length_cons,Nat.succ_mul];omega
theorem fK(k:Nat):(JM.bW k).length=k+1:=by
 unfold JM.bW;simp
theorem qC{l:List Nat}{i:Nat}{v:V}(h:(l.map vN)[i]?=some v):∃n,l[i]?=some n/\v=vN n:=by
 rw[List.getElem?_map] at h;cases e:l[i]? with
 |none=>rw[e] at h;cases h
 |some n=>rw[e] at h;exact⟨n,rfl,(Option.some.inj h).symm⟩
theorem tO(F:Fun K "setup_counters" "setup_counters" gQ f fd)(cLevels:Cal P w K mg base "setup_levels" 1 ["keys"] nY)(cCounter:Cal P w K mg base "total_counter" 1 ["total", "level"] (pV t)):aT P w K mg base CX0 2 f fd ["keys", "totals"] (mH t):=by
 refine F.ok fI (fun vs H Q E h=>?_) (fun cdv A outer s H vs Q E hr h=>?_)
 ·obtain⟨a,b,xs,ts,rfl,_⟩:=h;rfl
 ·obtain⟨a,b,xs,ts,rfl,ha,lx,⟨bs,b1,b2,b3⟩,ok,lt,k⟩:=h;refine⟨_,a4 (ax (i:=2) fI.nd rfl (Or.inl rfl) (b9 a5))
   (a4 (bM PassesOwn.never rfl (bu (az cLevels hr (by decide) rfl (a0 (pv 0) a5))) (aH (i:=3) fI.nd rfl (Or.inr rfl))
    (a8 (aX (d5 PySem.F.plainAttrs_list PySem.F.slot_list_extend PySem.F.type_list_extend dI (pv 2) (a0 (fG (own:=[("total",4)]) rfl fI.nd (bu (pv 1)) (bD tS) (fun s H C cl fp=>aH (i:=4) fI.nd rfl (Or.inl rfl)) (fun s H C cl fp=>dj)
     (fun s H C cl fp=>az cCounter hr (by decide) rfl (a0 (pv 4) (a0 (pv 3) a5)))) a5)))))
   (a8 (ai (pv 2)))),?_⟩
  refine⟨Nat.zero_le _,fun D hD=>?_⟩
  have sD:=ag (o:=.lst []) hD;have off:∀{H3:Hp} {o:HO},aq H H3->aq H (upd H3 D o):=fun s b o z=>by
   rw[af (a9 z hD)];exact s _ _ z
  refine⟨_,rfl,a,xs,rfl,sD _ _ ha,lx,fun H1 L s1 nL hL=>?_⟩
  have nDL:D≠L:=a9 a7 nL;have hD1:H1 D=some (.lst []):=s1 _ _ a7;have S1:aq H H1:=sD.trans s1;refine⟨L,rfl,⟨_,SqL.of hL⟩,d4 (K:=K) (a:=L) (xs:=(JM.bW xs.length).map vN) (fun i σ H'=>∃(x3 x4:Option V),σ=[some (.ref a),some (.ref b),some (.ref D),x3,x4]/\aq H H'/\bZ D H1 H'/\bg H' D gN (((JM.bW xs.length).take i).flatMap fun l=>ts.map fun x=>JM.dW x l))
   ⟨none,none,rfl,S1,bZ.refl,_,hD1,by rw[List.take_zero];exact .nil⟩ (by rintro i σ H' _ ⟨_,_,_,_,o,_⟩;exact SqL.of (o _ _ (Ne.symm nDL) hL)) ?_ ?_⟩
  ·rintro i y σ H2 hi ⟨x3,x4,rfl,s2,o2,E2⟩;obtain⟨l,hl,rfl⟩:=qC hi;have hil:=(List.getElem?_eq_some_iff.mp hl).1;rw[fK] at hil;obtain⟨vs,hv,pr⟩:=id E2;refine⟨_,rfl,.inl ⟨rfl,_,SqL.of hv⟩,_,rfl,b,rfl,⟨_,SqL.of (s2 _ _ b1)⟩,fun E hE=>?_⟩
   refine dH (xs:=ts) (p:=fun _=>true) (f:=fun x=>JM.dW x l) (S:=gN) (by rw[List.length_map];exact b2) (by omega) hE (SqL.of (s2 _ _ b1)) gX ?_ ?_
   ·intro j v x H3 hv hx s3 Fin Nx kY kN;obtain⟨c,hc,rfl⟩:=d9 hv;have okx:=ok x (List.mem_of_getElem? hx);exact⟨rfl,_,rfl,_,rfl,c,x,l,rfl,(b3 j c x hc hx).same (s2.trans s3),okx.1,okx.2,fun H5 v5 s5 r5=>kY rfl H5 v5 s5 r5⟩
   ·intro H3 s3 e3;rw[eQ] at e3;obtain⟨vs4,us4,g1,g2,g3,g4,g5⟩:=gU gX E2 s3 e3;refine⟨D,E,vs4,us4,rfl,rfl,g1,g2,?_,_,_,rfl,off (s2.trans s3),fun c o ne e=>?_,?_⟩
    ·have:=kD (fun l=>ts.map fun x=>JM.dW x l) 8 ((JM.bW xs.length).take i) fun y _=>by rw[List.length_map];exact lt
     rw[List.length_take,fK] at this;rw[g3,g4,List.length_map];refine Nat.le_trans (m:=100) ?_ (by decide)
     have:min i (xs.length+1) * 8<=4 * 8:=Nat.mul_le_mul_right _ (by omega)
     omega
    ·rw[af ne];exact s3 _ _ (o2 c o ne e)
    ·rw[bU hl,List.flatMap_append,List.flatMap_cons,List.flatMap_nil,List.append_nil];exact g5
  ·rintro σ H2 ⟨x3,x4,rfl,s2,o2,E2⟩;rw[List.length_map,List.take_length] at E2;exact⟨_,rfl,k H2 D s2 E2⟩
def isF(x:JM.Pt):Prop:=x.1=2\/x.1=3\/x.1=6
def xa(t:Adr):Sp:=fun vs H Q _=>∃(a:Addr) (x:JM.Pt) (l:Nat),vs=[.ref a,vN l]/\dc t H a x/\JM.eB x/\isF x/\∀(H':Hp) (v:V),aq H H'->gN H' v (JM.eN x l)->Q v H'
theorem wJ:au ["part", "line", "numbers"] ["part", "line"] (ae qX):=⟨rfl,rfl,rfl,by decide +kernel,rfl,by decide +kernel,by decide +kernel⟩
theorem Bd(F:Fun K "field_thing" "field_thing" qX f fd)(T:Txt K w mg t)(T2:Tx2 K w mg u):aT P w K mg base CX0 1 f fd ["part", "line"] (xa t):=by
 refine F.ok wJ (fun vs H Q E h=>?_) (fun cdv A outer s H vs Q E hr h=>?_)
 ·obtain⟨a,x,l,rfl,_⟩:=h;rfl
 ·obtain⟨a,x,l,rfl,⟨dx,d,ha,hd⟩,ok,isf,k⟩:=h;have hu:=eU hr;have nm:=j1 ok hd;unfold isF at isf;refine⟨_,a4 (ax (i:=2) wJ.nd rfl (Or.inl rfl) (aI (pv 0) rfl))
   (a8 (ai (bc (a0 (pv 1) (a0 (bH T2.kShF rfl) (a0 (bx hu (pv 2) aA (fun _ _=>rfl)) (a0 (bx hu (pv 2) aA (fun _ _=>rfl)) (a0 (bx hu (pv 2) aA (fun _ _=>rfl)) (a0 ah a5))))))))),?_⟩
  exact⟨_,rfl,a,t.cP,dx,_,_,rfl,ha,T.clP,T.nPn,dm _ _,_,rfl,_,rfl,d,_,rfl,nm.c (by omega),_,rfl,d,_,rfl,nm.n (by omega),_,rfl,d,_,rfl,nm.p (by omega),(by show 6<=sizeLine;decide),fun p hp=>k _ _ (ag hp) ⟨p,rfl,a7⟩⟩
def AG(t:Adr):Sp:=fun vs H Q _=>∃(a:Addr) (ks:List JM.Pt) (l:Nat),vs=[.ref a,vN l]/\dU H a (dc t) ks/\(l=4\/l<=ks.length+1)/\∀(H':Hp) (q:Addr),aq H H'->H q=none->dU H' q (dc t) (JM.ft ks l)->Q (.ref q) H'
theorem GL:au ["keys", "level"] ["keys", "level"] (ae xJ):=⟨rfl,rfl,rfl,by decide +kernel,rfl,by decide +kernel,by decide +kernel⟩
theorem Dc(F:Fun K "keys_from" "keys_from" xJ f fd)(T:Txt K w mg t)(T2:Tx2 K w mg u):aT P w K mg base CX0 1 f fd ["keys", "level"] (AG t):=by
 refine F.ok GL (fun vs H Q E h=>?_) (fun cdv A outer s H vs Q E hr h=>?_)
 ·obtain⟨a,x,l,rfl,_⟩:=h;rfl
 ·obtain⟨a,ks,l,rfl,⟨as,h1,h2,h3⟩,hl,k⟩:=h;refine⟨_,a4 (aP (aB bY (pv 1) (bH T2.kLast rfl) (aJ _)) (a8 (ai (b9 a5))) aD)
   (a8 (ai (gB iZ (pv 0) rR (fD (aQ fi (aQ c8 (b6 aU rfl T.zLen PySem.boot_len (a0 (pv 0) a5)) ah) (pv 1)))))),?_⟩
  refine⟨_,rfl,rfl,_,rfl,?_⟩;rw[show decide (vN l=V.int 4)=decide (l=4) from Ba l 4]
  unfold JM.ft at k;by_cases e4:l=4
  ·rw[decide_eq_true e4];rw[if_pos e4] at k;exact bh ⟨Nat.zero_le _,fun q hq=>k _ q (ag hq) hq ⟨[],a7,rfl,fun j a x h=>by cases h⟩⟩
  ·rw[decide_eq_false e4];rw[if_neg e4] at k;refine aZ ⟨_,rfl,_,rfl,a,_,rfl,.inl (SqL.of h1),_,_,rfl,rfl,_,rfl,_,_,rfl,rfl,_,rfl,a,_,rfl,SqL.of h1,fun q hq=>k _ q (ag hq) hq ?_⟩
   have e:ic (as.map V.ref) none (some (((as.map V.ref).length:Int)+1-(l:Int)))=(as.take (ks.length+1-l)).map V.ref:=by
    unfold ic;rw[List.length_map,h2,show((ks.length:Nat):Int)+1-(l:Int)=((ks.length+1-l:Nat):Int) by omega,HT.sIx_nat,HT.sIx_none,List.drop_zero,Nat.sub_zero,<-List.map_take]
    congr 1;rw[List.take_eq_take_iff];omega
   refine⟨as.take (ks.length+1-l),?_,by rw[List.length_take,List.length_take,h2],fun j c x hc hx=>?_⟩
   ·rw[a7];exact congrArg (fun z=>some (HO.lst z)) e
   ·rw[List.getElem?_take] at hc hx;by_cases hj:j<ks.length+1-l
    ·rw[if_pos hj] at hc hx;exact(h3 j c x hc hx).same (ag hq)
    ·rw[if_neg hj] at hc;cases hc
theorem du{H H':Hp}{y:V}{z:List Nat}(s:aq H H')(h:gN H y z):gN H' y z:=by
 obtain⟨a,e,h1⟩:=h;exact⟨a,e,s _ _ h1⟩
theorem cQ{β:Type}{S:Hp->V->β->Prop}{H H':Hp}{p:Addr}{ys:List β}(ms:∀y z,S H y z->S H' y z)(s:aq H H')(h:bg H p S ys):bg H' p S ys:=by
 obtain⟨vs,e,pr⟩:=h;exact⟨vs,s _ _ e,Paired.mapP pr fun a b=>ms a b⟩
def uR(ks ts:List JM.Pt)(ls:List Nat):List (List Nat):=ls.zipIdx.flatMap fun l=>((JM.ft ks l.1).map fun k=>JM.eN k l.1)++JM.di ts l.1 (l.2 * ts.length)
theorem yo(ks ts:List JM.Pt)(ls:List Nat)(l:Nat):uR ks ts (ls++[l])=uR ks ts ls++(((JM.ft ks l).map fun k=>JM.eN k l)++JM.di ts l (ls.length * ts.length)):=by
 unfold uR;rw[List.zipIdx_append,List.flatMap_append];simp
theorem sV(ts:List JM.Pt)(x:JM.Pt)(l c:Nat):JM.di (ts++[x]) l c=JM.di ts l c++[[l,1,c+ts.length,0,JM.atT x,JM.wT x]]:=by
 unfold JM.di;rw[List.zipIdx_append,List.map_append];simp
theorem oa(ts:List JM.Pt)(l c:Nat):(JM.di ts l c).length=ts.length:=by
 unfold JM.di;rw[List.length_map,List.length_zipIdx]
theorem kx(ks:List JM.Pt)(l:Nat):(JM.ft ks l).length<=ks.length:=by
 unfold JM.ft;split
 ·exact Nat.zero_le _
 ·rw[List.length_take];omega
theorem zZ{ks:List JM.Pt}{l:Nat}{x:JM.Pt}(h:x∈JM.ft ks l):x∈ks:=by
 unfold JM.ft at h;split at h
 ·cases h
 ·exact List.mem_of_mem_take h
theorem sQ(ks ts:List JM.Pt):∀(ls:List Nat) (o:Nat),((ls.zipIdx o).flatMap fun l=>((JM.ft ks l.1).map fun k=>JM.eN k l.1)++JM.di ts l.1 (l.2 * ts.length)).length<=ls.length * (ks.length+ts.length)
 |[],_=>by simp
 |l::ls,o=>by
  have:=sQ ks ts ls (o+1);have h2:=kx ks l;rw[List.zipIdx_cons,List.flatMap_cons,List.length_append,List.length_append,List.length_map,oa,List.length_cons,Nat.succ_mul];dsimp only at this ⊢;omega
theorem G9(ok:JM.eB x)(ist:JM.isT x=true){H:Hp}{d:Addr}(nm:Cy H d x):dD H d "P" (JM.atT x)/\dD H d "W" (JM.wT x):=by
 have x45:=JM.cz.2.2.1.mp ist;unfold JM.atT JM.wT;rcases x45 with e | e
 ·rw[if_neg (by omega),if_neg (by omega)]
  exact⟨nm.p (by omega),nm.w4 e⟩
 ·rw[if_pos e,if_pos e];exact⟨nm.p5 e,nm.w5 e⟩
def sI(t:Adr):Sp:=fun vs H Q _=>∃(a b c:Addr) (ks ts ss:List JM.Pt),vs=[.ref a,.ref b,.ref c]/\dU H a (dc t) ks/\(∀x∈ks,JM.eB x/\JM.isK x=true)/\ks.length<=3/\dU H b (dc t) ts/\(∀x∈ts,JM.eB x/\JM.isT x=true)/\ts.length<=8/\
 dU H c (dc t) ss/\(∀x∈ss,JM.eB x/\JM.isS x=true)/\ss.length<=16/\∀(H':Hp) (D:Addr),aq H H'->bg H' D gN (JM.dE ks ts ss)->Q (.ref D) H'
theorem eI:au ["keys", "totals", "seens", "things", "counter", "level", "total", "seen", "key"] ["keys", "totals", "seens"] (ae j2):=⟨rfl,rfl,rfl,by decide +kernel,rfl,by decide +kernel,by decide +kernel⟩
theorem Hq:gv ["keys", "totals", "seens", "things", "counter", "level", "total", "seen", "key"] (ae j2) (iE [(".0",.local),("seen",.local),("field_thing",.globalImplicit),("CARD_LINE",.globalImplicit)]) [("seen",7)]=true:=by decide +kernel
theorem Fi:gv ["keys", "totals", "seens", "things", "counter", "level", "total", "seen", "key"] (ae j2) (iE [(".0",.local),("key",.local),("field_thing",.globalImplicit),("level",.free)]) [("key",8)]=true:=by decide +kernel
theorem yt(F:Fun K "setup_things" "setup_things" j2 f fd)(T:Txt K w mg t)(T2:Tx2 K w mg u)(cLevels:Cal P w K mg base "setup_levels" 1 ["keys"] nY)(cThing:Cal P w K mg base "field_thing" 1 ["part", "line"] (xa t))(cFrom:Cal P w K mg base "keys_from" 1 ["keys", "level"] (AG t)) :
  aT P w K mg base CX0 2 f fd ["keys", "totals", "seens"] (sI t):=by
 refine F.ok eI (fun vs H Q E h=>?_) (fun cdv A outer s H vs Q E hr h=>?_)
 ·obtain⟨a,b,c,ks,ts,ss,rfl,_⟩:=h;rfl
 ·obtain⟨a,b,c,ks,ts,ss,rfl,eK,okK,lK,⟨bs,b1,b2,b3⟩,okT,lT,⟨cs,c1,c2,c3⟩,okS,lS,k⟩:=h;have hu:=eU hr;refine⟨_,a4 (iF (own:=[("seen",7)]) (i:=3) rfl eI.nd rfl rfl (kf rfl rfl rfl rfl) (bu (pv 2)) (bD Hq) (fun s H C cl fp=>aH (i:=7) eI.nd rfl (Or.inl rfl)) (fun s H C cl fp=>dj) (fun s H C cl fp=>az cThing hr (by decide) rfl (a0 (pv 7) (a0 (bH T2.kCard rfl) a5))))
   (a4 (ax (i:=4) eI.nd rfl (Or.inl rfl) ah)
   (a4 (bM PassesOwn.never rfl (bu (az cLevels hr (by decide) rfl (a0 (pv 0) a5))) (aH (i:=5) eI.nd rfl (Or.inr rfl))
    (a4 (aX (d5 PySem.F.plainAttrs_list PySem.F.slot_list_extend PySem.F.type_list_extend dI (pv 3) (a0 (fG (own:=[("key",8)]) rfl eI.nd (bu (az cFrom hr (by decide) rfl (a0 (pv 0) (a0 (pv 5) a5)))) (bD Fi) (fun s H C cl fp=>aH (i:=8) eI.nd rfl (Or.inl rfl)) (fun s H C cl fp=>dj)
     (fun s H C cl fp=>az cThing hr (by decide) rfl (a0 (pv 8) (a0 (pv 5) a5)))) a5)))
    (a8 (bM PassesOwn.never rfl (bu (pv 1)) (aH (i:=6) eI.nd rfl (Or.inl rfl))
     (a4 (aX (d5 PySem.F.plainAttrs_list PySem.F.slot_list_append PySem.F.type_list_append bF (pv 3) (a0 (bc (a0 (pv 5) (a0 (bH T2.kShC rfl) (a0 (pv 4) (a0 ah (a0 (bx hu (aI (pv 6) rfl) aA (fun _ _=>rfl)) (a0 (bx hu (aI (pv 6) rfl) aA (fun _ _=>rfl)) a5))))))) a5)))
     (a8 (vt (i:=4) eI.nd rfl (Or.inl rfl) ah nN)))))))
   (a8 (ai (pv 3))))),?_⟩
  refine⟨_,rfl,c,rfl,⟨_,SqL.of c1⟩,fun D hD=>?_⟩
  have off:∀{H3:Hp} {o:HO},aq H H3->aq H (upd H3 D o):=fun s b o z=>by
   rw[af (a9 z hD)];exact s _ _ z
  refine dH (xs:=ss) (p:=fun _=>true) (f:=fun x=>JM.eN x 0) (S:=gN) (by rw[List.length_map];exact c2) (by omega) hD (SqL.of c1) gX ?_ ?_
  ·intro j v x H3 hv hx s3 Fin Nx kY kN;obtain⟨e,he,rfl⟩:=d9 hv;have okx:=okS x (List.mem_of_getElem? hx);have x6:=JM.cz.2.2.2.mp okx.2;exact⟨rfl,_,rfl,e,x,0,rfl,(c3 j e x he hx).same s3,okx.1,.inr (.inr x6),fun H5 v5 s5 r5=>kY rfl H5 v5 s5 r5⟩
  intro H0 s0 E0';rw[eQ] at E0';obtain⟨v0,hv0,pr0⟩:=id E0';obtain⟨as,a1,a2,a3⟩:=eK.ex;refine⟨_,rfl,a,_,rfl,s0 _ _ a1,by rw[List.length_map,a2];exact lK,fun H1 L s1 nL hL=>?_⟩
  rw[List.length_map,a2] at hL;have nDL:D≠L:=a9 hv0 nL;have S1:aq H H1:=s0.trans s1;have hD1:=s1 _ _ hv0;have E1:bg H1 D gN (ss.map fun x=>JM.eN x 0):=cQ (fun _ _=>du s1) s1 E0'
  refine⟨L,rfl,⟨_,SqL.of hL⟩,d4 (K:=K) (a:=L) (xs:=(JM.bW ks.length).map vN) (fun i σ H'=>∃(x5 x6 x7 x8:Option V),σ=[some (.ref a),some (.ref b),some (.ref c),some (.ref D),some (vN (i * ts.length)),x5,x6,x7,x8]/\aq H H'/\bZ D H1 H'/\bg H' D gN ((ss.map fun x=>JM.eN x 0)++uR ks ts ((JM.bW ks.length).take i)))
   ⟨none,none,none,none,by rw[Nat.zero_mul];rfl,S1,bZ.refl,by rw[List.take_zero];exact(List.append_nil _).symm ▸ E1⟩ (by rintro i σ H' _ ⟨_,_,_,_,_,_,o,_⟩;exact SqL.of (o _ _ (Ne.symm nDL) hL)) ?_ ?_⟩
  ·rintro i y σ H2 hi ⟨x5,x6,x7,x8,rfl,s2,o2,E2⟩;obtain⟨l,hl,rfl⟩:=qC hi;have hil:=(List.getElem?_eq_some_iff.mp hl).1;rw[fK] at hil;have l4:l=4\/l<=ks.length+1:=by
    have:=List.mem_of_getElem? hl;unfold JM.bW at this;rcases List.mem_append.mp this with z | z
    ·obtain⟨j,hj,rfl⟩:=List.mem_map.mp z;have:=List.mem_range.mp hj;exact .inr (by omega)
    ·exact .inl (List.mem_singleton.mp z)
   obtain⟨vs,hv,pr⟩:=id E2;have ltot:((ss.map fun x=>JM.eN x 0)++uR ks ts ((JM.bW ks.length).take i)).length<=100:=by
    have:=sQ ks ts ((JM.bW ks.length).take i) 0;rw[List.length_take,fK] at this;rw[List.length_append,List.length_map];have h5:min i (ks.length+1) * (ks.length+ts.length)<=4 * 11:=Nat.mul_le_mul (by omega) (by omega)
    have:(uR ks ts ((JM.bW ks.length).take i)).length<=min i (ks.length+1) * (ks.length+ts.length):=this;omega
   refine⟨_,rfl,.inl ⟨rfl,_,SqL.of hv⟩,_,rfl,_,rfl,a,ks,l,rfl,eK.same s2 (fun a x h=>h.same s2),l4,fun H3 q s3 nq e3=>?_⟩
   obtain⟨qs,q1,q2,q3⟩:=e3.ex;refine⟨q,rfl,⟨_,SqL.of q1⟩,fun E hE=>?_⟩
   refine dH (xs:=JM.ft ks l) (p:=fun _=>true) (f:=fun x=>JM.eN x l) (S:=gN) (by rw[List.length_map];exact q2) (Nat.le_trans (kx ks l) (by omega)) hE (SqL.of q1) gX ?_ ?_
   ·intro j v x H4 hv hx s4 Fin Nx kY kN;obtain⟨e,he,rfl⟩:=d9 hv;have okx:=okK x (zZ (List.mem_of_getElem? hx));have x23:=JM.cz.2.1.mp okx.2;exact⟨rfl,_,rfl,_,rfl,e,x,l,rfl,(q3 j e x he hx).same s4,okx.1,x23.elim .inl (fun z=>.inr (.inl z)),fun H5 v5 s5 r5=>kY rfl H5 v5 s5 r5⟩
   ·intro H4 s4 e4;rw[eQ] at e4;obtain⟨vs4,us4,g1,g2,g3,g4,g5⟩:=gU gX E2 (s3.trans s4) e4;refine⟨D,E,vs4,us4,rfl,rfl,g1,g2,?_,?_⟩
    ·have:=kx ks l;rw[g3,g4,List.length_map];refine Nat.le_trans (m:=200) ?_ (by decide)
     omega
    have S5:aq H (upd H4 D (.lst (vs4++us4))):=off ((s2.trans s3).trans s4);have O5:bZ D H1 (upd H4 D (.lst (vs4++us4))):=fun z o ne e=>by
     rw[af ne];exact s4 _ _ (s3 _ _ (o2 z o ne e))
    generalize upd H4 D (.lst (vs4++us4))=H5 at g5 S5 O5;refine⟨_,rfl,b,rfl,⟨_,SqL.of (S5 _ _ b1)⟩,d4 (K:=K) (a:=b) (xs:=bs.map V.ref) (fun j σ H'=>∃(y6 y7 y8:Option V),σ=[some (.ref a),some (.ref b),some (.ref c),some (.ref D),some (vN (i * ts.length+j)),some (vN l),y6,y7,y8]/\aq H H'/\bZ D H1 H'/\bg H' D gN ((((ss.map fun x=>JM.eN x 0)++uR ks ts ((JM.bW ks.length).take i))++(JM.ft ks l).map fun x=>JM.eN x l)++JM.di (ts.take j) l (i * ts.length)))
     ⟨x6,x7,x8,rfl,S5,O5,by rw[List.take_zero];exact(List.append_nil _).symm ▸ g5⟩ (by rintro j σ H' _ ⟨_,_,_,_,s,_⟩;exact SqL.of (s _ _ b1)) ?_ ?_⟩
    ·rintro j y σ H6 hj ⟨y6,y7,y8,rfl,s6,o6,E6⟩;obtain⟨e,he,rfl⟩:=d9 hj;have hjl:=(List.getElem?_eq_some_iff.mp he).1;obtain⟨x,hx⟩:∃x,ts[j]?=some x:=⟨_,List.getElem?_eq_getElem (by omega)⟩
     have okx:=okT x (List.mem_of_getElem? hx);obtain⟨dx,d,g6,g7⟩:=(b3 j e x he hx).same s6;obtain⟨np,nw⟩:=G9 okx.1 okx.2 (j1 okx.1 g7);obtain⟨vs6,hv6,pr6⟩:=id E6;refine⟨_,rfl,.inl ⟨rfl,_,SqL.of hv6⟩,_,rfl,_,rfl,_,rfl,e,t.cP,dx,_,_,rfl,g6,T.clP,T.nPn,dm _ _,d,_,rfl,np,_,rfl,e,t.cP,dx,_,_,rfl,g6,T.clP,T.nPn,dm _ _,d,_,rfl,nw,(by show 6<=sizeLine;decide),fun p hp=>?_⟩
     have r7:gN (upd H6 p (.tup [vN l,.int 1,vN (i * ts.length+j),.int 0,vN (JM.atT x),vN (JM.wT x)])) (.ref p) [l,1,i * ts.length+j,0,JM.atT x,JM.wT x]:=⟨p,rfl,a7⟩;obtain⟨vs7,f1,f2,f3⟩:=df gX E6 (ag hp) r7;refine⟨D,vs7,.ref p,rfl,rfl,f1,?_,_,rfl,_,_,rfl,rfl,?_⟩
     ·rw[f2,List.length_append,List.length_append,List.length_map,oa,List.length_take];have:=kx ks l;refine Nat.lt_of_le_of_lt (m:=300) ?_ (by decide)
      omega
     ·refine⟨_,_,_,rfl,off (s6.trans (ag hp)),fun z o ne e=>?_,?_⟩
      ·rw[af ne];exact ag hp _ _ (o6 z o ne e)
      ·rw[bU hx,sV,List.length_take,show min j ts.length=j by omega,<-List.append_assoc]
       exact f3
    ·rintro σ H6 ⟨y6,y7,y8,rfl,s6,o6,E6⟩;rw[List.length_map,b2,List.take_length] at E6;refine⟨some (vN l),y6,y7,y8,?_,s6,o6,?_⟩
     ·rw[List.length_map,b2,Nat.succ_mul]
     ·rw[bU hl,yo,List.length_take,fK,show min i (ks.length+1)=i by omega,<-List.append_assoc,<-List.append_assoc]
      exact E6
  ·rintro σ H2 ⟨x5,x6,x7,x8,rfl,s2,o2,E2⟩;rw[List.length_map,List.take_length] at E2;exact⟨_,rfl,k H2 D s2 E2⟩
def yW(u:cF)(H:Hp)(p:Addr)(ps:List JM.Pt)(k:Nat)(s:Int)(lg:List Int):Prop:=∃dx hd sg ct th,H p=some (.ins u.cU dx [("head",.ref hd),("signs",.ref sg),("counters",.ref ct),("things",.ref th)])/\
 H hd=some (.lst ((JM.gy (JM.br ps) (JM.fR k) s.toNat).map vN))/\sS u H sg s lg/\bg H ct gN (JM.bV (JM.br ps).length (JM.dn ps))/\bg H th gN (JM.dE (JM.br ps) (JM.dn ps) (JM.jx ps))
def Jk(u:cF)(H:Hp)(p:Addr)(ps:List JM.Pt)(k:Nat)(s:Int)(lg:List Int):Prop:=∃dx pn st jb,H p=some (.ins u.cL dx [("passes",vN ((ps.map JM.cf).sum)),("panel",.ref pn),("setup",.ref st),("job",.ref jb)])/\
 bg H pn WrV (JM.eO (JM.gr ps))/\yW u H st ps k s lg/\bg H jb jX (JM.E9 (JM.br ps))
theorem yW.same{u:cF}{H H':Hp}{p:Addr}{ps:List JM.Pt}{k:Nat}{s:Int}{lg:List Int}(sm:aq H H')(h:yW u H p ps k s lg):yW u H' p ps k s lg:=by
 obtain⟨dx,hd,sg,ct,th,h1,h2,h3,h4,h5⟩:=h;exact⟨dx,hd,sg,ct,th,sm _ _ h1,sm _ _ h2,h3.same sm,cQ (fun _ _=>du sm) sm h4,cQ (fun _ _=>du sm) sm h5⟩
def zU(t:Adr)(u:cF):Sp:=fun vs H Q _=>∃(a g:Addr) (ini:List JM.Pt) (x:JM.Pt) (s:Int) (lg:List Int),vs=[.ref a,.ref g]/\dU H a (dc t) (ini++[x])/\(∀y∈ini++[x],JM.eB y)/\(ini++[x]).length<=64/\7<=x.1/\
 ((JM.gr (ini++[x])).length<=16/\(JM.br (ini++[x])).length<=3/\(JM.dn (ini++[x])).length<=8/\(JM.jx (ini++[x])).length<=16)/\sS u H g s lg/\0<=s/\
 ∀(H':Hp) (p:Addr),aq H H'->Jk u H' p (ini++[x]) x.1 s lg->Q (.ref p) H'
theorem kQ:au ["parts", "signs", "keys", "totals", "head", "things", "setup"] ["parts", "signs"] (ae wk):=⟨rfl,rfl,rfl,by decide +kernel,rfl,by decide +kernel,by decide +kernel⟩
theorem DG(F:Fun K "make_plan" "make_plan" wk f fd)(T:Txt K w mg t)(T2:Tx2 K w mg u)(cWs:Cal P w K mg base "wheres_of" 1 ["parts"] (kj t JM.isW))(cKs:Cal P w K mg base "keys_of" 1 ["parts"] (kj t JM.isK))(cTs:Cal P w K mg base "totals_of" 1 ["parts"] (kj t JM.isT))(cSs:Cal P w K mg base "seens_of" 1 ["parts"] (kj t JM.isS))
  (cHead:Cal P w K mg base "setup_head" 2 ["parts", "strange"] (Bx t)) (cThings:Cal P w K mg base "setup_things" 2 ["keys", "totals", "seens"] (sI t)) (cCounters:Cal P w K mg base "setup_counters" 2 ["keys", "totals"] (mH t)) (cPasses:Cal P w K mg base "report_passes" 2 ["parts"] (uf t))
  (cPanel:Cal P w K mg base "plan_panel" 2 ["wheres"] (wH t)) (cJob:Cal P w K mg base "plan_job" 3 ["keys"] (Fb t)) (mU:Mak P w K mg base "Setup" u.cU 1 ["self", "head", "signs", "counters", "things"] (xr u)) (mL:Mak P w K mg base "Plan" u.cL 1 ["self", "passes", "panel", "setup", "job"] (xF u)) :
  aT P w K mg base CX0 4 f fd ["parts", "signs"] (zU t u):=by
 refine F.ok kQ (fun vs H Q E h=>?_) (fun cdv A outer s H vs Q E hr h=>?_)
 ·obtain⟨a,g,ini,x,s,lg,rfl,_⟩:=h;rfl
 ·obtain⟨a,g,ini,x,st,lg,rfl,eP,ok,len,x7,gA,⟨sdx,sd,g1,g2⟩,st0,k⟩:=h;refine⟨_,a4 (ax (i:=2) kQ.nd rfl (Or.inl rfl) (az cKs hr (by decide) rfl (a0 (pv 0) a5)))
   (a4 (ax (i:=3) kQ.nd rfl (Or.inl rfl) (az cTs hr (by decide) rfl (a0 (pv 0) a5)))
   (a4 (ax (i:=4) kQ.nd rfl (Or.inl rfl) (az cHead hr (by decide) rfl (a0 (pv 0) (a0 (aI (pv 1) rfl) a5))))
   (a4 (ax (i:=5) kQ.nd rfl (Or.inl rfl) (az cThings hr (by decide) rfl (a0 (pv 2) (a0 (pv 3) (a0 (az cSs hr (by decide) rfl (a0 (pv 0) a5)) a5)))))
   (a4 (ax (i:=6) kQ.nd rfl (Or.inl rfl) (fo mU hr (by decide) rfl (a0 (pv 4) (a0 (pv 1) (a0 (az cCounters hr (by decide) rfl (a0 (pv 2) (a0 (pv 3) a5))) (a0 (pv 5) a5))))))
   (a8 (ai (fo mL hr (by decide) rfl (a0 (az cPasses hr (by decide) rfl (a0 (pv 0) a5)) (a0 (az cPanel hr (by decide) rfl (a0 (az cWs hr (by decide) rfl (a0 (pv 0) a5)) a5)) (a0 (pv 6) (a0 (az cJob hr (by decide) rfl (a0 (pv 2) a5)) a5))))))))))),?_⟩
  generalize hps:ini++[x]=ps at eP ok len gA k;have mem:∀(p:JM.Pt->Bool) (y:JM.Pt),y∈ps.filter p->JM.eB y/\p y=true:=fun p y hy=>⟨ok y (List.mem_filter.mp hy).1,(List.mem_filter.mp hy).2⟩
  have eS:∀{H':Hp},aq H H'->dU H' a (dc t) ps:=fun s=>eP.same s (fun a x h=>h.same s)
  refine⟨_,rfl,a,ps,rfl,eP,ok,len,fun H1 q1 s1 n1 e1=>?_⟩
  refine⟨_,rfl,a,ps,rfl,eS s1,ok,len,fun H2 q2 s2 n2 e2=>?_⟩
  have S2:=s1.trans s2;refine⟨_,rfl,_,rfl,g,u.cS,sdx,_,_,rfl,S2 _ _ g1,T2.clS,T2.nSs,om _ _,a,st.toNat,ini,x,?_,by rw[hps];exact eS S2,by rw[hps];exact ok,by rw[hps];exact len,x7,by rw[hps];exact gA.2.1,fun H3 q3 s3 e3=>?_⟩
  ·show[V.ref a,V.int st]=[V.ref a,V.int ((st.toNat:Nat):Int)];rw[Int.toNat_of_nonneg st0]
  rw[hps] at e3;have S3:=S2.trans s3;have k1:∀{H':Hp},aq H1 H'->dU H' q1 (dc t) (JM.br ps):=fun s=>e1.same s (fun a x h=>h.same s)
  have k2:∀{H':Hp},aq H2 H'->dU H' q2 (dc t) (JM.dn ps):=fun s=>e2.same s (fun a x h=>h.same s)
  refine⟨_,rfl,_,rfl,_,rfl,a,ps,rfl,eS S3,ok,len,fun H4 q4 s4 n4 e4=>?_⟩
  refine⟨q1,q2,q4,JM.br ps,JM.dn ps,JM.jx ps,rfl,k1 ((s2.trans s3).trans s4),mem JM.isK,gA.2.1,k2 (s3.trans s4),mem JM.isT,gA.2.2.1,e4,mem JM.isS,gA.2.2.2,fun H5 q5 s5 e5=>?_⟩
  have S5:=(S3.trans s4).trans s5;have s15:aq H1 H5:=((s2.trans s3).trans s4).trans s5;have s25:aq H2 H5:=(s3.trans s4).trans s5;obtain⟨as,a1,a2,a3⟩:=(k1 s15).ex;refine⟨_,rfl,_,rfl,_,rfl,_,rfl,q1,q2,_,JM.dn ps,rfl,a1,by rw[List.length_map,a2];exact gA.2.1,k2 s25,mem JM.isT,gA.2.2.1,fun H6 q6 s6 e6=>⟨_,rfl,?_⟩⟩
  rw[List.length_map,a2] at e6;intro y dx ny ndx nex;refine⟨y,dx,_,_,_,_,rfl,a7,fun H7 h7 kp=>⟨rfl,?_⟩⟩
  have s7:aq H6 H7:=aq.made ny ndx kp;have S7:=(S5.trans s6).trans s7;have su:yW u H7 y ps x.1 st lg:=by
   refine⟨dx,q3,g,q6,q5,h7,(((s4.trans s5).trans s6).trans s7) _ _ e3,⟨sdx,sd,S7 _ _ g1,S7 _ _ g2⟩,cQ (fun _ _=>du s7) s7 e6,?_⟩
   have s57:=s6.trans s7;exact cQ (fun _ _=>du s57) s57 e5
  refine⟨_,rfl,a,ps,rfl,eS S7,ok,len,fun H8 s8=>?_⟩
  refine⟨_,rfl,a,ps,rfl,eS (S7.trans s8),ok,len,fun H9 q9 s9 n9 e9=>?_⟩
  refine⟨q9,JM.gr ps,rfl,e9,mem JM.isW,gA.1,fun H10 q10 s10 e10=>?_⟩
  have s7_10:=(s8.trans s9).trans s10;refine⟨_,rfl,_,rfl,q1,JM.br ps,rfl,k1 (((s15.trans s6).trans s7).trans s7_10),mem JM.isK,gA.2.1,fun H11 q11 s11 e11=>?_⟩
  intro z dz nz ndz nez;refine⟨z,dz,_,_,_,_,rfl,a7,fun H12 h12 kp2=>⟨rfl,k H12 z ?_ ?_⟩⟩
  ·exact((S7.trans s7_10).trans s11).trans (aq.made nz ndz kp2)
  ·have s12:aq H11 H12:=aq.made nz ndz kp2;refine⟨dz,q10,y,q11,h12,?_,su.same ((s7_10.trans s11).trans s12),cQ (fun _ _=>tW s12) s12 e11⟩
   have s1012:=s11.trans s12;exact cQ (fun _ _=>m6 s1012) s1012 e10
end
abbrev wK:Stmt:=top 11
abbrev wc:Stmt:=top 12
abbrev qK:Stmt:=top 13
def gw(H:Hp)(a:Addr)(x:Pu.Card):Prop:=H a=some (.lst (x.map vN))
theorem gw.same{H H':Hp}{a:Addr}{x:Pu.Card}(s:aq H H')(h:gw H a x):gw H' a x:=s _ _ h
theorem Ej{X:Cx}:MtR X "int.bit_length" (fun x xs H Q=>∃i:Int,x=.int i/\xs=[]/\Q (.int ((Builtin.Int.intBits i:Nat):Int)) H):=by
 intro pins s σ H x xs v us Q I rx rv h;obtain⟨i,rfl,rfl,q⟩:=h;obtain⟨t,rfl⟩:=rx;rw[aY.zero rv];exact PyProof.Rows.call_int_bit_length ⟨.int _,H,I.tok _,⟨_,rfl⟩,q⟩
section
variable{P:Program}{w:World}{K:PySem.W.Frag}{mg:Str->Option Value}{base:Heap}{t:Adr}{f:Addr}{fd:FuncData}
def A9:Sp:=fun vs H Q _=>∃h r:Nat,vs=[vN h,vN r]/\Q (.bl (h.testBit r)) H
theorem Hj:au ["holes", "row"] ["holes", "row"] (ae wK):=⟨rfl,rfl,rfl,by decide +kernel,rfl,by decide +kernel,by decide +kernel⟩
theorem DO(F:Fun K "has_row" "has_row" wK f fd):aT P w K mg base CX0 1 f fd ["holes", "row"] A9:=by
 refine F.ok Hj (fun vs H Q E h=>?_) (fun cdv A outer s H vs Q E hr h=>?_)
 ·obtain⟨h,r,rfl,_⟩:=h;rfl
 ·obtain⟨h,r,rfl,k⟩:=h;refine⟨_,a8 (ai (e7 bY (aQ vi (aQ G5 (pv 0) (pv 1)) ah) ah (aJ _))),?_⟩;refine⟨_,rfl,_,rfl,_,_,rfl,rfl,(by show(0:Int)<=(r:Int);omega),_,_,rfl,rfl,rfl,?_⟩
  have e:decide (V.int (Builtin.bitAnd ((h:Int) / 2 ^ ((r:Int)).toNat) 1)=V.int 1)=h.testBit r:=by
   rw[gk,bitAnd_m1,Int.toNat_natCast,Nat.testBit_eq_decide_div_mod_eq];have e2:(h:Int) / 2 ^ r % 2=((h / 2 ^ r % 2:Nat):Int):=by
    rw[Int.natCast_emod,Int.natCast_ediv,Int.natCast_pow];rfl
   rw[e2];apply Bool.eq_iff_iff.mpr;simp;omega
  rw[<-e] at k;exact k
def B0:Sp:=fun vs H Q _=>∃h:Nat,vs=[vN h]/\h<4096/\Q (vN (Pu.topOf h)) H
theorem Fx:au ["holes"] ["holes"] (ae wc):=⟨rfl,rfl,rfl,by decide +kernel,rfl,by decide +kernel,by decide +kernel⟩
theorem Ct(F:Fun K "top_rank" "top_rank" wc f fd):aT P w K mg base CX0 1 f fd ["holes"] B0:=by
 refine F.ok Fx (fun vs H Q E h=>?_) (fun cdv A outer s H vs Q E hr h=>?_)
 ·obtain⟨h,rfl,_⟩:=h;rfl
 ·obtain⟨h,rfl,hl,k⟩:=h;refine⟨_,a8 (ai (Hs PySem.F.plainAttrs_int PySem.F.slot_int_bit_length PySem.F.type_int_bit_length Ej (pv 0))),?_⟩;refine⟨_,rfl,rfl,_,rfl,rfl,?_⟩;have e:Builtin.Int.intBits (h:Int)=Pu.topOf h:=by
   rw[JM.Eu h hl];unfold Builtin.Int.intBits;by_cases z:h=0
   ·subst z;rfl
   ·rw[if_neg z,if_neg (by simp;omega)]
    rfl
  rw[e];exact k
theorem GU{L:List Nat}{c n:Nat}:ic (L.map vN) (some (c:Int)) (some ((c+n:Nat):Int))=(Pu.fieldOf L c n).map vN:=by
 unfold ic Pu.fieldOf;rw[HT.sIx_nat,HT.sIx_nat,List.length_map,List.map_take,List.map_drop];by_cases h:c<=L.length
 ·rw[Nat.min_eq_left h];by_cases h2:c+n<=L.length
  ·rw[Nat.min_eq_left h2,Nat.add_sub_cancel_left]
  ·rw[Nat.min_eq_right (by omega),List.take_of_length_le (by rw[List.length_drop,List.length_map];omega),List.take_of_length_le (by rw[List.length_drop,List.length_map];omega)]
 ·rw[Nat.min_eq_right (by omega),Nat.min_eq_right (by omega),List.drop_eq_nil_of_le (by rw[List.length_map];omega),List.drop_eq_nil_of_le (by rw[List.length_map];omega)]
  simp
def mi:Sp:=fun vs H Q _=>∃(a:Addr) (x:Pu.Card) (c n:Nat),vs=[.ref a,vN c,vN n]/\gw H a x/\∀p,H p=none->Q (.ref p) (upd H p (.lst ((Pu.fieldOf x c n).map vN)))
theorem Eh:au ["card", "column", "length"] ["card", "column", "length"] (ae qK):=⟨rfl,rfl,rfl,by decide +kernel,rfl,by decide +kernel,by decide +kernel⟩
theorem AD(F:Fun K "field_of" "field_of" qK f fd):aT P w K mg base CX0 1 f fd ["card", "column", "length"] mi:=by
 refine F.ok Eh (fun vs H Q E h=>?_) (fun cdv A outer s H vs Q E hr h=>?_)
 ·obtain⟨a,x,c,n,rfl,_⟩:=h;rfl
 ·obtain⟨a,x,c,n,rfl,ha,k⟩:=h;refine⟨_,a8 (ai (gB iZ (pv 0) (fD (pv 1)) (fD (aQ c8 (pv 1) (pv 2))))),?_⟩;refine⟨_,rfl,_,rfl,_,rfl,_,rfl,_,rfl,_,_,rfl,rfl,_,rfl,a,_,rfl,SqL.of ha,fun p hp=>?_⟩
  have e:ic (x.map vN) (some (c:Int)) (some ((c:Int)+(n:Int)))=(Pu.fieldOf x c n).map vN:=by
   rw[show(c:Int)+(n:Int)=((c+n:Nat):Int) by omega]
   exact GU
  rw[e];exact k p hp
def yL(H:Hp)(v:V)(n:Nat):Prop:=v=vN n
theorem rV{D:Addr}(H H':Hp)(y:V)(z:Nat)(acc:List V)(hD:H D=some (.lst acc))(o:bZ D H H')(h:yL H y z):yL H' y z:=h
theorem xt{H:Hp}{p:Addr}{ns:List Nat}(h:bg H p yL ns):H p=some (.lst (ns.map vN)):=by
 obtain⟨vs,e,pr⟩:=h;have go:∀{vs:List V} {ns:List Nat},Paired (fun v n=>yL H v n) vs ns->vs=ns.map vN:=by
  intro vs ns q
  induction q with
  |nil=>rfl
  |cons r _ ih=>rw[List.map_cons,<-ih,show _=vN _ from r]
 rw[e,go pr]
theorem DX{x:Pu.Card}{c n h:Nat}(hm:h∈Pu.fieldOf x c n):h∈x:=List.mem_of_mem_drop (List.mem_of_mem_take hm)
theorem D2{x:Pu.Card}{c n:Nat}:(Pu.fieldOf x c n).length<=x.length:=by
 unfold Pu.fieldOf;rw[List.length_take,List.length_drop];omega
def lM(x:Pu.Card):Prop:=x.length=80/\∀h∈x,h<4096
end
abbrev CA:Stmt:=top 9
abbrev C0:Stmt:=top 10
structure Tx3(mg:Str->Option Value):Prop where
 kHoles:∃u,mg "MOST_HOLES" = some (.int 4095 u)
 kCards:∃u,mg "MOST_CARDS" = some (.int 1000 u)
 kNoD:∃u,mg "NO_DECK" = some (.int (-8) u)
 zRange:mg "range" = none
 zSorted:mg "sorted" = none
section
variable{P:Program}{w:World}{K:PySem.W.Frag}{mg:Str->Option Value}{base:Heap}{t:Adr}{f:Addr}{fd:FuncData}
theorem Cj{n:Nat}(h:n<=1000)(h2:n % 2=0):RgC 0 (n:Int) 2 (n / 2):=by
 have e:Builtin.Range.rangeSize 0 (n:Int) 2=((n / 2:Nat):Int):=by
  unfold Builtin.Range.rangeSize;simp only[show(2:Int) > 0 by decide,if_true]
  split<;>omega
 refine⟨by decide,by decide,?_,e⟩
 unfold Builtin.Range.small;rw[e];have a:∀i:Int,-(2 ^ 62)<=i->i<2 ^ 62->Builtin.Range.rangeFitsLong i=true:=fun i h1 h2=>by
  unfold Builtin.Range.rangeFitsLong;rw[Bool.and_eq_true,decide_eq_true_eq,decide_eq_true_eq];omega
 simp only[a 0 (by omega) (by omega),a (n:Int) (by omega) (by omega),a 2 (by omega) (by omega),a ((n / 2:Nat):Int) (by omega) (by omega),a (0+2) (by omega) (by omega)]
 rw[if_pos (by decide),a ((n:Int)+(2-1)) (by omega) (by omega),Bool.or_true]
 rfl
theorem Hv(b:Int)(y:Pu.Card)(l:List Int)(i:Nat)(h:2 * i+1<l.length):JM.cV b y (l.drop (2 * i)) =
  if(b<l[2 * i]/\l[2 * i]<80)/\1<=l[2 * i+1]/\l[2 * i+1]<=4095 then JM.cV l[2 * i] (y.set (l[2 * i]).toNat (l[2 * i+1]).toNat) (l.drop (2 * (i+1))) else none:=by
 rw[List.drop_eq_getElem_cons (show 2 * i<l.length by omega),List.drop_eq_getElem_cons h,JM.cV]
 rfl
theorem HR{ta tb tc:TE}{σ:L2.St}{H:Hp}{x y z:Int}(ha:EIs ta σ H (.int x))(hb:EIs tb σ H (.int y))(hc:EIs tc σ H (.int z)) :
  TIs (dM (kG (rI0 fun i j=>.bl (decide (i<j))) (rI0 fun i j=>.bl (decide (i<j))) ta tb tc)) σ H (decide (x<y)&&decide (y<z)):=fun Q q=>by
 refine ha _ (hb _ ⟨x,y,rfl,rfl,_,rfl,dF (fun g=>?_) (fun g=>?_)⟩)
 ·refine hc _ ⟨y,z,rfl,rfl,_,rfl,?_⟩;rw[g,Bool.true_and] at q;exact q
 ·refine⟨_,rfl,?_⟩;rw[Bool.not_eq_true] at g;rw[g,Bool.false_and] at q;exact q
theorem HZ{ta tb tc:TE}{σ:L2.St}{H:Hp}{x y z:Int}(ha:EIs ta σ H (.int x))(hb:EIs tb σ H (.int y))(hc:EIs tc σ H (.int z)) :
  TIs (dM (kG (rI0 fun i j=>.bl (decide (i<=j))) (rI0 fun i j=>.bl (decide (i<=j))) ta tb tc)) σ H (decide (x<=y)&&decide (y<=z)):=fun Q q=>by
 refine ha _ (hb _ ⟨x,y,rfl,rfl,_,rfl,dF (fun g=>?_) (fun g=>?_)⟩)
 ·refine hc _ ⟨y,z,rfl,rfl,_,rfl,?_⟩;rw[g,Bool.true_and] at q;exact q
 ·refine⟨_,rfl,?_⟩;rw[Bool.not_eq_true] at g;rw[g,Bool.false_and] at q;exact q
theorem Dn{ta tb tc:TE}{σ:L2.St}{H:Hp}{x y z:Int}(ha:EIs ta σ H (.int x))(hb:EIs tb σ H (.int y))(hc:EIs tc σ H (.int z)) :
  TIs (dM (kG (rI0 fun i j=>.bl (decide (i<j))) (rI0 fun i j=>.bl (decide (i<=j))) ta tb tc)) σ H (decide (x<y)&&decide (y<=z)):=fun Q q=>by
 refine ha _ (hb _ ⟨x,y,rfl,rfl,_,rfl,dF (fun g=>?_) (fun g=>?_)⟩)
 ·refine hc _ ⟨y,z,rfl,rfl,_,rfl,?_⟩;rw[g,Bool.true_and] at q;exact q
 ·refine⟨_,rfl,?_⟩;rw[Bool.not_eq_true] at g;rw[g,Bool.false_and] at q;exact q
def EE:Sp:=fun vs H Q _=>∃(a:Addr) (l:List Int),vs=[.ref a]/\H a=some (.lst (l.map V.int))/\l.length % 2=0/\l.length<=1000/\(JM.cV (-1) Pu.blankCard l=none->∀H',aq H H'->Q .non H')/\
 ∀x H' p,JM.cV (-1) Pu.blankCard l=some x->aq H H'->H p=none->gw H' p x->Q (.ref p) H'
theorem mK:au ["told", "card", "before", "at", "column", "holes"] ["told"] (ae CA):=⟨rfl,rfl,rfl,by decide +kernel,rfl,by decide +kernel,by decide +kernel⟩
theorem qQ{l:List Int}{i:Nat}(h:i<l.length):atI (l.map V.int) (i:Int)=some (V.int l[i]):=da (by rw[List.getElem?_map,List.getElem?_eq_getElem h];rfl)
theorem G2(F:Fun K "read_card" "read_card" CA f fd)(T:Txt K w mg t)(T3:Tx3 mg):aT P w K mg base CX0 1 f fd ["told"] EE:=by
 refine F.ok mK (fun vs H Q E h=>?_) (fun cdv A outer s H vs Q E hr h=>?_)
 ·obtain⟨a,l,rfl,_⟩:=h;rfl
 ·obtain⟨a,l,rfl,ha,ev,hl,kN,kY⟩:=h;refine⟨_,a4 (ax (i:=1) mK.nd rfl (Or.inl rfl) (aQ uL (b9 (a0 ah a5)) (bH T.kCols rfl)))
   (a4 (ax (i:=2) mK.nd rfl (Or.inl rfl) (i7 fk ah))
   (a4 (bM PassesOwn.never rfl (l6 rfl T3.zRange (a0 ah (a0 (b6 aU rfl T.zLen PySem.boot_len (a0 (pv 0) a5)) (a0 ah a5)))) (aH (i:=3) mK.nd rfl (Or.inl rfl))
    (a4 (ax (i:=4) mK.nd rfl (Or.inl rfl) (bp bK (pv 0) (pv 3) (fun _ _=>rfl)))
    (a4 (ax (i:=5) mK.nd rfl (Or.inl rfl) (bp bK (pv 0) (aQ c8 (pv 3) ah) (fun _ _=>rfl)))
    (a4 (aP (PW.pt (iP (eg (jW jY jY (pv 2) (pv 4) (bH T.kCols rfl))) (fW (eg (jW fH fH ah (pv 5) (bH T3.kHoles rfl)))))) (a8 (ai cG)) aD)
    (a4 (uQ (pv 5) (uZ (pv 1) (pv 4) gO))
    (a8 (ax (i:=2) mK.nd rfl (Or.inl rfl) (pv 4))))))))
   (a8 (ai (pv 1))))),?_⟩
  refine⟨by decide,fun p0 hp0=>⟨p0,_,_,rfl,rfl,a7,by decide,by decide,by decide,fun p hp=>?_⟩⟩
  have s0:aq H (upd (upd H p0 (.lst [V.int 0])) p (.lst (Pu.blankCard.map vN))):=(ag hp0).trans (ag hp);have hpH:H p=none:=(ag hp0).free hp;refine⟨_,rfl,?_⟩;refine⟨_,rfl,a,_,rfl,.inl (SqL.of (s0 _ _ ha)),_,_,_,_,rfl,by rw[List.length_map];exact Cj hl ev,jF (fun i σ H'=>∃(b:Int) (y:Pu.Card) (z3 z4 z5:Option V),σ=[some (.ref a),some (.ref p),some (.int b),z3,z4,z5]/\aq H H'/\gw H' p y/\y.length=80/\-1<=b/\JM.cV (-1) Pu.blankCard l=JM.cV b y (l.drop (2 * i))) ?_ ?_ ?_⟩
  ·exact⟨-1,Pu.blankCard,none,none,none,rfl,s0,a7,rfl,Int.le_refl _,rfl⟩
  ·rintro i σ H1 hi ⟨b,y,z3,z4,z5,rfl,s1,hy,ly,hb,e⟩;have h1:2 * i+1<l.length:=by omega
   have e0:(0:Int)+(i:Nat) * 2=((2 * i:Nat):Int):=by omega
   rw[e0];rw[Hv b y l i h1] at e;have g1:=qQ (l:=l) (i:=2 * i) (by omega)
   have g2:=qQ (l:=l) (i:=2 * i+1) h1;generalize l[2 * i]=c at e g1;generalize l[2 * i+1]=h at e g2;refine⟨_,rfl,_,rfl,a,_,_,_,rfl,rfl,SqL.of (s1 _ _ ha),g1,_,rfl,_,rfl,_,_,rfl,rfl,a,_,_,_,rfl,rfl,SqL.of (s1 _ _ ha),g2,?_⟩;have test:TIs _ _ H1 (!(decide (b<c)&&decide (c<80)) || !(decide (1<=h)&&decide (h<=4095))):=TIs.or (σ:=[some (.ref a),some (.ref p),some (.int b),some (.int ((2 * i:Nat):Int)),some (.int c),some (.int h)])
    (TIs.not (HR (ta:=cb 2) (tb:=cb 4) (tc:=tC (.int 80)) (fun Q q=>⟨_,rfl,q⟩) (fun Q q=>⟨_,rfl,q⟩) (fun Q q=>q)))
    (fun _=>TIs.not (HZ (ta:=tC (.int 1)) (tb:=cb 5) (tc:=tC (.int 4095)) (fun Q q=>q) (fun Q q=>⟨_,rfl,q⟩) (fun Q q=>q)))
   refine test _ (dF (fun g=>?_) (fun g=>?_))
   ·rw[if_neg] at e
    ·exact kN e H1 s1
    ·rintro⟨⟨q1,q2⟩,q3,q4⟩;rw[decide_eq_true q1,decide_eq_true q2,decide_eq_true q3,decide_eq_true q4] at g;cases g
   ·have gg:(b<c/\c<80)/\1<=h/\h<=4095:=by
     simp only[Bool.or_eq_true,Bool.not_eq_true',Bool.and_eq_false_iff,decide_eq_false_iff_not,not_or,Decidable.not_not] at g;omega
    rw[if_pos gg] at e;have ix:ixN (y.map vN).length c=some c.toNat:=by
     unfold ixN;rw[List.length_map,ly,if_pos (by omega),if_pos (by omega)]
    refine⟨_,rfl,_,rfl,_,rfl,p,_,_,_,rfl,rfl,hy,ix,_,rfl,?_⟩;refine⟨c,y.set c.toNat h.toNat,_,_,_,rfl,fun q o z=>?_,?_,by rw[List.length_set];exact ly,by omega,e⟩
    ·rw[af (a9 z hpH)];exact s1 _ _ z
    ·unfold gw;rw[a7,List.map_set];unfold vN;rw[Int.toNat_of_nonneg (by omega)]
  ·rintro σ H1 ⟨b,y,z3,z4,z5,rfl,s1,hy,ly,hb,e⟩;rw[show 2 * (l.length / 2)=l.length by omega,List.drop_length] at e
   exact⟨_,rfl,kY y H1 p e s1 hpH hy⟩
def CdV(D:Addr)(H:Hp)(v:V)(x:Pu.Card):Prop:=∃a,v=.ref a/\a≠D/\gw H a x
theorem Ey{D:Addr}(H H':Hp)(y:V)(z:Pu.Card)(acc:List V)(hD:H D=some (.lst acc))(o:bZ D H H')(h:CdV D H y z):CdV D H' y z:=by
 obtain⟨a,e,n,h1⟩:=h;exact⟨a,e,n,o _ _ n h1⟩
theorem BD{D:Addr}{H H':Hp}{ds:List Pu.Card}(s:aq H H')(h:bg H D (CdV D) ds):bg H' D (CdV D) ds:=by
 obtain⟨vs,e,pr⟩:=h;exact⟨vs,s _ _ e,Paired.mapP pr fun a b ⟨c,e,n,h1⟩=>⟨c,e,n,s _ _ h1⟩⟩
theorem uW{D q:Addr}{H:Hp}{x:Pu.Card}{ds:List Pu.Card}{vs:List V}(e:H D=some (.lst vs))(h:bg H D (CdV D) ds)(hq:gw H q x)(ne:q≠D):bg (upd H D (.lst (vs++[.ref q]))) D (CdV D) (ds++[x]):=by
 obtain⟨vs',e',pr⟩:=h;rw[e] at e';cases e';refine⟨_,a7,fN (Paired.mapP pr fun a b h=>Ey H _ a b vs e bZ.upd h) ⟨q,rfl,ne,?_⟩⟩
 unfold gw;rw[af ne];exact hq
theorem Gn{xs:List V}{c n:Nat}:ic xs (some (c:Int)) (some ((c+n:Nat):Int))=(xs.drop c).take n:=by
 unfold ic;rw[HT.sIx_nat,HT.sIx_nat];by_cases h:c<=xs.length
 ·rw[Nat.min_eq_left h];by_cases h2:c+n<=xs.length
  ·rw[Nat.min_eq_left h2,Nat.add_sub_cancel_left]
  ·rw[Nat.min_eq_right (by omega),List.take_of_length_le (by rw[List.length_drop];omega),List.take_of_length_le (by rw[List.length_drop];omega)]
 ·rw[Nat.min_eq_right (by omega),Nat.min_eq_right (by omega),List.drop_eq_nil_of_le (by omega),List.drop_eq_nil_of_le (by omega)]
  simp
def F3(K:PySem.W.Frag):Sp:=fun vs H Q _=>∃(a:Addr) (l:List Int),vs=[.ref a]/\SqL K H a (l.map V.int)/\l.length<=1000/\(JM.bN l.length l=none->∀H',aq H H'->Q .non H')/\
 ∀ds H' p,JM.bN l.length l=some ds->aq H H'->H p=none->bg H' p (CdV p) ds->Q (.ref p) H'
theorem pC:au ["told", "cards", "at", "end", "card"] ["told"] (ae C0):=⟨rfl,rfl,rfl,by decide +kernel,rfl,by decide +kernel,by decide +kernel⟩
theorem Hr(F:Fun K "read_deck" "read_deck" C0 f fd)(T:Txt K w mg t)(T3:Tx3 mg)(cRdC:Cal P w K mg base "read_card" 1 ["told"] EE):aT P w K mg base CX0 2 f fd ["told"] (F3 K):=by
 refine F.ok pC (fun vs H Q E h=>?_) (fun cdv A outer s H vs Q E hr h=>?_)
 ·obtain⟨a,l,rfl,_⟩:=h;rfl
 ·obtain⟨a,l,rfl,hS,hl,kN,kY⟩:=h;have big:(1001:Nat)<sizeLine:=by decide
  refine⟨_,a4 (ax (i:=1) pC.nd rfl (Or.inl rfl) (b9 a5))
   (a4 (ax (i:=2) pC.nd rfl (Or.inl rfl) ah)
   (a4 (ot PassesOwn.never (aB jY (pv 2) (b6 aU rfl T.zLen PySem.boot_len (a0 (pv 0) a5)) (aJ _))
    (a4 (ax (i:=3) pC.nd rfl (Or.inl rfl) (aQ c8 (aQ c8 (pv 2) ah) (aQ gu ah (bp bK (pv 0) (pv 2) (fun _ _=>rfl)))))
    (a4 (aP (PW.pt (iP (eg (jW jY fH (pv 2) (pv 3) (b6 aU rfl T.zLen PySem.boot_len (a0 (pv 0) a5)))) (fW (aB bY (b6 aU rfl T.zLen PySem.boot_len (a0 (pv 1) a5)) (bH T3.kCards rfl) (aJ _))))) (a8 (ai cG)) aD)
    (a4 (ax (i:=4) pC.nd rfl (Or.inl rfl) (az cRdC hr (by decide) rfl (a0 (gB iZ (pv 0) (fD (aQ c8 (pv 2) ah)) (fD (pv 3))) a5)))
    (a4 (aP (aB iV (pv 4) cG (aJ _)) (a8 (ai cG)) aD)
    (a4 (aX (d5 PySem.F.plainAttrs_list PySem.F.slot_list_append PySem.F.type_list_append bF (pv 1) (a0 (pv 4) a5)))
    (a8 (ax (i:=2) pC.nd rfl (Or.inl rfl) (pv 3)))))))))
   (a8 (ai (pv 1))))),?_⟩
  refine⟨Nat.zero_le _,fun p hp=>?_⟩
  have s0:=ag (o:=.lst []) hp;refine⟨fun m σ H'=>∃(i f:Nat) (ds:List Pu.Card) (z3 z4:Option V),m=l.length-i/\σ=[some (.ref a),some (.ref p),some (.int (i:Int)),z3,z4]/\aq H H'/\bg H' p (CdV p) ds/\i<=l.length/\ds.length<=i/\l.length-i<=f/\
   JM.bN l.length l=(JM.bN f (l.drop i)).map fun d=>ds++d,⟨_,0,l.length,[],none,none,rfl,rfl,s0,⟨[],a7,.nil⟩,Nat.zero_le _,Nat.le_refl _,Nat.le_refl _,?_⟩,?_⟩
  ·rw[List.drop_zero];cases JM.bN l.length l<;>rfl
  ·rintro m σ H1 ⟨i,f,ds,z3,z4,rfl,rfl,s1,hc,hi,hd,hf,e⟩;have hS1:=s1.seq hS;refine⟨_,rfl,_,rfl,a,_,rfl,.inl hS1,_,_,rfl,rfl,_,rfl,dF (fun g=>?_) (fun g=>?_)⟩
   ·have lt:i<l.length:=by
     have:=of_decide_eq_true g;rw[List.length_map] at this;omega
    obtain⟨f,rfl⟩:∃n,f=n+1:=⟨f-1,by omega⟩
    have dr:l.drop i=l[i]::l.drop (i+1):=List.drop_eq_getElem_cons lt;have g1:=qQ lt;rw[dr,JM.bN,List.length_drop] at e;generalize l[i]=n at e g1;refine⟨_,fun _ _ h=>h,?_⟩
    refine⟨_,rfl,_,_,rfl,rfl,_,rfl,_,rfl,a,_,_,_,rfl,rfl,hS1,g1,_,_,rfl,rfl,.inl ⟨by decide,by decide⟩,_,_,rfl,rfl,?_⟩
    have hlen:(l.map V.int).length=l.length:=List.length_map ..;obtain⟨vs,hvs,pr⟩:=hc;have lv:=b5 pr;have test:TIs _ _ H1 (!(decide ((i:Int)<(i:Int)+1+2 * n)&&decide ((i:Int)+1+2 * n<=(l.length:Int))) || false):=TIs.or (σ:=[some (.ref a),some (.ref p),some (.int (i:Int)),some (.int ((i:Int)+1+2 * n)),z4]) (u:=dM (tOp rEq (tCB (fun xs H Q=>∃p ys,xs=[.ref p]/\(SqL K H p ys\/SqT K H p ys)/\Q (.int ys.length) H) (gC (cb 1) jz)) (tC (.int 1000))))
     (TIs.not (Dn (ta:=cb 2) (tb:=cb 3) (tc:=tCB (fun xs H Q=>∃p ys,xs=[.ref p]/\(SqL K H p ys\/SqT K H p ys)/\Q (.int ys.length) H) (gC (cb 0) jz)) (fun Q q=>⟨_,rfl,q⟩) (fun Q q=>⟨_,rfl,q⟩) (fun Q q=>⟨_,rfl,a,_,rfl,.inl hS1,by rw[hlen];exact q⟩)))
     (fun _ Q q=>⟨_,rfl,p,_,rfl,.inl (SqL.of hvs),rfl,_,rfl,by
      rw[show decide (V.int (vs.length:Int)=V.int 1000)=false from decide_eq_false fun z=>by have:=V.int.inj z;omega]
      exact q⟩)
    refine test _ ?_;rw[Bool.or_false];refine dF (fun g=>?_) (fun g=>?_)
    ·refine kN ?_ H1 s1;rw[e,if_neg]
     ·rfl
     ·rintro⟨q1,q2⟩;rw[decide_eq_true (by omega),decide_eq_true (by omega)] at g
      cases g
    ·have gg:0<=n/\2 * n.toNat<=l.length-(i+1):=by
      simp only[Bool.not_eq_true',Bool.and_eq_false_iff,decide_eq_false_iff_not,not_or,Decidable.not_not] at g;omega
     rw[if_pos gg] at e;have cutE:ic (l.map V.int) (some ((i:Int)+1)) (some ((i:Int)+1+2 * n))=((l.drop (i+1)).take (2 * n.toNat)).map V.int:=by
      rw[show(i:Int)+1=((i+1:Nat):Int) by omega,show((i+1:Nat):Int)+2 * n=((i+1+2 * n.toNat:Nat):Int) by omega,Gn,List.map_take,List.map_drop]
     have lt2:((l.drop (i+1)).take (2 * n.toNat)).length=2 * n.toNat:=by rw[List.length_take,List.length_drop];omega
     refine⟨_,rfl,_,rfl,_,_,rfl,rfl,_,rfl,_,rfl,_,rfl,a,_,rfl,hS1,fun q hq=>?_⟩
     rw[cutE];have s2:=ag (o:=.lst (((l.drop (i+1)).take (2 * n.toNat)).map V.int)) hq;refine⟨q,_,rfl,a7,by rw[lt2];omega,by rw[lt2];omega,fun en H2 s3=>?_,fun x H2 r ex s3 hr2 hx=>?_⟩
     ·rw[en] at e;exact⟨_,rfl,rfl,_,rfl,bh (kN e H2 ((s1.trans s2).trans s3))⟩
     ·rw[ex] at e;have s13:=(s1.trans s2).trans s3;have hvs2:=s3 _ _ (s2 _ _ hvs);have nr:r≠p:=fun z=>by
       rw[z,s2 _ _ hvs] at hr2;cases hr2
      refine⟨_,rfl,rfl,_,rfl,aZ ?_⟩;refine⟨_,rfl,.inl ⟨rfl,_,SqL.of hvs2⟩,_,rfl,p,_,_,rfl,rfl,hvs2,by omega,?_⟩
      refine⟨_,rfl,?_⟩;refine⟨l.length-(i+1+2 * n.toNat),by omega,i+1+2 * n.toNat,f,ds++[x],some (.int ((i:Int)+1+2 * n)),some (.ref r),rfl,?_,fun b o z=>?_,uW hvs2 (BD (s2.trans s3) ⟨vs,hvs,pr⟩) hx nr,by omega,by rw[List.length_append,List.length_singleton];omega,by omega,?_⟩
      ·show[some (V.ref a),some (V.ref p),some (V.int ((i:Int)+1+2 * n)),some (V.int ((i:Int)+1+2 * n)),some (V.ref r)]=_;rw[<-show(i:Int)+1+2 * n=((i+1+2 * n.toNat:Nat):Int) by omega]
      ·rw[af (a9 z hp)];exact s13 _ _ z
      ·rw[e,List.drop_drop];show Option.map _ (Option.bind (some x) _)=_;cases JM.bN f (l.drop (i+1+2 * n.toNat)) with
       |none=>rfl
       |some d=>
        show some (ds++(x::d))=some (ds++[x]++d);rw[List.append_assoc];rfl
   ·have ge:¬i<l.length:=fun z=>g (decide_eq_true (by rw[List.length_map];omega))
    rw[List.drop_eq_nil_of_le (by omega)] at e
    have e2:JM.bN f []=some []:=by cases f<;>rfl
    rw[e2] at e;have e:JM.bN l.length l=some (ds++[]):=e;rw[List.append_nil] at e;exact⟨_,rfl,kY ds H1 p e s1 hp hc⟩
end
section
variable{P:Program}{w:World}{K:PySem.W.Frag}{mg:Str->Option Value}{base:Heap}{t:Adr}{u:cF}{f:Addr}{fd:FuncData}
theorem CH:((List.range 4096).all fun h=>decide (mr.lookup ((h:Nat):Int)=(Pu.figureOf h).map fun d=>V.int ((d:Nat):Int)))=true:=by decide +kernel
theorem mf{h:Nat}(l:h<4096):mr.lookup ((h:Nat):Int)=(Pu.figureOf h).map fun d=>V.int ((d:Nat):Int):=of_decide_eq_true (List.all_eq_true.mp CH h (List.mem_range.mpr l))
noncomputable def BY:Option Int->V
 |some v=>.int v
 |none=>.non
def BQ:Sp:=fun vs H Q _=>∃(a:Addr) (ini:List Nat) (g:Nat),vs=[.ref a]/\H a=some (.lst ((ini++[g]).map vN))/\(∀h∈ini++[g],h<4096)/\ini.length<=80/\∀H',aq H H'->Q (BY (JM.fvM ini g)) H'
theorem kL:au ["field", "value", "begun", "holes"] ["field"] (ae wu):=⟨rfl,rfl,rfl,by decide +kernel,rfl,by decide +kernel,by decide +kernel⟩
theorem CG(F:Fun K "figures_value" "figures_value" wu f fd)(T2:Tx2 K w mg u):aT P w K mg base CX0 1 f fd ["field"] BQ:=by
 refine F.ok kL (fun vs H Q E h=>?_) (fun cdv A outer s H vs Q E hr h=>?_)
 ·obtain⟨a,ini,g,rfl,_⟩:=h;rfl
 ·obtain⟨a,ini,g,rfl,ha,hh,hl,k⟩:=h;refine⟨_,a4 (ax (i:=1) kL.nd rfl (Or.inl rfl) ah)
   (a4 (ax (i:=2) kL.nd rfl (Or.inl rfl) iM)
   (a4 (bM PassesOwn.never rfl (bu (gB iZ (pv 0) rR (fD (i7 fk ah)))) (aH (i:=3) kL.nd rfl (Or.inl rfl))
    (a8 (aP (nX (DS (pv 3) (je T2.gG rfl)))
     (a4 (ax (i:=1) kL.nd rfl (Or.inl rfl) (aQ c8 (aQ gu (pv 1) ah) (tG (je T2.gG rfl) (pv 3) (fun _ _=>rfl)))) (a8 (ax (i:=2) kL.nd rfl (Or.inl rfl) iM)))
     (a8 (aP (PW.pt (iP (dY (pv 2) (fun _=>rfl)) (fW (dY (pv 3) (fun _=>rfl))))) (a8 (ai cG)) aD)))))
   (a4 (aP (nX (Bz (bp bK (pv 0) (i7 fk ah) (fun _ _=>rfl)) (je T2.gG rfl))) (a8 (ai cG)) aD)
   (a8 (ai (aQ c8 (aQ gu (pv 1) ah) (tG (je T2.gG rfl) (bp bK (pv 0) (i7 fk ah) (fun _ _=>rfl)) (fun _ _=>rfl)))))))),?_⟩
  have cutE:ic ((ini++[g]).map vN) none (some (-1))=ini.map vN:=by
   have e2:HT.sIx ((ini++[g]).map vN).length ((ini++[g]).map vN).length (some (-1))=ini.length:=by
    show(if(-1:Int)<0 then((-1:Int)+(((ini++[g]).map vN).length:Int)).toNat else min (-1:Int).toNat ((ini++[g]).map vN).length)=_
    rw[if_pos (by decide),List.length_map,List.length_append,List.length_singleton]
    omega
   unfold ic;rw[HT.sIx_none,e2,List.drop_zero,Nat.sub_zero,List.map_append,List.take_append_of_le_length (by rw[List.length_map];exact Nat.le_refl _),List.take_of_length_le (by rw[List.length_map];exact Nat.le_refl _)]
  have lastE:atI ((ini++[g]).map vN) (-1)=some (vN g):=by
   unfold atI ixN;rw[if_neg (by decide),if_pos (by rw[List.length_map,List.length_append,List.length_singleton];omega),List.length_map,List.length_append,List.length_singleton,show((-1:Int)+((ini.length+1:Nat):Int)).toNat=ini.length by omega]
   show((ini++[g]).map vN)[ini.length]?=_;rw[List.getElem?_map,List.getElem?_append_right (Nat.le_refl _),Nat.sub_self];rfl
  have hg:g<4096:=hh g (by simp)
  refine⟨_,rfl,_,rfl,_,rfl,a,_,rfl,SqL.of ha,fun p hp=>?_⟩
  rw[cutE];have s1:=ag (o:=.lst (ini.map vN)) hp;have hp1:upd H p (.lst (ini.map vN)) p=some (.lst (ini.map vN)):=a7;generalize upd H p (.lst (ini.map vN))=H1 at s1 hp1;have ha1:=s1 _ _ ha;refine⟨p,rfl,⟨_,SqL.of hp1⟩,d4 (K:=K) (a:=p) (xs:=ini.map vN) (fun i σ H'=>∃(v:Int) (b:Bool) (z:Option V),σ=[some (.ref a),some (.int v),some (.bl b),z]/\H'=H1/\JM.fvL ini 0 false=JM.fvL (ini.drop i) v b) ?_ (by rintro i σ H' _ ⟨_,_,_,_,e,_⟩;exact by rw[e];exact SqL.of hp1) ?_ ?_⟩
  ·exact⟨0,false,none,rfl,rfl,rfl⟩
  ·rintro i y σ H2 hi ⟨v,b,z,rfl,rfl,e⟩;obtain⟨h,hh2,rfl⟩:=qC hi;have hil:=(List.getElem?_eq_some_iff.mp hh2).1;have h4:h<4096:=hh h (by simp[List.mem_of_getElem? hh2])
   have dr:ini.drop i=h::ini.drop (i+1):=by
    obtain⟨z1,z2⟩:=List.getElem?_eq_some_iff.mp hh2;rw[<-z2,<-List.drop_eq_getElem_cons z1]
   rw[dr,JM.fvL] at e;refine⟨_,rfl,u.aG,_,_,rfl,rfl,T2.dG,_,rfl,?_⟩;rw[mf h4];cases q:Pu.figureOf h with
   |some d=>
    rw[q] at e;refine bh ?_;refine⟨_,rfl,_,_,rfl,rfl,.inr ⟨by decide,by decide⟩,_,rfl,u.aG,_,_,_,rfl,rfl,T2.dG,by rw[mf h4,q];rfl,_,_,rfl,rfl,?_⟩
    exact⟨v * 10+(d:Int),true,_,rfl,rfl,e⟩
   |none=>
    rw[q] at e;refine aZ ?_;have test:TIs _ _ H2 (b || decide (h≠0)):=TIs.or (σ:=[some (.ref a),some (.int v),some (.bl b),some (vN h)]) (t:=fun σ H Q=>cb 2 σ H fun x H'=>∃k,zR K x H' k/\Q k H') (u:=fun σ H Q=>cb 3 σ H fun x H'=>∃k,zR K x H' k/\Q k H')
     (fun Q q=>⟨_,rfl,_,rfl,q⟩) (fun _ Q q=>⟨_,rfl,_,rfl,by
      have z0:((h:Int) != 0)=decide (h≠0):=by
       apply Bool.eq_iff_iff.mpr;simp
      rw[z0];exact q⟩)
    refine test _ (dF (fun c=>?_) (fun c=>?_))
    ·have e:JM.fvL ini 0 false=if(b || decide (h≠0))=true then none else JM.fvL (ini.drop (i+1)) v b:=e
     rw[if_pos c] at e;have e2:JM.fvM ini g=none:=by
      unfold JM.fvM;rw[e];rfl
     have:=k H2 s1;rw[e2] at this;exact this
    ·have e:JM.fvL ini 0 false=if(b || decide (h≠0))=true then none else JM.fvL (ini.drop (i+1)) v b:=e
     rw[if_neg c] at e;exact⟨v,b,_,rfl,rfl,e⟩
  ·rintro σ H2 ⟨v,b,z,rfl,rfl,e⟩;rw[List.length_map,List.drop_length] at e;have e:JM.fvL ini 0 false=some v:=e;refine⟨_,rfl,_,rfl,a,_,_,_,rfl,rfl,SqL.of ha1,lastE,u.aG,_,_,rfl,rfl,T2.dG,_,rfl,?_⟩;rw[mf hg];have k2:=k H2 s1;unfold JM.fvM at k2;rw[e] at k2;cases q:Pu.figureOf g with
   |none=>
    rw[q] at k2;exact bh k2
   |some d=>
    rw[q] at k2;refine aZ ⟨_,rfl,_,_,rfl,rfl,.inr ⟨by decide,by decide⟩,_,rfl,_,rfl,a,_,_,_,rfl,rfl,SqL.of ha1,lastE,u.aG,_,_,_,rfl,rfl,T2.dG,by rw[mf hg,q];rfl,_,_,rfl,rfl,k2⟩
theorem wG(ini:List Nat)(g:Nat):atI ((ini++[g]).map vN) (-1)=some (vN g):=by
 unfold atI ixN;rw[if_neg (by decide),if_pos (by rw[List.length_map,List.length_append,List.length_singleton];omega),List.length_map,List.length_append,List.length_singleton,show((-1:Int)+((ini.length+1:Nat):Int)).toNat=ini.length by omega]
 show((ini++[g]).map vN)[ini.length]?=_;rw[List.getElem?_map,List.getElem?_append_right (Nat.le_refl _),Nat.sub_self];rfl
theorem zj{x:Pu.Card}{c n:Nat}(hx:x.length=80)(h1:1<=n)(h2:c+n<=80):∃ini g,Pu.fieldOf x c n=ini++[g]/\ini.length+1=n:=by
 have hl:(Pu.fieldOf x c n).length=n:=by
  unfold Pu.fieldOf;rw[List.length_take,List.length_drop];omega
 have ne:Pu.fieldOf x c n≠[]:=fun z=>by rw[z] at hl;simp at hl;omega
 refine⟨(Pu.fieldOf x c n).dropLast,(Pu.fieldOf x c n).getLast ne,(List.dropLast_concat_getLast ne).symm,?_⟩;rw[List.length_dropLast];omega
theorem si{α:Type}(b c:α):∀l:List α,(l++[b]).set l.length c=l++[c]
 |[]=>rfl
 |a::l=>by
  show a::(l++[b]).set l.length c=a::(l++[c]);rw[si b c l]
def F0:Sp:=fun vs H Q _=>∃(a:Addr) (x:Pu.Card) (c n:Nat),vs=[.ref a,vN c,vN n]/\gw H a x/\lM x/\1<=n/\c+n<=80/\∀H',aq H H'->Q (BY (Pu.amountOf (Pu.fieldOf x c n))) H'
theorem Ay:au ["card", "column", "length", "field", "value"] ["card", "column", "length"] (ae DE):=⟨rfl,rfl,rfl,by decide +kernel,rfl,by decide +kernel,by decide +kernel⟩
theorem Fz(F:Fun K "amount_of" "amount_of" DE f fd)(T2:Tx2 K w mg u)(cFldOf:Cal P w K mg base "field_of" 1 ["card", "column", "length"] mi)(cHasR:Cal P w K mg base "has_row" 1 ["holes", "row"] A9)(cRowH:Cal P w K mg base "row_holes" 1 ["row"] kE)(cFigV:Cal P w K mg base "figures_value" 1 ["field"] BQ) :
  aT P w K mg base CX0 2 f fd ["card", "column", "length"] F0:=by
 refine F.ok Ay (fun vs H Q E h=>?_) (fun cdv A outer s H vs Q E hr h=>?_)
 ·obtain⟨a,x,c,n,rfl,_⟩:=h;rfl
 ·obtain⟨a,x,c,n,rfl,ha,cok,h1,h2,k⟩:=h;refine⟨_,a4 (ax (i:=3) Ay.nd rfl (Or.inl rfl) (az cFldOf hr (by decide) rfl (a0 (pv 0) (a0 (pv 1) (a0 (pv 2) a5)))))
   (a4 (aP (eg (fY (az cHasR hr (by decide) rfl (a0 (bp bK (pv 3) (i7 fk ah) (fun _ _=>rfl)) (a0 (bH T2.kMinus rfl) a5))))) (a8 (ai (az cFigV hr (by decide) rfl (a0 (pv 3) a5)))) aD)
   (a4 (rK (pv 3) (i7 fk ah) nT (az cRowH hr (by decide) rfl (a0 (bH T2.kMinus rfl) a5)) GA gO)
   (a4 (ax (i:=4) Ay.nd rfl (Or.inl rfl) (az cFigV hr (by decide) rfl (a0 (pv 3) a5)))
   (a4 (aP (eg (dY (pv 4) (fun _=>rfl))) (a8 (ai cG)) aD)
   (a8 (ai (i7 fk (pv 4)))))))),?_⟩
  obtain⟨ini,g,ef,li⟩:=zj cok.1 h1 h2;rw[ef,JM.Gx] at k;have hh:∀h∈ini++[g],h<4096:=fun h hm=>cok.2 h (DX (by rw[ef];exact hm))
  refine⟨_,rfl,_,rfl,_,rfl,a,x,c,n,rfl,ha,fun p hp=>?_⟩
  rw[ef];have s1:=ag (o:=.lst ((ini++[g]).map vN)) hp;have hp1:upd H p (.lst ((ini++[g]).map vN)) p=some (.lst ((ini++[g]).map vN)):=a7;generalize upd H p (.lst ((ini++[g]).map vN))=H1 at s1 hp1;refine⟨_,rfl,_,rfl,p,_,_,_,rfl,rfl,SqL.of hp1,wG ini g,g,1,rfl,_,rfl,?_⟩;unfold JM.Gb at k;cases tb:g.testBit 1 with
  |false=>
   rw[tb] at k;refine bh ⟨_,rfl,p,ini,g,rfl,hp1,hh,by omega,fun H2 s2=>?_⟩
   exact k H2 (s1.trans s2)
  |true=>
   rw[tb,if_pos rfl] at k;have g2:2<=g:=by
    rcases Nat.lt_or_ge g 2 with z | z
    ·have:g=0\/g=1:=by omega
     rcases this with rfl | rfl<;>exact absurd tb (by decide)
    ·exact z
   refine aZ ?_;refine⟨_,rfl,_,rfl,p,_,_,_,rfl,rfl,SqL.of hp1,wG ini g,1,rfl,by omega,_,_,rfl,rfl,p,_,_,ini.length,rfl,rfl,hp1,?_,?_⟩
   ·unfold ixN;rw[if_neg (by decide),if_pos (by rw[List.length_map,List.length_append,List.length_singleton];omega),List.length_map,List.length_append,List.length_singleton,show((-1:Int)+((ini.length+1:Nat):Int)).toNat=ini.length by omega]
   have es:((ini++[g]).map vN).set ini.length (V.int ((g:Int)-((2 ^ 1:Nat):Int)))=(ini++[g-2]).map vN:=by
    have:=si (vN g) (V.int ((g:Int)-((2 ^ 1:Nat):Int))) (ini.map vN);rw[List.length_map] at this;rw[List.map_append,List.map_append];refine this.trans ?_;show _++[V.int ((g:Int)-2)]=_++[vN (g-2)];unfold vN;rw[show(g:Int)-2=((g-2:Nat):Int) by omega]
   rw[es];have s2:aq H (upd H1 p (.lst ((ini++[g-2]).map vN))):=fun b o z=>by
    rw[af (a9 z hp)];exact s1 _ _ z
   have hp2:upd H1 p (.lst ((ini++[g-2]).map vN)) p=some (.lst ((ini++[g-2]).map vN)):=a7;generalize upd H1 p (.lst ((ini++[g-2]).map vN))=H2 at s2 hp2;refine⟨_,rfl,p,ini,g-2,rfl,hp2,fun h hm=>?_,by omega,fun H3 s3=>?_⟩
   ·rcases List.mem_append.mp hm with z | z
    ·exact hh h (by simp[z])
    ·have:=hh g (by simp)
     rw[List.mem_singleton.mp z];omega
   ·have k3:=k H3 (s2.trans s3);cases q:JM.fvM ini (g-2) with
    |none=>
     rw[q] at k3;exact⟨_,rfl,_,rfl,bh k3⟩
    |some v=>
     rw[q] at k3;refine⟨_,rfl,_,rfl,?_⟩;by_cases v0:v=0
     ·subst v0;exact bh k3
     ·have k3:Q (BY (if v=0 then none else some (-v))) H3:=k3
      rw[if_neg v0] at k3;have e1:(v != 0)=true:=by simpa using v0
      rw[e1];exact aZ ⟨_,rfl,_,rfl,k3⟩
def F8:Sp:=fun vs H Q _=>vs=[]/\∀H' p,aq H H'->H p=none->H' p=some (.lst (JM.fg.map V.int))->Q (.ref p) H'
theorem IB:au [] [] (ae CB):=⟨rfl,rfl,rfl,by decide +kernel,rfl,by decide +kernel,by decide +kernel⟩
theorem FX(F:Fun K "blank_line" "blank_line" CB f fd)(T2:Tx2 K w mg u):aT P w K mg base CX0 1 f fd [] F8:=by
 refine F.ok IB (fun vs H Q E h=>?_) (fun cdv A outer s H vs Q E hr h=>?_)
 ·rw[h.1];rfl
 ·obtain⟨rfl,k⟩:=h;refine⟨_,a8 (ai (aQ uL (b9 (a0 (bH T2.kBlank rfl) a5)) (bH T2.kPl rfl))),?_⟩;refine⟨by decide,fun p0 hp0=>⟨p0,_,_,rfl,rfl,a7,by decide,by decide,by decide,fun p hp=>?_⟩⟩
  refine k _ p ((ag hp0).trans (ag hp)) ((ag hp0).free hp) ?_;rw[a7];rfl
def ET:Sp:=fun vs H Q _=>∃(a b:Addr) (L S:List Int) (i:Nat),vs=[.ref a,vN i,.ref b]/\H a=some (.lst (L.map V.int))/\H b=some (.lst (S.map V.int))/\a≠b/\i+S.length<=L.length/\∀H',bZ a H H'->H' a=some (.lst ((JM.onI L i S).map V.int))->Q .non H'
theorem zG:au ["line", "place", "shown", "offset", "byte"] ["line", "place", "shown"] (ae Cm):=⟨rfl,rfl,rfl,by decide +kernel,rfl,by decide +kernel,by decide +kernel⟩
theorem CI{L S:List Int}{i j:Nat}{x:Int}(h:S[j]?=some x)(hl:i+S.length<=L.length):(JM.onI L i (S.take j)).set (i+j) x=JM.onI L i (S.take (j+1)):=by
 have hj:=(List.getElem?_eq_some_iff.mp h).1;have l1:(L.take i).length=i:=by rw[List.length_take];omega
 have l2:(S.take j).length=j:=by rw[List.length_take];omega
 have l3:(S.take (j+1)).length=j+1:=by rw[List.length_take];omega
 unfold JM.onI;rw[l2,l3,List.drop_eq_getElem_cons (show i+j<L.length by omega),bU h,List.append_assoc]
 have e1:∀(A B:List Int) (n:Nat) (y:Int),A.length=n->∀m,(A++B).set (n+m) y=A++B.set m y:=by
  intro A B n y hA m;subst hA
  induction A with
  |nil=>simp
  |cons a A ih=>
   rw[List.cons_append,List.length_cons,show A.length+1+m=(A.length+m)+1 by omega,List.set_cons_succ,ih]
   rfl
 have e2:(S.take j++(L[i+j]::L.drop (i+j+1))).set j x=S.take j++(L[i+j]::L.drop (i+j+1)).set 0 x:=e1 (S.take j) (L[i+j]::L.drop (i+j+1)) j x l2 0;rw[e1 _ _ i x l1,e2];rfl
theorem HK{L:List Int}{i:Nat}{y:V}(h:(L.map V.int)[i]?=some y):∃c,L[i]?=some c/\y=V.int c:=by
 rw[List.getElem?_map] at h;cases e:L[i]? with
 |none=>rw[e] at h;cases h
 |some c=>rw[e] at h;exact⟨c,rfl,(Option.some.inj h).symm⟩
theorem Bh{L S:List Int}{i:Nat}(hl:i+S.length<=L.length):(JM.onI L i S).length=L.length:=by
 unfold JM.onI;rw[List.length_append,List.length_append,List.length_take,List.length_drop];omega
theorem Fj(F:Fun K "put_upon" "put_upon" Cm f fd)(T:Txt K w mg t):aT P w K mg base CX0 1 f fd ["line", "place", "shown"] ET:=by
 refine F.ok zG (fun vs H Q E h=>?_) (fun cdv A outer s H vs Q E hr h=>?_)
 ·obtain⟨a,b,L,S,i,rfl,_⟩:=h;rfl
 ·obtain⟨a,b,L,S,i,rfl,ha,hb,ne,hl,k⟩:=h;refine⟨_,a8 (bM PassesOwn.never rfl (gY rfl T.zEnum (a0 (pv 2) a5)) (fM rfl (ba (aH (i:=3) zG.nd rfl (Or.inl rfl)) (ba (aH (i:=4) zG.nd rfl (Or.inl rfl)) eR))) (a8 (uQ (pv 4) (uZ (pv 0) (aQ c8 (pv 1) (pv 3)) gO)))),?_⟩;refine⟨_,rfl,b,_,rfl,SqL.of hb,fJ (K:=K) (a:=b) (xs:=S.map V.int) (fun j σ H'=>∃(z3 z4:Option V),σ=[some (.ref a),some (vN i),some (.ref b),z3,z4]/\bZ a H H'/\H' a=some (.lst ((JM.onI L i (S.take j)).map V.int)))
   ⟨none,none,rfl,bZ.refl,?_⟩ (by rintro j σ H' _ ⟨_,_,_,o,_⟩;exact SqL.of (o _ _ (Ne.symm ne) hb)) ?_ ?_⟩
  ·rw[ha,List.take_zero];unfold JM.onI;rw[List.nil_append,List.length_nil,Nat.add_zero,List.take_append_drop]
  ·rintro j y σ H2 Tp hj ⟨z3,z4,rfl,o2,h2⟩ hTp;obtain⟨x,hx,rfl⟩:=HK hj;have hjl:=(List.getElem?_eq_some_iff.mp hx).1;have s3:aq H2 (upd H2 Tp (.tup [.int (j:Nat),V.int x])):=ag hTp;have ht3:upd H2 Tp (.tup [.int (j:Nat),V.int x]) Tp=some (.tup [.int (j:Nat),V.int x]):=a7;have h3:=s3 _ _ h2;have o3:bZ a H (upd H2 Tp (.tup [.int (j:Nat),V.int x])):=fun b o n z=>s3 _ _ (o2 b o n z)
   generalize upd H2 Tp (.tup [.int (j:Nat),V.int x])=H3 at ht3 h3 o3;have lt:(S.take j).length<=S.length:=by rw[List.length_take];omega
   refine⟨Tp,_,rfl,SqT.of ht3,rfl,_,_,rfl,_,_,rfl,rfl,?_⟩;refine⟨_,rfl,_,rfl,_,rfl,_,rfl,_,_,rfl,rfl,a,_,_,i+j,rfl,rfl,h3,?_,?_⟩
   ·unfold ixN;rw[List.length_map,Bh (by omega),if_pos (by omega),if_pos (by omega)]
    congr 1
   ·refine⟨_,_,rfl,fun b o n z=>by rw[af n];exact o3 b o n z,?_⟩
    rw[a7,<-CI hx hl,List.map_set]
  ·rintro σ H2 ⟨z3,z4,rfl,o2,h2⟩;rw[List.length_map,List.take_length] at h2;exact k H2 o2 h2
theorem pI(h:Nat):∀(lg:List Int) (o:Nat),cw ((lg.zipIdx o).map fun x=>((Sum.inl ((Pu.code x.2:Nat):Int):Key),V.int x.1)) (Sum.inl (h:Int))=((List.range' o lg.length).find? fun n=>Pu.code n==h).map fun n=>V.int (lg.getD (n-o) 0)
 |[],_=>rfl
 |a::lg,o=>by
  have ih:=pI h lg (o+1);rw[List.zipIdx_cons,List.map_cons,List.length_cons,List.range'_succ];by_cases e:Pu.code o=h
  ·rw[cK (by rw[e]),List.find?_cons_of_pos (by simpa using e)]
   show _=some (V.int ((a::lg).getD (o-o) 0));rw[Nat.sub_self];rfl
  ·rw[cx (fun z=>e (Int.ofNat_inj.mp (Sum.inl.inj z))),List.find?_cons_of_neg (by simpa using e),ih]
   cases q:(List.range' (o+1) lg.length).find? fun n=>Pu.code n==h with
   |none=>rfl
   |some n=>
    have hn:=List.mem_of_find?_eq_some q;rw[List.mem_range'_1] at hn;show some (V.int (lg.getD (n-(o+1)) 0))=some (V.int ((a::lg).getD (n-o) 0));rw[show n-o=(n-(o+1))+1 by omega]
    rfl
theorem xW{lg:List Int}(h64:lg.length=64)(h:Nat)(s:Int):((cw (eM lg) (Sum.inl (h:Int))).getD (V.int s))=V.int (JM.lu lg s h):=by
 unfold eM JM.lu;rw[pI h lg 0,h64];have e:Pu.coded h=(List.range' 0 64).find? fun n=>Pu.code n==h:=by
  unfold Pu.coded;rw[List.range_eq_range'];rfl
 rw[e];cases (List.range' 0 64).find? fun n=>Pu.code n==h<;>rfl
def yH(H:Hp)(v:V)(n:Int):Prop:=v=.int n
theorem qd{D:Addr}(H H':Hp)(y:V)(z:Int)(acc:List V)(hD:H D=some (.lst acc))(o:bZ D H H')(h:yH H y z):yH H' y z:=h
theorem uA{H:Hp}{p:Addr}{ns:List Int}(h:bg H p yH ns):H p=some (.lst (ns.map V.int)):=by
 obtain⟨vs,e,pr⟩:=h;have go:∀{vs:List V} {ns:List Int},Paired (fun v n=>yH H v n) vs ns->vs=ns.map V.int:=by
  intro vs ns q
  induction q with
  |nil=>rfl
  |cons r _ ih=>rw[List.map_cons,<-ih,show _=V.int _ from r]
 rw[e,go pr]
def A8(u:cF):Sp:=fun vs H Q _=>∃(p a:Addr) (lg:List Int) (s:Int) (x:Pu.Card) (c n:Nat),vs=[.ref p,.ref a,vN c,vN n]/\sS u H p s lg/\lg.length=64/\gw H a x/\x.length=80/\∀H' q,aq H H'->H q=none->H' q=some (.lst (((Pu.fieldOf x c n).map (JM.lu lg s)).map V.int))->Q (.ref q) H'
theorem vE:au ["self", "card", "column", "length", "holes"] ["self", "card", "column", "length"] (ae uq):=⟨rfl,rfl,rfl,by decide +kernel,rfl,by decide +kernel,by decide +kernel⟩
theorem Dv:gv ["self", "card", "column", "length", "holes"] (ae uq) (iE [(".0",.local),("holes",.local),("self",.free)]) [("holes",4)]=true:=by decide +kernel
theorem Cr(F:Fun K "show_field" "Signs.show_field" uq f fd)(T2:Tx2 K w mg u)(cFldOf:Cal P w K mg base "field_of" 1 ["card", "column", "length"] mi):aT P w K mg base CX0 2 f fd ["self", "card", "column", "length"] (A8 u):=by
 refine F.ok vE (fun vs H Q E h=>?_) (fun cdv A outer s H vs Q E hr h=>?_)
 ·obtain⟨p,a,lg,s,x,c,n,rfl,_⟩:=h;rfl
 ·obtain⟨p,a,lg,sg,x,c,n,rfl,⟨dx,d,hp,hd⟩,h64,ha,hx,k⟩:=h;have hu:=eU hr;refine⟨_,a8 (ai (fG (own:=[("holes",4)]) (te:=Ae (lO K (cb 0) "by_holes") (cb 4) (lO K (cb 0) "strange")) rfl vE.nd (bu (az cFldOf hr (by decide) rfl (a0 (pv 1) (a0 (pv 2) (a0 (pv 3) a5))))) (bD Dv) (fun s H C cl fp=>aH (i:=4) vE.nd rfl (Or.inl rfl)) (fun s H C cl fp=>dj)
   (fun s H C cl fp=>oB hu (aI (pv 0) rfl) (pv 4) (aI (pv 0) rfl) ⟨rfl,rfl,rfl,rfl⟩))),?_⟩
  refine⟨_,rfl,_,rfl,_,rfl,a,x,c,n,rfl,ha,fun q hq=>?_⟩
  have s1:=ag (o:=.lst ((Pu.fieldOf x c n).map vN)) hq;refine⟨q,rfl,⟨_,SqL.of a7⟩,fun D hD=>?_⟩
  have hD0:H D=none:=s1.free hD;refine dH (xs:=Pu.fieldOf x c n) (p:=fun _=>true) (f:=JM.lu lg sg) (S:=yH) (by rw[List.length_map]) (by have:=@D2 x c n;omega) hD (SqL.of a7) qd ?_ (fun H' s e=>k H' D (s1.trans s) hD0 (by rw[eQ] at e;exact uA e))
  intro i v h H' hv hx2 s Fin Nx kY kN;obtain⟨c2,hc,rfl⟩:=qC hv;rw[hx2] at hc;cases hc;have hp2:=s _ _ (s1 _ _ hp);have hd2:=s _ _ (s1 _ _ hd);refine⟨rfl,jt ⟨_,rfl,p,u.cS,dx,_,_,rfl,hp2,T2.clS,T2.nSh,sY _ _,d,rfl,.inl ⟨_,.inl hd2⟩,_,rfl,_,rfl,p,u.cS,dx,_,_,rfl,hp2,T2.clS,T2.nSs,om _ _,_,ie.k (k:=Sum.inl (h:Int)) hd2,?_⟩⟩;rw[xW h64];exact kY rfl H' _ (aq.refl _) rfl
theorem mG:∀(n k:Nat),k<n->(Nat.toDigits 10 k).map Char.toNat=(Pu.dec k).map UInt8.toNat
 |0,_,h=>by omega
 |n+1,k,h=>by
  by_cases lt:k<10
  ·rw[Nat.toDigits_of_lt_base lt,JM.kK lt];have:∀d,d<10->[Nat.digitChar d].map Char.toNat=[UInt8.ofNat (48+d)].map UInt8.toNat:=by decide
   exact this k lt
  ·have ih:=mG n (k / 10) (by omega)
   have hm:k % 10<10:=Nat.mod_lt _ (by decide)
   have e:Nat.toDigits 10 (k / 10)++Nat.toDigits 10 (k % 10)=Nat.toDigits 10 (10 * (k / 10)+k % 10):=Nat.toDigits_append_toDigits (by decide) (by omega) hm
   rw[show 10 * (k / 10)+k % 10=k by omega] at e
   rw[<-e,JM.iK (by omega),List.map_append,List.map_append,ih,Nat.toDigits_of_lt_base hm]
   congr 1;have:∀d,d<10->[Nat.digitChar d].map Char.toNat=[UInt8.ofNat (48+d)].map UInt8.toNat:=by decide
   exact this _ hm
theorem wL:∀(n k:Nat),k<10 ^ (n+1)->(Pu.dec k).length<=n+1
 |0,k,h=>by
  rw[JM.kK (by omega)]
  exact Nat.le_refl _
 |n+1,k,h=>by
  by_cases lt:k<10
  ·rw[JM.kK lt];simp
  ·rw[JM.iK (by omega),List.length_append]
   have:=wL n (k / 10) (by rw[Nat.pow_succ] at h;omega)
   simp;omega
theorem Au(k:Nat):TL.tl (Str.ofString (toString ((k:Nat):Int)))=(Pu.dec k).map UInt8.toNat:=by
 rw[TL.tl_ofString,<-mG (k+1) k (by omega)]
 congr 1;show(Nat.repr k).toList=_;unfold Nat.repr;simp
theorem mh(x:Str):x.length=(TL.tl x).length:=by
 show x.cps.size=x.cps.toList.length;simp
theorem zQ(n:Nat)(h:1<=n):TL.tl (Txt.mul "*" (n:Int))=List.replicate n 42:=by
 unfold Txt.mul;rw[if_neg (by omega)]
 by_cases e:n=1
 ·subst e;rw[if_pos (by decide)]
  decide +kernel
 ·have e2:(((n:Int)==1) || (("*" : Str).length==0))=false:=by
   rw[show(("*" : Str).length==0)=false by decide +kernel,Bool.or_false]
   exact beq_eq_false_iff_ne.mpr (by omega)
  rw[e2,if_neg Bool.false_ne_true];have c:("*" : Str).cps=#[42]:=by decide +kernel
  rw[c,Int.toNat_natCast];show((List.replicate n #[42]).foldl (·++·) #[]).toList=_;have go:∀(n:Nat) (acc:Array Nat),((List.replicate n #[42]).foldl (fun(x1 x2:Array Nat)=>x1++x2) acc).toList=acc.toList++List.replicate n 42:=by
   intro n
   induction n with
   |zero=>intro acc;simp
   |succ n ih=>
    intro acc;rw[List.replicate_succ,List.foldl_cons,ih,List.replicate_succ];simp
  rw[go];rfl
theorem F2(x:Str)(n:Nat):TL.tl (Txt.rjust x (n:Int))=List.replicate (n-(TL.tl x).length) 32++TL.tl x:=by
 unfold Txt.rjust;rw[mh];by_cases h:n<=(TL.tl x).length
 ·rw[if_pos (by omega),show n-(TL.tl x).length=0 by omega]
  rfl
 ·rw[if_neg (by omega),Int.toNat_natCast]
  show(Array.replicate (n-(TL.tl x).length) 32++x.cps++Array.replicate 0 32).toList=_;simp
theorem C4:∀m:Nat,m<101->PadOk (m:Int)=true:=by decide +kernel
theorem Cv:∀m:Nat,m<101->MulOk "*" (m:Int):=by
 unfold MulOk
 decide +kernel
def F5:Sp:=fun vs H Q _=>∃(v:Int) (n:Nat),vs=[.int v,vN n]/\v.natAbs<10 ^ 18/\1<=n/\n<=100/\∀H' p,aq H H'->H p=none->H' p=some (.lst ((JM.vM v n).map V.int))->Q (.ref p) H'
theorem mz:au ["number", "width", "sign", "shown", "letter"] ["number", "width"] (ae zI):=⟨rfl,rfl,rfl,by decide +kernel,rfl,by decide +kernel,by decide +kernel⟩
theorem Fs:gv ["number", "width", "sign", "shown", "letter"] (ae zI) (iE [(".0",.local),("letter",.local),("ord",.globalImplicit)]) [("letter",4)]=true:=by decide +kernel
theorem GO(v:Int)(n:Nat)(sb:UInt8)(hs:sb=if v<0 then 45 else 32)(z:Str)(e:TL.tl z=if n<(Pu.dec v.natAbs++[sb]).length then List.replicate n 42 else(Pu.dec v.natAbs++[sb]).map UInt8.toNat) :
  (TL.tl (Txt.rjust z (n:Int))).map (fun(c:Nat)=>((c:Nat):Int))=JM.vM v n:=by
 rw[F2,e];unfold JM.vM JM.bI Pu.inPlaces;rw[<-hs];dsimp only;generalize Pu.dec v.natAbs++[sb]=T;by_cases c:n<T.length
 ·rw[if_pos c,if_pos c,List.length_replicate,Nat.sub_self,List.replicate_zero,List.nil_append,List.map_replicate,List.map_replicate];rfl
 ·rw[if_neg c,if_neg c,List.length_map,List.map_append,List.map_append,List.map_replicate,List.map_replicate,List.map_map];rfl
theorem FA(F:Fun K "show_number" "show_number" zI f fd)(T:Txt K w mg t)(T2:Tx2 K w mg u):aT P w K mg base CX0 1 f fd ["number", "width"] F5:=by
 refine F.ok mz (fun vs H Q E h=>?_) (fun cdv A outer s H vs Q E hr h=>?_)
 ·obtain⟨v,n,rfl,_⟩:=h;rfl
 ·obtain⟨v,n,rfl,hv,n1,n2,k⟩:=h;have big:(100000:Nat)<sizeLine:=by decide
  have dl:=wL 17 v.natAbs hv;refine⟨_,a4 (ax (i:=2) mz.nd rfl (Or.inl rfl) aA)
   (a4 (aP (aB jY (pv 0) ah (aJ _)) (a8 (ax (i:=2) mz.nd rfl (Or.inl rfl) aA)) aD)
   (a4 (ax (i:=3) mz.nd rfl (Or.inl rfl) (aQ v9 (j9 qY rfl T2.zStr (show bootBuiltins "str" = some (.type "str") by decide +kernel) (a0 (b6 sU rfl T2.zAbs (show bootBuiltins "abs" = some (.builtin "abs") by decide +kernel) (a0 (pv 0) a5)) a5)) (pv 2)))
   (a4 (aP (aB iU (b6 ra rfl T.zLen PySem.boot_len (a0 (pv 3) a5)) (pv 1) (aJ _)) (a8 (ax (i:=3) mz.nd rfl (Or.inl rfl) (aQ CC aA (pv 1)))) aD)
   (a8 (ai (fG (own:=[("letter",4)]) rfl mz.nd (zo (d5 PySem.F.plainAttrs_str PySem.F.slot_str_rjust PySem.F.type_str_rjust Bk (pv 3) (a0 (pv 1) a5))) (bD Fs) (fun s H C cl fp=>aH (i:=4) mz.nd rfl (Or.inl rfl)) (fun s H C cl fp=>dj)
    (fun s H C cl fp=>b6 tp rfl T.zOrd (show bootBuiltins "ord" = some (.builtin "ord") by decide +kernel) (a0 (pv 4) a5)))))))),?_⟩
  obtain⟨sb,hsb⟩:∃sb:UInt8,sb=if v<0 then 45 else 32:=⟨_,rfl⟩
  have fin:∀z:Str,(TL.tl z=if n<(Pu.dec v.natAbs++[sb]).length then List.replicate n 42 else(Pu.dec v.natAbs++[sb]).map UInt8.toNat)->∀D,H D=none->∀H',aq H H'->H' D=some (.lst ((TL.tl (Txt.rjust z (n:Int))).map fun(c:Nat)=>V.int (c:Int)))->Q (.ref D) H':=fun z e D hD H' s1 hq=>by
   refine k H' D s1 hD ?_;rw[hq,<-GO v n sb hsb z e,List.map_map];rfl
  refine sq ?_;dsimp only[Bo,tC,fU];refine sq ?_;refine g9 (fun σ' H'=>∃sg:Str,σ'=[some (.int v),some (vN n),some (.str sg),none,none]/\H=H'/\TL.tl sg=[sb.toNat]) ?_ (fun kk=>?_)
  ·rintro σ' H' ⟨sg,rfl,rfl,esg⟩;have ab:(if v<0 then -v else v)=((v.natAbs:Nat):Int):=by split<;>omega
   refine sq ?_;refine⟨_,rfl,v,rfl,_,rfl,?_,_,rfl,_,_,rfl,rfl,?_,?_⟩
   ·rw[ab];show v.natAbs.log2<1920;by_cases z0:v.natAbs=0
    ·rw[z0];decide
    ·exact(Nat.log2_lt z0).mpr (Nat.lt_of_lt_of_le hv (by decide +kernel))
   ·rw[ab,mh,mh,Au,esg,List.length_map];show(Pu.dec v.natAbs).length+1<=sizeLine;omega
   ·rw[ab];have esh:TL.tl (Str.ofString (toString ((v.natAbs:Nat):Int))++sg)=(Pu.dec v.natAbs++[sb]).map UInt8.toNat:=by
     rw[TL.tl_append,Au,esg,List.map_append];rfl
    generalize Str.ofString (toString ((v.natAbs:Nat):Int))++sg=sh at esh;have lsh:sh.length=(Pu.dec v.natAbs++[sb]).length:=by rw[mh,esh,List.length_map]
    have lT:(Pu.dec v.natAbs++[sb]).length<=19:=by rw[List.length_append,List.length_singleton];omega
    dsimp only[fU];refine sq ?_;refine g9 (fun σ' H'=>∃z:Str,σ'=[some (.int v),some (vN n),some (.str sg),some (.str z),none]/\H=H'/\TL.tl z=if n<(Pu.dec v.natAbs++[sb]).length then List.replicate n 42 else(Pu.dec v.natAbs++[sb]).map UInt8.toNat) ?_ (fun kk=>?_)
    ·rintro σ' H' ⟨z,rfl,rfl,ez⟩;have pad:PadOk ((n:Nat):Int)=true:=C4 n (by omega)
     refine⟨_,rfl,rfl,_,rfl,z,(n:Int),rfl,rfl,pad,_,rfl,fun D hD=>?_⟩
     refine Ce (p:=fun _=>true) (f:=fun c=>c) (S:=yL) ?_ hD rV ?_ ?_
     ·rw[<-Array.length_toList];show(TL.tl (Txt.rjust z (n:Int))).length<=100000;rw[F2,ez,List.length_append,List.length_replicate];split
      ·rw[List.length_replicate];omega
      ·rw[List.length_map];omega
     ·intro j c H3 hc s3 Fin Nx kY kN;exact⟨rfl,jt ⟨_,rfl,_,rfl,rfl,kY rfl H3 _ (aq.refl _) rfl⟩⟩
     ·intro H3 s3 e3;rw[eQ,List.map_id'] at e3;exact fin z ez D hD H3 s3 (xt e3)
    ·refine⟨_,rfl,sh,rfl,by omega,_,rfl,_,_,rfl,rfl,_,rfl,dF (fun g=>?_) (fun g=>?_)⟩
     ·have lt:n<(Pu.dec v.natAbs++[sb]).length:=by
       have:=of_decide_eq_true g;omega
      refine⟨_,rfl,_,_,rfl,rfl,?_,kk _ _ ⟨_,rfl,rfl,?_⟩⟩
      ·exact Cv n (by omega)
      ·rw[if_pos lt];exact zQ n n1
     ·have ge:¬n<(Pu.dec v.natAbs++[sb]).length:=fun z=>g (decide_eq_true (by omega))
      exact kk _ _ ⟨sh,rfl,rfl,by rw[if_neg ge];exact esh⟩
  ·refine⟨_,rfl,_,_,rfl,rfl,_,rfl,dF (fun g=>?_) (fun g=>?_)⟩
   ·have g:=of_decide_eq_true g;refine kk _ _ ⟨_,rfl,rfl,?_⟩;rw[hsb,if_pos g]
    decide +kernel
   ·have g:¬v<0:=fun z=>g (decide_eq_true z)
    refine kk _ _ ⟨_,rfl,rfl,?_⟩;rw[hsb,if_neg g]
    decide +kernel
end
def iB(P:Program)(w:World)(K:PySem.W.Frag)(mg:Str->Option Value)(base:Heap)(C:Addr)(m:Str)(k:Nat)(ps:List Str)(sp:Sp):Prop:=
 ∃f fd,aT P w K mg base CX0 k f fd ps sp/\yf K C m f/\gx K fd ps []
def Il(P:Program)(w:World)(K:PySem.W.Frag)(mg:Str->Option Value)(base:Heap)(x:Str)(k:Nat)(sp:Sp):Prop:=Cal P w K mg base x k [] sp
section
variable{P:Program}{w:World}{K:PySem.W.Frag}{mg:Str->Option Value}{base:Heap}{t:Adr}{u:cF}{f:Addr}{fd:FuncData}
theorem CZ{X:Cx}{k j:Nat}{sp:Sp}{x:Str}{p pos:Pos}(c:Il X.prog X.w X.K X.mg X.base x k sp)(hr:Room j X.A)(hk:k<=j)(hg:Gl X x)(hdb:(x==("__debug__" : Str))=false:=by decide):PE X (.Call (.Name x p) [] [] pos) (p9 sp [] E0 jz):=by
 obtain⟨f,fd,F,hm,kp,b⟩:=c;exact Br F (hr.mono hk) hg hm kp b .nil dP hdb
noncomputable def gj(i:Nat):Str:=(["to", "split", "look", "by", "plain", "other", "one", "two"]:List Str).getD i ""
def ph(H:Hp)(d:Addr)(g:Array Nat):Prop:=∃kvs,H d=some (.dT kvs)/\kvs.length<=200/\∀(into k:Nat),into<8->k<256->(cw kvs [Sum.inr (gj into),Sum.inl (k:Int)]).getD (.int 0)=vN (g.getD (256 * into+k) 0)
def vc:Sp:=fun vs H Q _=>∃(b d:Addr) (g:Array Nat) (into k:Nat),vs=[.ref b,.ref d]/\H b=some (.tup [.str (gj into),vN k])/\ph H d g/\into<8/\k<256/\Q (vN (g.getD (256 * into+k) 0)) H
theorem Hu:au ["hub", "taken"] ["hub", "taken"] (ae wj):=⟨rfl,rfl,rfl,by decide +kernel,rfl,by decide +kernel,by decide +kernel⟩
theorem Ez(F:Fun K "what_goes_into" "what_goes_into" wj f fd):aT P w K mg base CX0 1 f fd ["hub", "taken"] vc:=by
 refine F.ok Hu (fun vs H Q E h=>?_) (fun cdv A outer s H vs Q E hr h=>?_)
 ·obtain⟨b,d,g,into,k,rfl,_⟩:=h;rfl
 ·obtain⟨b,d,g,into,k,rfl,hb,⟨kvs,hd,hl,hv⟩,hi,hk,q⟩:=h;have hu:=eU hr;refine⟨_,a8 (ai (oB hu (pv 1) (pv 0) ah ⟨rfl,rfl,rfl,rfl⟩)),?_⟩;refine⟨_,rfl,d,rfl,.inr ⟨kvs,.inl hd⟩,_,rfl,_,ie.t (k:=[Sum.inr (gj into),Sum.inl (k:Int)]) hd hb,?_⟩;rw[<-hv into k hi hk] at q;exact q
theorem ph.same{H H':Hp}{d:Addr}{g:Array Nat}(sm:aq H H')(h:ph H d g):ph H' d g:=by
 obtain⟨kvs,hd,r⟩:=h;exact⟨kvs,sm _ _ hd,r⟩
theorem GI:vR (Pu.ascii "read") = "read" /\ vR (Pu.ascii "send") = "send" /\ vR (Pu.ascii "hole") = "hole" /\ vR (Pu.ascii "chosen") = "chosen" := by decide +kernel
theorem Hc:∀i,i<8->vR (Pu.ascii (Pu.TAKES.getD i ""))=gj i:=by decide +kernel
def B1(l:List JM.Wd):Prop:=(∃c,c<80/\l=[JM.wx "read",.n c])\/l=[JM.wx "send",.n 1]\/(∃i r,i<256/\r<=11/\l=[JM.wx "hole",.n i,.n r])\/∃i,i<256/\l=[JM.wx "chosen",.n i]
def pX(x:Pu.Card)(g:Array Nat):List JM.Wd->Nat
 |[.t a,.n n]=>Pu.sent x [] (Pu.flowOf g) ⟨JM.kindOf a,n,0,0,0⟩
 |[.t a,.n n,.n m]=>Pu.sent x [] (Pu.flowOf g) ⟨JM.kindOf a,n,m,0,0⟩
 |_=>0
theorem DI(g r:Nat):g &&& 2 ^ r=if g.testBit r=true then 2 ^ r else 0:=by
 apply Nat.eq_of_testBit_eq;intro i;rw[Nat.testBit_and,Nat.testBit_two_pow];by_cases e:r=i
 ·subst e;cases h:g.testBit r<;>simp
 ·rw[decide_eq_false e,Bool.and_false];split
  ·rw[Nat.testBit_two_pow,decide_eq_false e]
  ·rw[Nat.zero_testBit]
theorem xY(x:Pu.Card)(g:Array Nat)(n:Nat):pX x g [JM.wx "read",.n n]=x.getD n 0:=by
 show Pu.sent x [] (Pu.flowOf g) ⟨JM.kindOf (Pu.ascii "read"),n,0,0,0⟩=_;rw[JM.nJ.1];rfl
theorem y9(x:Pu.Card)(g:Array Nat)(n:Nat):pX x g [JM.wx "send",.n n]=Pu.code n:=by
 show Pu.sent x [] (Pu.flowOf g) ⟨JM.kindOf (Pu.ascii "send"),n,0,0,0⟩=_;rw[JM.nJ.2.1];rfl
theorem xV(x:Pu.Card)(g:Array Nat)(n m:Nat)(h:n<256):pX x g [JM.wx "hole",.n n,.n m]=g.getD (256 * 2+n) 0 &&& 2 ^ m:=by
 have fl:Pu.flowOf g 2 n=g.getD (256 * 2+n) 0:=if_pos h;show Pu.sent x [] (Pu.flowOf g) ⟨JM.kindOf (Pu.ascii "hole"),n,m,0,0⟩=_;rw[JM.nJ.2.2.1,DI,<-fl];rfl
theorem lJ(x:Pu.Card)(g:Array Nat)(n:Nat)(h:n<256):pX x g [JM.wx "chosen",.n n]=if g.getD (256 * 3+n) 0≠0 then g.getD (256 * 5+n) 0 else g.getD (256 * 4+n) 0:=by
 have f3:Pu.flowOf g 3 n=g.getD (256 * 3+n) 0:=if_pos h;have f4:Pu.flowOf g 4 n=g.getD (256 * 4+n) 0:=if_pos h;have f5:Pu.flowOf g 5 n=g.getD (256 * 5+n) 0:=if_pos h;show Pu.sent x [] (Pu.flowOf g) ⟨JM.kindOf (Pu.ascii "chosen"),n,0,0,0⟩=_;rw[JM.nJ.2.2.2,<-f3,<-f4,<-f5];rfl
def zT:Sp:=fun vs H Q _=>∃(b c d:Addr) (l:List JM.Wd) (x:Pu.Card) (g:Array Nat),vs=[.ref b,.ref c,.ref d]/\H b=some (.tup (l.map wv))/\B1 l/\gw H c x/\x.length=80/\ph H d g/\∀H',aq H H'->Q (vN (pX x g l)) H'
theorem uM:au ["hub", "card", "taken", "word", "number"] ["hub", "card", "taken"] (ae xk):=⟨rfl,rfl,rfl,by decide +kernel,rfl,by decide +kernel,by decide +kernel⟩
theorem DL(F:Fun K "what_is_sent" "what_is_sent" xk f fd)(cInto:Cal P w K mg base "what_goes_into" 1 ["hub", "taken"] vc)(cCode:Cal P w K mg base "code_holes" 3 ["number"] vV)(cRowH:Cal P w K mg base "row_holes" 1 ["row"] kE):aT P w K mg base CX0 4 f fd ["hub", "card", "taken"] zT:=by
 refine F.ok uM (fun vs H Q E h=>?_) (fun cdv A outer s H vs Q E hr h=>?_)
 ·obtain⟨b,c,d,l,x,g,rfl,_⟩:=h;rfl
 ·obtain⟨b,c,d,l,x,g,rfl,hb,hl,hc,x80,hT,k⟩:=h;obtain⟨e0,e1,e2,e3⟩:=GI;obtain⟨k0,k1,k5,k6⟩:=JM.nJ;have big:(1000:Nat)<sizeLine:=by decide
  refine⟨_,a4 (ax (i:=3) uM.nd rfl (Or.inl rfl) (bp cu (pv 0) ah (fun _ _=>rfl)))
   (a4 (ax (i:=4) uM.nd rfl (Or.inl rfl) (bp cu (pv 0) ah (fun _ _=>rfl)))
   (a4 (aP (aB bY (pv 3) aA (aJ _)) (a8 (ai (bp bK (pv 1) (pv 4) (fun _ _=>rfl)))) aD)
   (a4 (aP (aB bY (pv 3) aA (aJ _)) (a8 (ai (az cCode hr (by decide) rfl (a0 (pv 4) a5)))) aD)
   (a4 (aP (aB bY (pv 3) aA (aJ _)) (a8 (ai (aQ vi (az cInto hr (by decide) rfl (a0 (bc (a0 aA (a0 (pv 4) a5))) (a0 (pv 2) a5))) (az cRowH hr (by decide) rfl (a0 (bp cu (pv 0) ah (fun _ _=>rfl)) a5))))) aD)
   (a4 (aP (dY (az cInto hr (by decide) rfl (a0 (bc (a0 aA (a0 (pv 4) a5))) (a0 (pv 2) a5))) (fun _=>rfl)) (a8 (ai (az cInto hr (by decide) rfl (a0 (bc (a0 aA (a0 (pv 4) a5))) (a0 (pv 2) a5))))) aD)
   (a8 (ai (az cInto hr (by decide) rfl (a0 (bc (a0 aA (a0 (pv 4) a5))) (a0 (pv 2) a5)))))))))),?_⟩
  have fl:∀into n,n<256->Pu.flowOf g into n=g.getD (256 * into+n) 0:=fun into n h=>by
   show(if n<256 then g.getD (256 * into+n) 0 else 0)=_
   rw[if_pos h]
  rcases hl with⟨n,hn,rfl⟩ | rfl | ⟨i,r,hi,hr11,rfl⟩ | ⟨i,hi,rfl⟩
  ·have hb:H b=some (.tup [.str "read",.int (n:Int)]):=by rw[hb,<-e0];rfl
   refine⟨_,rfl,b,_,_,_,rfl,rfl,SqT.of hb,rfl,?_⟩;refine⟨_,rfl,b,_,_,_,rfl,rfl,SqT.of hb,rfl,?_⟩;refine⟨_,rfl,rfl,_,rfl,bh ⟨_,rfl,_,rfl,c,_,_,_,rfl,rfl,SqL.of hc,da (by rw[List.getElem?_map,List.getElem?_eq_getElem (by omega)];rfl),?_⟩⟩
   have:=k H (aq.refl _);rw[xY,List.getD_eq_getElem?_getD,List.getElem?_eq_getElem (by omega)] at this
   exact this
  ·have hb:H b=some (.tup [.str "send",.int ((1:Nat):Int)]):=by rw[hb,<-e1];rfl
   refine⟨_,rfl,b,_,_,_,rfl,rfl,SqT.of hb,rfl,?_⟩;refine⟨_,rfl,b,_,_,_,rfl,rfl,SqT.of hb,rfl,?_⟩;refine⟨_,rfl,rfl,_,rfl,aZ ⟨_,rfl,rfl,_,rfl,bh ⟨_,rfl,1,rfl,by decide,?_⟩⟩⟩
   have:=k H (aq.refl _);rw[y9] at this;exact this
  ·have hb:H b=some (.tup [.str "hole",.int (i:Int),.int (r:Int)]):=by rw[hb,<-e2];rfl
   refine⟨_,rfl,b,_,_,_,rfl,rfl,SqT.of hb,rfl,?_⟩;refine⟨_,rfl,b,_,_,_,rfl,rfl,SqT.of hb,rfl,?_⟩;refine⟨_,rfl,rfl,_,rfl,aZ ⟨_,rfl,rfl,_,rfl,aZ ⟨_,rfl,rfl,_,rfl,bh ?_⟩⟩⟩;refine⟨_,rfl,(by show 2<=sizeLine;decide),fun p hp=>?_⟩
   have s1:=ag (o:=.tup [.str "look",.int (i:Int)]) hp;refine⟨_,rfl,p,d,g,2,i,rfl,a7,hT.same s1,by decide,hi,?_⟩
   refine⟨_,rfl,b,_,_,_,rfl,rfl,SqT.of (s1 _ _ hb),rfl,r,rfl,hr11,_,_,rfl,rfl,?_⟩;have:=k _ s1;rw[xV x g i r hi] at this;exact this
  ·have hb:H b=some (.tup [.str "chosen",.int (i:Int)]):=by rw[hb,<-e3];rfl
   refine⟨_,rfl,b,_,_,_,rfl,rfl,SqT.of hb,rfl,?_⟩;refine⟨_,rfl,b,_,_,_,rfl,rfl,SqT.of hb,rfl,?_⟩;refine⟨_,rfl,rfl,_,rfl,aZ ⟨_,rfl,rfl,_,rfl,aZ ⟨_,rfl,rfl,_,rfl,aZ ?_⟩⟩⟩;refine⟨_,rfl,(by show 2<=sizeLine;decide),fun p hp=>?_⟩
   have s1:=ag (o:=.tup [.str "by",.int (i:Int)]) hp
   refine⟨_,rfl,p,d,g,3,i,rfl,a7,hT.same s1,by decide,hi,_,rfl,dF (fun z=>?_) (fun z=>?_)⟩
   ·refine⟨_,rfl,(by show 2<=sizeLine;decide),fun p2 hp2=>?_⟩
    have s2:=ag (o:=.tup [.str "other",.int (i:Int)]) hp2;refine⟨_,rfl,p2,d,g,5,i,rfl,a7,hT.same (s1.trans s2),by decide,hi,?_⟩
    have:=k _ (s1.trans s2);rw[lJ x g i hi,if_pos (by simpa using z)] at this
    exact this
   ·refine⟨_,rfl,(by show 2<=sizeLine;decide),fun p2 hp2=>?_⟩
    have s2:=ag (o:=.tup [.str "plain",.int (i:Int)]) hp2;refine⟨_,rfl,p2,d,g,4,i,rfl,a7,hT.same (s1.trans s2),by decide,hi,?_⟩
    have:=k _ (s1.trans s2);rw[lJ x g i hi,if_neg (by simpa using z)] at this
    exact this
def WrP(s:JM.Wr):Prop:=B1 s.1/\∃into k,into<8/\k<256/\s.2=[.t (Pu.ascii (Pu.TAKES.getD into "")),.n k]
theorem Dz:∀i,i<8->JM.dA (Pu.ascii (Pu.TAKES.getD i ""))=i:=by decide +kernel
theorem AB{s:JM.Wr}{into k:Nat}(h:B1 s.1)(hi:into<8)(e:s.2=[.t (Pu.ascii (Pu.TAKES.getD into "")),.n k])(x:Pu.Card)(g:Array Nat):(JM.eA s).into=into/\(JM.eA s).k=k/\Pu.sent x [] (Pu.flowOf g) (JM.eA s)=pX x g s.1:=by
 obtain⟨s1,s2⟩:=s;dsimp only at h e;subst e;have ei:=Dz into hi;rcases h with⟨c,_,rfl⟩ | rfl | ⟨i,r,_,_,rfl⟩ | ⟨i,_,rfl⟩
 ·exact⟨ei,rfl,rfl⟩
 ·exact⟨ei,rfl,rfl⟩
 ·exact⟨ei,rfl,rfl⟩
 ·exact⟨ei,rfl,rfl⟩
theorem zM:∀i,i<8->∀j,j<8->gj i=gj j->i=j:=by decide +kernel
theorem xZ(x:Pu.Card)(l:List Pu.Wire)(w:Pu.Wire)(g:Array Nat):JM.cW x (l++[w]) g=(JM.cW x l g).setIfInBounds (256 * w.into+w.k) (Pu.sent x [] (Pu.flowOf (JM.cW x l g)) w):=by
 unfold JM.cW;rw[List.foldl_append];rfl
def CY(H:Hp)(d:Addr)(g:Array Nat)(n:Nat):Prop:=∃kvs,H d=some (.dT kvs)/\kvs.length<=n/\∀(into k:Nat),into<8->k<256->(cw kvs [Sum.inr (gj into),Sum.inl (k:Int)]).getD (.int 0)=vN (g.getD (256 * into+k) 0)
theorem CY.at{H:Hp}{d:Addr}{g:Array Nat}{n:Nat}(h:CY H d g n)(hn:n<=200):ph H d g:=by
 obtain⟨kvs,h1,h2,h3⟩:=h;exact⟨kvs,h1,by omega,h3⟩
theorem Ea{H:Hp}{d:Addr}{g:Array Nat}{n:Nat}{kvs:List (List Key×V)}{into k v:Nat}(hl:kvs.length<=n)(hv:∀(into k:Nat),into<8->k<256->(cw kvs [Sum.inr (gj into),Sum.inl (k:Int)]).getD (.int 0)=vN (g.getD (256 * into+k) 0))(hi:into<8)(hk:k<256)(sz:g.size=2048) :
  CY (upd H d (.dT (dt kvs [Sum.inr (gj into),Sum.inl (k:Int)] (vN v)))) d (g.setIfInBounds (256 * into+k) v) (n+1):=by
 refine⟨_,a7,?_,fun i j hi2 hj=>?_⟩
 ·have:(dt kvs [Sum.inr (gj into),Sum.inl (k:Int)] (vN v)).length<=kvs.length+1:=by
   unfold dt;split
   ·rw[List.length_map];omega
   ·rw[List.length_append,List.length_singleton];omega
  omega
 ·rw[gP];by_cases e:i=into/\j=k
  ·rw[if_pos (by rw[e.1,e.2]),e.1,e.2]
   have:256 * into+k<g.size:=by omega
   simp[Array.getD_eq_getD_getElem?,Array.getElem?_setIfInBounds,this]
  ·have ne:¬([Sum.inr (gj i),Sum.inl (j:Int)]:List Key)=[Sum.inr (gj into),Sum.inl (k:Int)]:=fun z=>by
    rw[List.cons.injEq,List.cons.injEq] at z;exact e ⟨zM i hi2 into hi (Sum.inr.inj z.1),by have:=Sum.inl.inj z.2.1;omega⟩
   have ne2:256 * into+k≠256 * i+j:=fun z=>e (by omega)
   rw[if_neg ne,hv i j hi2 hj];simp[Array.getD_eq_getD_getElem?,Array.getElem?_setIfInBounds,ne2]
def ER:Sp:=fun vs H Q _=>∃(a c:Addr) (wr:List JM.Wr) (x:Pu.Card),vs=[.ref a,.ref c]/\bg H a WrV wr/\(∀s∈wr,WrP s)/\wr.length<=150/\gw H c x/\x.length=80/\∀H',aq H H'->Q (.bl ((JM.cW x (wr.map JM.eA) Pu.noFlow).getD 0 0 != 0)) H'
theorem wR:au ["panel", "card", "taken", "sends", "takes"] ["panel", "card"] (ae Dx):=⟨rfl,rfl,rfl,by decide +kernel,rfl,by decide +kernel,by decide +kernel⟩
theorem FF(F:Fun K "is_chosen" "is_chosen" Dx f fd)(cInto:Cal P w K mg base "what_goes_into" 1 ["hub", "taken"] vc)(cSent:Cal P w K mg base "what_is_sent" 4 ["hub", "card", "taken"] zT):aT P w K mg base CX0 5 f fd ["panel", "card"] ER:=by
 refine F.ok wR (fun vs H Q E h=>?_) (fun cdv A outer s H vs Q E hr h=>?_)
 ·obtain⟨a,c,wr,x,rfl,_⟩:=h;rfl
 ·obtain⟨a,c,wr,x,rfl,⟨vs,ha,pr⟩,ok,lw,hc,x80,k⟩:=h;have hu:=eU hr;have lv:=b5 pr;have big:(1000:Nat)<sizeLine:=by decide
  refine⟨_,a4 (ax (i:=2) wR.nd rfl (Or.inl rfl) zO)
   (a4 (bM PassesOwn.never rfl (bu (pv 0)) (fM rfl (ba (aH (i:=3) wR.nd rfl (Or.inl rfl)) (ba (aH (i:=4) wR.nd rfl (Or.inl rfl)) eR)))
    (a8 (jL hu (pv 2) (pv 4) (az cSent hr (by decide) rfl (a0 (pv 3) (a0 (pv 1) (a0 (pv 2) a5)))) rfl)))
   (a8 (ai (e7 ue (az cInto hr (by decide) rfl (a0 (bc (a0 aA (a0 ah a5))) (a0 (pv 2) a5))) ah (aJ _))))),?_⟩
  intro d hd;have s0:=ag (o:=.dT []) hd;have hd0:upd H d (.dT []) d=some (.dT []):=a7;generalize upd H d (.dT [])=H0 at s0 hd0;have z0:∀i,Pu.noFlow.getD i 0=0:=fun i=>by
   unfold Pu.noFlow;simp[Array.getD_eq_getD_getElem?,Array.getElem?_replicate];split<;>rfl
  refine⟨_,rfl,a,rfl,⟨_,SqL.of (s0 _ _ ha)⟩,d4 (K:=K) (a:=a) (xs:=vs) (fun i σ H'=>∃z3 z4,σ=[some (.ref a),some (.ref c),some (.ref d),z3,z4]/\aq H H'/\CY H' d (JM.cW x ((wr.take i).map JM.eA) Pu.noFlow) i) ?_ (by rintro i σ H' _ ⟨_,_,_,s,_⟩;exact SqL.of (s _ _ ha)) ?_ ?_⟩
  ·refine⟨none,none,rfl,s0,[],hd0,Nat.le_refl _,fun into k _ _=>?_⟩
   show V.int 0=vN (Pu.noFlow.getD _ 0);rw[z0];rfl
  ·rintro i v σ H1 hi ⟨z3,z4,rfl,s1,kvs,h1,l1,v1⟩;have hil:i<wr.length:=by rw[<-lv];exact(List.getElem?_eq_some_iff.mp hi).1
   have hw:wr[i]?=some wr[i]:=List.getElem?_eq_getElem hil;obtain⟨e,p,q,rfl,g1,g2,g3⟩:=m6 s1 (cj pr hi hw);obtain⟨so,into,kk,hin,hkk,e2⟩:=ok _ (List.getElem_mem hil);generalize wr[i]=ww at hw g2 g3 so e2;have g3:H1 q=some (.tup [.str (gj into),vN kk]):=by
    rw[g3,e2];show some (HO.tup [.str (vR (Pu.ascii (Pu.TAKES.getD into ""))),.int (kk:Int)])=_;rw[Hc into hin];rfl
   refine⟨e,_,rfl,SqT.of g1,rfl,_,_,rfl,_,_,rfl,rfl,?_⟩;refine⟨_,rfl,_,rfl,_,rfl,p,c,d,ww.1,x,_,rfl,g2,so,hc.same s1,x80,⟨kvs,h1,by omega,v1⟩,fun H2 s2=>?_⟩
   refine⟨_,rfl,_,rfl,d,_,rfl,lP.t (k:=[Sum.inr (gj into),Sum.inl (kk:Int)]) (s2 _ _ h1) (s2 _ _ g3) (by omega),_,_,rfl,fun b o z=>?_,?_⟩
   ·rw[af (a9 z hd)];exact s2 _ _ (s1 _ _ z)
   ·have sz:(JM.cW x ((wr.take i).map JM.eA) Pu.noFlow).size=2048:=by
     rw[JM.kH];unfold Pu.noFlow;rw[Array.size_replicate]
    obtain⟨w1,w2,w3⟩:=AB so hin e2 x (JM.cW x ((wr.take i).map JM.eA) Pu.noFlow);rw[bU hw,List.map_append,List.map_singleton,xZ,w1,w2,w3];exact Ea l1 v1 hin hkk sz
  ·rintro σ H1 ⟨z3,z4,rfl,s1,tk⟩;rw[lv,List.take_length] at tk;refine⟨(by show 2<=sizeLine;decide),fun p hp=>?_⟩
   have s2:=ag (o:=.tup [.str "to",.int 0]) hp;refine⟨_,rfl,p,d,_,0,0,rfl,a7,(tk.at (by omega)).same s2,by decide,by decide,rfl,?_⟩
   have:=k _ (s1.trans s2);generalize(JM.cW x (wr.map JM.eA) Pu.noFlow).getD 0 0=n at this;rw[show(n != 0)=!decide (V.int (n:Int)=V.int 0) by
    by_cases z:n=0
    ·subst z;rfl
    ·rw[decide_eq_false (fun q=>z (by have:=V.int.inj q;omega))];simpa using z] at this
   exact this
noncomputable def rmF(tr pn st pp:Addr):List (Str×V):=[("trays",.ref tr),("panels",.ref pn),("setups",.ref st),("paper",.ref pp)]
theorem ka(tr pn st pp:Addr):(rmF tr pn st pp).lookup ("trays" : Str)=some (V.ref tr)/\(rmF tr pn st pp).lookup ("panels" : Str)=some (V.ref pn)/\(rmF tr pn st pp).lookup ("setups" : Str)=some (V.ref st)/\(rmF tr pn st pp).lookup ("paper" : Str)=some (V.ref pp):=by
 refine⟨?_,?_,?_,?_⟩<;>rfl
def wm(u:cF):Sp:=fun vs H Q _=>∃(p dx a b c:Addr),vs=[.ref p,.ref a,.ref b,.ref c]/\H p=some (.ins u.cO dx [])/\∀(H':Hp) (q:Addr),H' p=some (.ins u.cO dx (rmF a b c q))->H q=none->H' q=some (.lst [])->(∀b o,H b=some o->b≠p->H' b=some o)->Q .non H'
theorem Ex:au ["self", "trays", "panels", "setups"] ["self", "trays", "panels", "setups"] (ae qk):=⟨rfl,rfl,rfl,by decide +kernel,rfl,by decide +kernel,by decide +kernel⟩
theorem B4(F:Fun K "__init__" "Room.__init__" qk f fd)(T:Tx2 K w mg u):aT P w K mg base CX0 1 f fd ["self", "trays", "panels", "setups"] (wm u):=by
 refine F.ok Ex (fun vs H Q E h=>?_) (fun cdv A outer s H vs Q E hr h=>?_)
 ·obtain⟨p,dx,a,b,c,rfl,_⟩:=h;rfl
 ·obtain⟨p,dx,a,b,c,rfl,hp,k⟩:=h;refine⟨_,a4 (c7 (pv 0) (pv 1) rfl) (a4 (c7 (pv 0) (pv 2) rfl) (a4 (c7 (pv 0) (pv 3) rfl) (a8 (c7 (pv 0) (b9 a5) rfl)))),?_⟩;refine⟨_,rfl,_,rfl,p,u.cO,dx,[],rfl,hp,T.clO,T.nOt,(by show 0<1000;decide),?_⟩
  refine⟨_,rfl,_,rfl,p,u.cO,dx,_,rfl,a7,T.clO,T.nOp,(by show 1<1000;decide),?_⟩
  refine⟨_,rfl,_,rfl,p,u.cO,dx,_,rfl,a7,T.clO,T.nOs,(by show 2<1000;decide),?_⟩
  refine⟨Nat.zero_le _,fun q hq=>?_⟩
  have npq:p≠q:=a9 a7 hq;have hq0:H q=none:=by
   rw[af (Ne.symm npq),af (Ne.symm npq),af (Ne.symm npq)] at hq;exact hq
  refine⟨_,rfl,p,u.cO,dx,_,rfl,by rw[af npq];exact a7,T.clO,T.nOr,(by show 3<1000;decide),?_⟩
  refine k _ q a7 hq0 (by rw[af (Ne.symm npq)];exact a7) fun b o e hb=>?_
  rw[af hb,af (a9 e hq0),af hb,af hb,af hb];exact e
def rQ(u:cF):Sp:=fun vs H Q _=>∃(r dx tr pn st pp:Addr) (y:Str) (kvs:List (Key×V)),vs=[.ref r,.str y]/\H r=some (.ins u.cO dx (rmF tr pn st pp))/\H tr=some (.dK kvs)/\
 (∀v,cw kvs (Sum.inr y)=some v->∀H',aq H H'->Q v H')/\(cw kvs (Sum.inr y)=none->∀H' q,aq H H'->H q=none->H' q=some (.lst [])->Q (.ref q) H')
theorem Hz:au ["self", "tray"] ["self", "tray"] (ae xb):=⟨rfl,rfl,rfl,by decide +kernel,rfl,by decide +kernel,by decide +kernel⟩
theorem CQ(F:Fun K "look_into" "Room.look_into" xb f fd)(T:Tx2 K w mg u):aT P w K mg base CX0 1 f fd ["self", "tray"] (rQ u):=by
 refine F.ok Hz (fun vs H Q E h=>?_) (fun cdv A outer s H vs Q E hr h=>?_)
 ·obtain⟨r,dx,tr,pn,st,pp,y,kvs,rfl,_⟩:=h;rfl
 ·obtain⟨r,dx,tr,pn,st,pp,y,kvs,rfl,h1,h2,kS,kN⟩:=h;have hu:=eU hr;refine⟨_,a8 (ai (oB hu (aI (pv 0) rfl) (pv 1) (b9 a5) ⟨rfl,rfl,rfl,rfl⟩)),?_⟩;refine⟨_,rfl,r,u.cO,dx,_,_,rfl,h1,T.clO,T.nOt,(ka _ _ _ _).1,tr,rfl,.inl ⟨kvs,.inl h2⟩,_,rfl,Nat.zero_le _,fun q hq=>?_⟩
  have s1:=ag (o:=.lst []) hq;refine⟨_,ie.k (k:=Sum.inr y) (s1 _ _ h2),?_⟩;cases e:cw kvs (Sum.inr y) with
  |some v=>exact kS v e _ s1
  |none=>exact kN e _ q s1 hq a7
theorem lj(tr pn st pp:Addr)(m:Str)(h:((m==("trays" : Str))=false/\(m==("panels" : Str))=false)/\(m==("setups" : Str))=false/\(m==("paper" : Str))=false):(rmF tr pn st pp).lookup m=none:=by
 unfold rmF;simp[List.lookup,h.1.1,h.1.2,h.2.1,h.2.2]
def Aa(u:cF):Sp:=fun vs H Q _=>∃(r dx tr pn st pp:Addr) (y:Str) (kvs:List (Key×V)) (v:V),vs=[.ref r,.str y]/\H r=some (.ins u.cO dx (rmF tr pn st pp))/\H tr=some (.dK kvs)/\kvs.length<=100/\cw kvs (Sum.inr y)=some v/\
 ∀H' q,bZ tr H H'->H q=none->H' q=some (.lst [])->H' tr=some (.dK (dt kvs (Sum.inr y) (.ref q)))->Q v H'
theorem EX:au ["self", "tray", "cards"] ["self", "tray"] (ae C2):=⟨rfl,rfl,rfl,by decide +kernel,rfl,by decide +kernel,by decide +kernel⟩
theorem GF(F:Fun K "take_out" "Room.take_out" C2 f fd)(T:Tx2 K w mg u)(cLook:iB P w K mg base u.cO "look_into" 1 ["self", "tray"] (rQ u)):aT P w K mg base CX0 2 f fd ["self", "tray"] (Aa u):=by
 refine F.ok EX (fun vs H Q E h=>?_) (fun cdv A outer s H vs Q E hr h=>?_)
 ·obtain⟨r,dx,tr,pn,st,pp,y,kvs,v,rfl,_⟩:=h;rfl
 ·obtain⟨r,dx,tr,pn,st,pp,y,kvs,v,rfl,h1,h2,hl,hv,k⟩:=h;have hu:=eU hr;have big:(1000:Nat)<sizeLine:=by decide
  obtain⟨fL,fdL,FL,mL,bL⟩:=cLook;refine⟨_,a4 (ax (i:=2) EX.nd rfl (Or.inl rfl) (cJ (pv 0) T.clO mL FL (hr.mono (by decide)) bL .nil dP (a0 (pv 1) a5)))
   (a4 (jL hu (aI (pv 0) rfl) (pv 1) (b9 a5) rfl)
   (a8 (ai (pv 2)))),?_⟩
  refine⟨_,rfl,r,dx,_,rfl,h1,lj _ _ _ _ _ (by decide +kernel),_,rfl,?_⟩
  refine⟨r,dx,tr,pn,st,pp,y,kvs,rfl,h1,h2,fun v' e H1 s1=>?_,fun e=>by rw[e] at hv;cases hv⟩
  rw[hv] at e;cases e;refine⟨Nat.zero_le _,fun q hq=>?_⟩
  have s2:=s1.trans (ag (o:=.lst []) hq);have hq2:upd H1 q (.lst []) q=some (.lst []):=a7;generalize upd H1 q (.lst [])=H2 at s2 hq2;refine⟨_,rfl,r,u.cO,dx,_,_,rfl,s2 _ _ h1,T.clO,T.nOt,(ka _ _ _ _).1,_,rfl,tr,_,rfl,lP.k (k:=Sum.inr y) (s2 _ _ h2) (by omega),?_⟩
  have hq0:H q=none:=s1.free hq;have nq:q≠tr:=fun z=>by rw[z,h2] at hq0;cases hq0
  refine⟨_,rfl,k _ q (fun b o n z=>by rw[af n];exact s2 _ _ z) hq0 (by rw[af nq];exact hq2) a7⟩
def zJ(u:cF):Sp:=fun vs H Q _=>∃(r dx tr pn st pp a:Addr) (y:Str) (kvs:List (Key×V)) (xs zs:List V),vs=[.ref r,.str y,.ref a]/\H r=some (.ins u.cO dx (rmF tr pn st pp))/\H tr=some (.dK kvs)/\kvs.length<=100/\H a=some (.lst zs)/\xs.length+zs.length<=50000/\
 ((∃b,cw kvs (Sum.inr y)=some (.ref b)/\H b=some (.lst xs))\/cw kvs (Sum.inr y)=none/\xs=[])/\∀H' q,bZ tr H H'->H q=none->H' q=some (.lst (xs++zs))->H' tr=some (.dK (dt kvs (Sum.inr y) (.ref q)))->Q .non H'
theorem HF:au ["self", "tray", "cards"] ["self", "tray", "cards"] (ae Cn):=⟨rfl,rfl,rfl,by decide +kernel,rfl,by decide +kernel,by decide +kernel⟩
theorem Gq(F:Fun K "put_behind" "Room.put_behind" Cn f fd)(T:Tx2 K w mg u)(cLook:iB P w K mg base u.cO "look_into" 1 ["self", "tray"] (rQ u)):aT P w K mg base CX0 2 f fd ["self", "tray", "cards"] (zJ u):=by
 refine F.ok HF (fun vs H Q E h=>?_) (fun cdv A outer s H vs Q E hr h=>?_)
 ·obtain⟨r,dx,tr,pn,st,pp,a,y,kvs,xs,zs,rfl,_⟩:=h;rfl
 ·obtain⟨r,dx,tr,pn,st,pp,a,y,kvs,xs,zs,rfl,h1,h2,hl,ha,hz,hv,k⟩:=h;have hu:=eU hr;have big:(100000:Nat)<sizeLine:=by decide
  obtain⟨fL,fdL,FL,mL,bL⟩:=cLook;refine⟨_,a8 (jL hu (aI (pv 0) rfl) (pv 1) (aQ mX (cJ (pv 0) T.clO mL FL (hr.mono (by decide)) bL .nil dP (a0 (pv 1) a5)) (pv 2)) rfl),?_⟩
  refine⟨_,rfl,r,dx,_,rfl,h1,lj _ _ _ _ _ (by decide +kernel),_,rfl,?_⟩
  have fin:∀(H1:Hp) (b:Addr),aq H H1->H1 b=some (.lst xs)->∀q,H1 q=none->bZ tr H (upd (upd H1 q (.lst (xs++zs))) tr (.dK (dt kvs (Sum.inr y) (.ref q))))/\H q=none/\upd (upd H1 q (.lst (xs++zs))) tr (.dK (dt kvs (Sum.inr y) (.ref q))) q=some (.lst (xs++zs)):=fun H1 b s1 hb q hq=>by
   have hq0:H q=none:=s1.free hq;have nq:q≠tr:=fun z=>by rw[z,h2] at hq0;cases hq0
   exact⟨fun b o n z=>by rw[af n,af (a9 z hq0)];exact s1 _ _ z,hq0,by rw[af nq];exact a7⟩
  refine⟨r,dx,tr,pn,st,pp,y,kvs,rfl,h1,h2,fun v e H1 s1=>?_,fun e H1 b s1 nb hb=>?_⟩
  ·obtain⟨b,e2,hb⟩:∃b,cw kvs (Sum.inr y)=some (.ref b)/\H b=some (.lst xs):=by
    rcases hv with z | z
    ·exact z
    ·rw[z.1] at e;cases e
   rw[e2] at e;cases e;refine⟨_,rfl,b,a,xs,zs,rfl,rfl,s1 _ _ hb,s1 _ _ ha,by omega,fun q hq=>?_⟩
   obtain⟨f1,f2,f3⟩:=fin H1 b s1 (s1 _ _ hb) q hq;exact⟨_,rfl,r,u.cO,dx,_,_,rfl,(by rw[af (a9 (s1 _ _ h1) hq)];exact s1 _ _ h1),T.clO,T.nOt,(ka _ _ _ _).1,_,rfl,tr,_,rfl,lP.k (k:=Sum.inr y) (by rw[af (a9 (s1 _ _ h2) hq)];exact s1 _ _ h2) (by omega),k _ q f1 f2 f3 a7⟩
  ·have x0:xs=[]:=by
    rcases hv with⟨b,z,_⟩ | z
    ·rw[z] at e;cases e
    ·exact z.2
   subst x0;refine⟨_,rfl,b,a,[],zs,rfl,rfl,hb,s1 _ _ ha,by omega,fun q hq=>?_⟩
   obtain⟨f1,f2,f3⟩:=fin H1 b s1 hb q hq;exact⟨_,rfl,r,u.cO,dx,_,_,rfl,(by rw[af (a9 (s1 _ _ h1) hq)];exact s1 _ _ h1),T.clO,T.nOt,(ka _ _ _ _).1,_,rfl,tr,_,rfl,lP.k (k:=Sum.inr y) (by rw[af (a9 (s1 _ _ h2) hq)];exact s1 _ _ h2) (by omega),k _ q f1 f2 f3 a7⟩
end
theorem yQ{x:JM.Pt}{i:Nat}(hc:JM.n0 x<80)(hr:JM.n1 x<=11)(hi:i<16):∀s∈JM.dw x i,WrP s:=by
 intro s hs;unfold JM.dw at hs;rcases List.mem_append.mp hs with z | z
 ·rw[List.mem_singleton.mp z];exact⟨.inl ⟨_,hc,rfl⟩,2,i,by decide,by omega,rfl⟩
 ·rcases List.mem_append.mp z with z | z
  ·split at z
   ·rw[List.mem_singleton.mp z];exact⟨.inr (.inr (.inl ⟨i,_,by omega,hr,rfl⟩)),3,16+i,by decide,by omega,rfl⟩
   ·rcases List.mem_cons.mp z with z | z
    ·rw[z];exact⟨.inr (.inr (.inl ⟨i,_,by omega,hr,rfl⟩)),3,i,by decide,by omega,rfl⟩
    ·rcases List.mem_cons.mp z with z | z
     ·rw[z];exact⟨.inr (.inl rfl),4,i,by decide,by omega,rfl⟩
     ·rw[List.mem_singleton.mp z];exact⟨.inr (.inr (.inr ⟨i,by omega,rfl⟩)),3,16+i,by decide,by omega,rfl⟩
  ·rw[List.mem_singleton.mp z];split
   ·exact⟨.inr (.inl rfl),5,16+i,by decide,by omega,rfl⟩
   ·exact⟨.inr (.inr (.inr ⟨16+i-1,by omega,rfl⟩)),5,16+i,by decide,by omega,rfl⟩
theorem yy{ws:List JM.Pt}(ok:∀x∈ws,JM.eB x/\JM.isW x=true)(hl:ws.length<=16):∀s∈JM.eO ws,WrP s:=by
 intro s hs;unfold JM.eO at hs;rcases List.mem_append.mp hs with z | z
 ·obtain⟨⟨x,i⟩,hx,hs⟩:=List.mem_flatMap.mp z;have hm:=List.mem_zipIdx_iff_getElem?.mp hx;have il:=(List.getElem?_eq_some_iff.mp hm).1;obtain⟨o,wI⟩:=ok x (List.mem_of_getElem? hm);have w:=(@JM.cz x).1.mp wI;have b:JM.n0 x<80/\JM.n1 x<=11:=by
   obtain⟨k,vs⟩:=x;rcases w with w | w
   ·have w:k=0:=w;subst w;obtain⟨c,r,e,c79,r11⟩:=o.2;have e:vs=[c,r]:=e;subst e;exact⟨by show c<80;omega,r11⟩
   ·have w:k=1:=w;subst w;obtain⟨c,r,e,c79,r11⟩:=o.2;have e:vs=[c,r]:=e;subst e;exact⟨by show c<80;omega,r11⟩
  exact yQ b.1 b.2 (by dsimp only at il;omega) s hs
 ·rw[List.mem_singleton.mp z];split
  ·exact⟨.inr (.inl rfl),0,0,by decide,by decide,rfl⟩
  ·exact⟨.inr (.inr (.inr ⟨15+ws.length,by omega,rfl⟩)),0,0,by decide,by decide,rfl⟩
theorem yk{ws:List JM.Pt}(hl:ws.length<=16):(JM.eO ws).length<=150:=by
 have one:∀(x:JM.Pt) (i:Nat),(JM.dw x i).length<=5:=fun x i=>by
  unfold JM.dw;rw[List.length_append,List.length_append];split
  ·simp
  ·simp
 have all:∀(l:List (JM.Pt×Nat)),(l.flatMap fun x=>JM.dw x.1 x.2).length<=5 * l.length:=fun l=>by
  induction l with
  |nil=>exact Nat.zero_le _
  |cons a l ih=>
   rw[List.flatMap_cons,List.length_append,List.length_cons];have:=one a.1 a.2;omega
 have:=all ws.zipIdx;unfold JM.eO;rw[List.length_append,List.length_singleton];rw[List.length_zipIdx] at this;omega
section
variable{P:Program}{w:World}{K:PySem.W.Frag}{mg:Str->Option Value}{base:Heap}{t:Adr}{u:cF}{f:Addr}{fd:FuncData}
noncomputable def mcF(st ct:Addr)(lc:V)(ln:Addr):List (Str×V):=[("setup",.ref st),("counts",.ref ct),("last_card",lc),("lines",.ref ln)]
theorem eV(st ct:Addr)(lc:V)(ln:Addr):(mcF st ct lc ln).lookup ("setup" : Str)=some (V.ref st)/\(mcF st ct lc ln).lookup ("counts" : Str)=some (V.ref ct)/\(mcF st ct lc ln).lookup ("last_card" : Str)=some lc/\(mcF st ct lc ln).lookup ("lines" : Str)=some (V.ref ln):=by
 refine⟨?_,?_,?_,?_⟩<;>rfl
noncomputable def suF(h g c th:Addr):List (Str×V):=[("head",.ref h),("signs",.ref g),("counters",.ref c),("things",.ref th)]
theorem lh(h g c th:Addr):(suF h g c th).lookup ("head" : Str)=some (V.ref h)/\(suF h g c th).lookup ("signs" : Str)=some (V.ref g)/\(suF h g c th).lookup ("counters" : Str)=some (V.ref c)/\(suF h g c th).lookup ("things" : Str)=some (V.ref th):=by
 refine⟨?_,?_,?_,?_⟩<;>rfl
theorem jj(st ct:Addr)(lc:V)(ln:Addr)(m:Str)(h:((m==("setup" : Str))=false/\(m==("counts" : Str))=false)/\(m==("last_card" : Str))=false/\(m==("lines" : Str))=false):(mcF st ct lc ln).lookup m=none:=by
 unfold mcF;simp[List.lookup,h.1.1,h.1.2,h.2.1,h.2.2]
def J8(q:List Nat):Prop:=∃l h c n,q=[l,h,c,n,0,0]/\(h=2\/(h≠2/\1<=n/\c+n<=80))
def G4(N:Nat)(q:List Nat):Prop:=∃l v a n p d,q=[l,v,a,n,p,d]/\((v=0/\l≠4/\a+n<=80/\p+n<=132)\/(v=1/\a<N/\p+d<=132/\2<=d/\d<=20))
structure Su(u:cF)(H:Hp)(st:Addr)(hd:List Nat)(cs th:List (List Nat))(s:Int)(lg:List Int):Prop where
 ex:∃dx h g c y,H st=some (.ins u.cU dx (suF h g c y))/\H h=some (.lst (hd.map vN))/\sS u H g s lg/\bg H c gN cs/\bg H y gN th
 h64:lg.length=64
 lc:cs.length<=100
 lt:th.length<=1000
 cOk:∀q∈cs,J8 q
 tOk:∀q∈th,G4 cs.length q
 hl:hd.length=9
theorem Su.same{H H':Hp}{st:Addr}{hd:List Nat}{cs th:List (List Nat)}{s:Int}{lg:List Int}(sm:aq H H')(h:Su u H st hd cs th s lg):Su u H' st hd cs th s lg:=by
 obtain⟨⟨dx,a,g,c,y,h1,h2,h3,h4,h5⟩,r1,r2,r3,r4,r5,r6⟩:=h;exact⟨⟨dx,a,g,c,y,sm _ _ h1,sm _ _ h2,h3.same sm,cQ (fun _ _=>du sm) sm h4,cQ (fun _ _=>du sm) sm h5⟩,r1,r2,r3,r4,r5,r6⟩
def LnP(H:Hp)(ct ln b:Addr)(l:List Int):Prop:=b≠ct/\b≠ln/\l.length=132/\H b=some (.lst (l.map V.int))
def zz(H0:Hp)(lc:V)(o:Option Pu.Card):Prop:=(lc=.non/\o=none)\/∃c x,lc=.ref c/\o=some x/\gw H0 c x/\lM x
structure Mc(u:cF)(H0 H:Hp)(m st ct ln:Addr)(n B:Nat)(M:JM.MSt):Prop where
 ins:∃dx lc,H m=some (.ins u.cM dx (mcF st ct lc ln))/\zz H0 lc M.last
 same:aq H0 H
 nm:H0 m=none
 nc:H0 ct=none
 nl:H0 ln=none
 cl:ct≠ln
 cts:H ct=some (.lst (M.k.map V.int))
 lns:∃bs:List Addr,H ln=some (.lst (bs.map V.ref))/\Paired (LnP H ct ln) bs M.lines
 len:M.k.length=n
 fit:∀v∈M.k,v.natAbs<10 ^ 16
 few:M.lines.length<=B
theorem Mc.keep{H0 H H':Hp}{m st ct ln:Addr}{n B:Nat}{M:JM.MSt}(sm:aq H H')(h:Mc u H0 H m st ct ln n B M):Mc u H0 H' m st ct ln n B M:=by
 obtain⟨⟨dx,lc,h1,h2⟩,h3,h4,h5,h6,h7,h8,⟨bs,h9,h10⟩,h11,h12,h13⟩:=h;exact⟨⟨dx,lc,sm _ _ h1,h2⟩,h3.trans sm,h4,h5,h6,h7,sm _ _ h8,⟨bs,sm _ _ h9,Paired.mapP h10 fun b l z=>⟨z.1,z.2.1,z.2.2.1,sm _ _ z.2.2.2⟩⟩,h11,h12,h13⟩
theorem Mc.more{H0 H:Hp}{m st ct ln:Addr}{n B B':Nat}{M:JM.MSt}(h:Mc u H0 H m st ct ln n B M)(l:B<=B'):Mc u H0 H m st ct ln n B' M:=⟨h.ins,h.same,h.nm,h.nc,h.nl,h.cl,h.cts,h.lns,h.len,h.fit,Nat.le_trans h.few l⟩
def wB(u:cF):Sp:=fun vs H Q _=>∃(p dx st:Addr) (hd:List Nat) (cs th:List (List Nat)) (s:Int) (lg:List Int),vs=[.ref p,.ref st]/\H p=some (.ins u.cM dx [])/\Su u H st hd cs th s lg/\
 ∀(H':Hp) (ct ln:Addr),H' p=some (.ins u.cM dx (mcF st ct .non ln))->H ct=none->H ln=none->ct≠ln->H' ct=some (.lst ((List.replicate cs.length (0:Int)).map V.int))->H' ln=some (.lst [])->(∀b o,H b=some o->b≠p->H' b=some o)->Q .non H'
theorem qS:au ["self", "setup", "counter"] ["self", "setup"] (ae mD):=⟨rfl,rfl,rfl,by decide +kernel,rfl,by decide +kernel,by decide +kernel⟩
theorem BS:gv ["self", "setup", "counter"] (ae mD) (iE [(".0",.local),("counter",.local)]) [("counter",2)]=true:=by decide +kernel
theorem A1(F:Fun K "__init__" "Machine.__init__" mD f fd)(T:Tx2 K w mg u):aT P w K mg base CX0 1 f fd ["self", "setup"] (wB u):=by
 refine F.ok qS (fun vs H Q E h=>?_) (fun cdv A outer s H vs Q E hr h=>?_)
 ·obtain⟨p,dx,st,hd,cs,th,sg,lg,rfl,_⟩:=h;rfl
 ·obtain⟨p,dx,st,hd,cs,th,sg,lg,rfl,hp,⟨⟨dxs,a,g,c,y,hs,h1,h2,⟨vs,h3,pr⟩,h4⟩,z1,lcs,_⟩,k⟩:=h;refine⟨_,a4 (c7 (pv 0) (pv 1) rfl) (a4 (c7 (pv 0) (fG (own:=[("counter",2)]) rfl qS.nd (bu (aI (pv 1) rfl)) (bD BS) (fun s H C cl fp=>aH (i:=2) qS.nd rfl (Or.inl rfl)) (fun s H C cl fp=>dj) (fun s H C cl fp=>ah)) rfl)
   (a4 (c7 (pv 0) cG rfl) (a8 (c7 (pv 0) (b9 a5) rfl)))),?_⟩
  refine⟨_,rfl,_,rfl,p,u.cM,dx,[],rfl,hp,T.clM,T.nMs,(by show 0<1000;decide),?_⟩
  have nps:st≠p:=cX hs hp (by intro z;injection z with _ _ z;cases z)
  have npc:c≠p:=cX h3 hp (by intro z;cases z)
  have lv:=b5 pr;refine⟨_,rfl,st,u.cU,dxs,_,_,rfl,by rw[af nps];exact hs,T.clU,T.nUc,(lh _ _ _ _).2.2.1,c,rfl,⟨_,SqL.of (by rw[af npc];exact h3)⟩,fun D hD=>?_⟩
  have nD:D≠p:=fun z=>by rw[z,a7] at hD;cases hD
  have hD0:H D=none:=by rw[af nD] at hD;exact hD
  refine dH (xs:=cs) (p:=fun _=>true) (f:=fun _=>(0:Int)) (S:=yH) lv (by omega) hD (SqL.of (by rw[af npc];exact h3)) qd ?_ (fun H2 s2 e2=>?_)
  ·intro i v x H' hv hx s Fin Nx kY kN;exact⟨rfl,jt (kY rfl H' _ (aq.refl _) rfl)⟩
  ·rw[eQ,List.map_const'] at e2;have e2:=uA e2;have hp2:=s2 _ _ a7;have off2:∀b o,H b=some o->b≠p->H2 b=some o:=fun b o e n=>s2 _ _ (by rw[af n];exact e)
   refine⟨_,rfl,p,u.cM,dx,_,rfl,hp2,T.clM,T.nMc,(by show 1<1000;decide),?_⟩
   refine⟨_,rfl,p,u.cM,dx,_,rfl,a7,T.clM,T.nMl,(by show 2<1000;decide),?_⟩
   refine⟨Nat.zero_le _,fun q hq=>?_⟩
   have npq:q≠p:=fun z=>by rw[z,a7] at hq;cases hq
   have hq2:H2 q=none:=by
    rw[af npq,af npq] at hq;exact hq
   have hq0:H q=none:=by
    cases e:H q with
    |none=>rfl
    |some o=>rw[off2 _ _ e npq] at hq2;cases hq2
   have nDq:D≠q:=fun z=>by rw[z,hq2] at e2;cases e2
   refine⟨_,rfl,p,u.cM,dx,_,rfl,by rw[af (Ne.symm npq)];exact a7,T.clM,T.nMi,(by show 3<1000;decide),?_⟩
   refine k _ D q a7 hD0 hq0 nDq ?_ (by rw[af npq];exact a7) fun b o e hb=>?_
   ·rw[af nD,af nDq,af nD,af nD];exact e2
   ·rw[af hb,af (a9 e hq0),af hb,af hb];exact off2 _ _ e hb
theorem zH(l:List Nat):l.map vN=(l.map Int.ofNat).map V.int:=by
 rw[List.map_map];rfl
theorem AV(l m:List Nat):decide (l.map Int.ofNat=m.map Int.ofNat)=decide (l=m):=by
 apply Bool.eq_iff_iff.mpr;rw[decide_eq_true_iff,decide_eq_true_iff];constructor
 ·intro h;have:=congrArg (List.map Int.toNat) h;rw[List.map_map,List.map_map] at this;have id:(Int.toNat ∘ Int.ofNat)=id:=by funext n;rfl
  rw[id,List.map_id,List.map_id] at this;exact this
 ·intro h;rw[h]
def AA(u:cF):Sp:=fun vs H Q _=>∃(H0:Hp) (m st ct ln c:Addr) (n B:Nat) (M:JM.MSt) (hd:List Nat) (cs th:List (List Nat)) (s:Int) (lg:List Int) (x:Pu.Card),vs=[.ref m,.ref c]/\Mc u H0 H m st ct ln n B M/\Su u H0 st hd cs th s lg/\gw H0 c x/\
 ∀H',aq H H'->Q (vN (JM.e8 hd M.last x)) H'
theorem oE:au ["self", "card", "head", "level", "column", "length"] ["self", "card"] (ae xT):=⟨rfl,rfl,rfl,by decide +kernel,rfl,by decide +kernel,by decide +kernel⟩
theorem Ep(F:Fun K "ended_level" "Machine.ended_level" xT f fd)(T:Tx2 K w mg u)(cFldOf:Cal P w K mg base "field_of" 1 ["card", "column", "length"] mi):aT P w K mg base CX0 2 f fd ["self", "card"] (AA u):=by
 refine F.ok oE (fun vs H Q E h=>?_) (fun cdv A outer s H vs Q E hr h=>?_)
 ·obtain⟨H0,m,st,ct,ln,c,n,B,M,hd,cs,th,sg,lg,x,rfl,_⟩:=h;rfl
 ·obtain⟨H0,m,st,ct,ln,c,n,B,M,hd,cs,th,sg,lg,x,rfl,mc,su,hc,k⟩:=h;have hu64:=hr.units;obtain⟨⟨dx,lc,hm,la⟩,sm,_⟩:=mc;obtain⟨⟨dxs,a,g,ct',y,hs,h1,_⟩,_,_,_,_,_,hl⟩:=su;have big:(1000:Nat)<sizeLine:=by decide
  refine⟨_,a4 (aP (aB iV (aI (pv 0) rfl) cG (aJ _)) (a8 (ai ah)) aD)
   (a4 (ax (i:=2) oE.nd rfl (Or.inl rfl) (aI (aI (pv 0) rfl) rfl))
   (a4 (bM PassesOwn.never rfl (l6 rfl T.zRange (a0 (bH T.kCtlL rfl) (a0 ah (a0 (i7 fk ah) a5)))) (aH (i:=3) oE.nd rfl (Or.inl rfl))
    (a4 (ax (i:=4) oE.nd rfl (Or.inl rfl) (bp bK (pv 2) (aQ fi (aQ gu ah (pv 3)) ah) (fun _ _=>rfl)))
    (a4 (ax (i:=5) oE.nd rfl (Or.inl rfl) (bp bK (pv 2) (aQ fi (aQ gu ah (pv 3)) ah) (fun _ _=>rfl)))
    (a8 (aP (aB (Gr hu64) (az cFldOf hr (by decide) rfl (a0 (pv 1) (a0 (pv 4) (a0 (pv 5) a5)))) (az cFldOf hr (by decide) rfl (a0 (aI (pv 0) rfl) (a0 (pv 4) (a0 (pv 5) a5)))) (aJ _)) (a8 (ai (pv 3))) aD)))))
   (a8 (ai ah)))),?_⟩
  refine⟨_,rfl,m,u.cM,dx,_,_,rfl,hm,T.clM,T.nMl,(eV _ _ _ _).2.2.1,rfl,_,rfl,?_⟩;rcases la with⟨rfl,e0⟩ | ⟨c2,x2,rfl,e0,hc2,_⟩
  ·refine bh ?_;have:=k H (aq.refl _);rw[e0] at this;exact this
  ·rw[e0] at k;refine aZ ?_;refine⟨_,rfl,m,u.cM,dx,_,_,rfl,hm,T.clM,T.nMs,(eV _ _ _ _).1,st,u.cU,dxs,_,_,rfl,sm _ _ hs,T.clU,T.nUh,(lh _ _ _ _).1,?_⟩;have rg:RgC 3 0 (-1) 3:=RgC.neg (i:=3) (j:=0) (by omega) (by omega) (by omega) (by omega)
   refine⟨_,rfl,3,0,-1,3,rfl,rg,jF (lo:=3) (c:=-1) (n:=3) (fun i σ H'=>∃z3 z4 z5,σ=[some (.ref m),some (.ref c),some (.ref a),z3,z4,z5]/\aq H H'/\∀j,j<i->Pu.fieldOf x (hd.getD (4-2 * j) 0) (hd.getD (5-2 * j) 0)=Pu.fieldOf x2 (hd.getD (4-2 * j) 0) (hd.getD (5-2 * j) 0)) ?_ ?_ ?_⟩
   ·exact⟨none,none,none,rfl,aq.refl _,fun j hj=>by omega⟩
   ·rintro i σ H1 hi ⟨z3,z4,z5,rfl,s1,eq⟩;have lv:(3:Int)+((i:Nat):Int) * -1=((3-i:Nat):Int):=by omega
    rw[lv];have e1:(2:Int) * ((3-i:Nat):Int)-2=((4-2 * i:Nat):Int):=by omega
    have e2:(2:Int) * ((3-i:Nat):Int)-1=((5-2 * i:Nat):Int):=by omega
    have at1:∀j,j<9->(hd.map vN)[j]?=some (vN (hd.getD j 0)):=fun j hj=>by
     rw[List.getElem?_map,List.getD_eq_getElem?_getD,List.getElem?_eq_getElem (by omega)]
     rfl
    have ha:=s1 _ _ (sm _ _ h1);refine⟨_,rfl,_,rfl,_,_,rfl,rfl,.inl ⟨by decide,by decide⟩,_,_,rfl,rfl,a,_,_,_,rfl,rfl,SqL.of ha,by rw[e1];exact da (at1 _ (by omega)),?_⟩
    refine⟨_,rfl,_,rfl,_,_,rfl,rfl,.inl ⟨by decide,by decide⟩,_,_,rfl,rfl,a,_,_,_,rfl,rfl,SqL.of ha,by rw[e2];exact da (at1 _ (by omega)),?_⟩
    refine⟨_,rfl,_,rfl,_,rfl,c,x,_,_,rfl,hc.same (sm.trans s1),fun p hp=>?_⟩
    have s2:=ag (o:=.lst ((Pu.fieldOf x (hd.getD (4-2 * i) 0) (hd.getD (5-2 * i) 0)).map vN)) hp;refine⟨_,rfl,m,u.cM,dx,_,_,rfl,s2 _ _ (s1 _ _ hm),T.clM,T.nMl,(eV _ _ _ _).2.2.1,_,rfl,_,rfl,c2,x2,_,_,rfl,hc2.same ((sm.trans s1).trans s2),fun q hq=>?_⟩
    have s3:=ag (o:=.lst ((Pu.fieldOf x2 (hd.getD (4-2 * i) 0) (hd.getD (5-2 * i) 0)).map vN)) hq;have hp3:=s3 _ _ (a7 (H:=H1) (a:=p) (o:=.lst ((Pu.fieldOf x (hd.getD (4-2 * i) 0) (hd.getD (5-2 * i) 0)).map vN)));refine⟨p,q,(Pu.fieldOf x (hd.getD (4-2 * i) 0) (hd.getD (5-2 * i) 0)).map Int.ofNat,(Pu.fieldOf x2 (hd.getD (4-2 * i) 0) (hd.getD (5-2 * i) 0)).map Int.ofNat,rfl,rfl,SqL.of (by rw[<-zH];exact hp3),SqL.of (by rw[<-zH];exact a7),_,rfl,?_⟩
    rw[AV];have sA:=(s1.trans s2).trans s3;by_cases e:Pu.fieldOf x (hd.getD (4-2 * i) 0) (hd.getD (5-2 * i) 0)=Pu.fieldOf x2 (hd.getD (4-2 * i) 0) (hd.getD (5-2 * i) 0)
    ·rw[decide_eq_true e];refine aZ ⟨_,_,_,rfl,sA,fun j hj=>?_⟩
     rcases Nat.lt_or_ge j i with z | z
     ·exact eq j z
     ·rw[show j=i by omega]
      exact e
    ·rw[decide_eq_false e];refine bh ⟨_,rfl,?_⟩;have:=k _ sA;have b:JM.e8 hd (some x2) x=3-i:=by
      have c:i=0\/i=1\/i=2:=by omega
      unfold JM.e8;rcases c with rfl | rfl | rfl
      ·exact if_pos e
      ·have q0:=eq 0 (by decide)
       dsimp only at q0 e ⊢;rw[if_neg (fun z=>z q0)]
       exact if_pos e
      ·have q0:=eq 0 (by decide)
       have q1:=eq 1 (by decide)
       dsimp only at q0 q1 e ⊢;rw[if_neg (fun z=>z q0),if_neg (fun z=>z q1)]
       exact if_pos e
     rw[b] at this;exact this
   ·rintro σ H1 ⟨z3,z4,z5,rfl,s1,eq⟩;have:=k _ s1;have b:JM.e8 hd (some x2) x=0:=by
     have q0:=eq 0 (by decide)
     have q1:=eq 1 (by decide)
     have q2:=eq 2 (by decide)
     unfold JM.e8;dsimp only at q0 q1 q2 ⊢;rw[if_neg (fun z=>z q0),if_neg (fun z=>z q1),if_neg (fun z=>z q2)]
    rw[b] at this;exact this
theorem Mc.put{H0 H:Hp}{m st ct ln pq:Addr}{n B:Nat}{M:JM.MSt}{L:List Int}{bs:List Addr}(h:Mc u H0 H m st ct ln n B M)(e:H ln=some (.lst (bs.map V.ref)))(hq:H pq=some (.lst (L.map V.int)))(hL:L.length=132)(n1:pq≠ct)(n2:pq≠ln):Mc u H0 (upd H ln (.lst (bs.map V.ref++[V.ref pq]))) m st ct ln n (B+1) ⟨M.k,M.last,M.lines++[L]⟩:=by
 obtain⟨⟨dx,lc,h1,h2⟩,h3,h4,h5,h6,h7,h8,⟨bs',h9,h10⟩,h11,h12,h13⟩:=h;have eb:bs'=bs:=by
  rw[h9] at e;have e:=HO.lst.inj (Option.some.inj e);have inj:∀(l m:List Addr),l.map V.ref=m.map V.ref->l=m:=fun l=>by
   induction l with
   |nil=>intro m z;cases m with
    |nil=>rfl
    |cons a m=>cases z
   |cons a l ih=>intro m z;cases m with
    |nil=>cases z
    |cons b m=>
     rw[List.map_cons,List.map_cons] at z;injection z with z1 z2
     rw[V.ref.inj z1,ih m z2]
  exact inj _ _ e
 subst eb;refine⟨⟨dx,lc,by rw[af (cX h1 h9 (by intro z;cases z))];exact h1,h2⟩,fun b o z=>by rw[af (a9 z h6)];exact h3 _ _ z,h4,h5,h6,h7,by rw[af h7];exact h8,⟨bs'++[pq],?_,?_⟩,h11,h12,?_⟩
 ·rw[a7,List.map_append];rfl
 ·exact fN (Paired.mapP h10 fun b l z=>⟨z.1,z.2.1,z.2.2.1,by rw[af z.2.1];exact z.2.2.2⟩) ⟨n1,n2,hL,by rw[af n2];exact hq⟩
 ·show(M.lines++[L]).length<=B+1;rw[List.length_append,List.length_singleton];omega
theorem Ci(v:Int)(n:Nat)(h:1<=n):(JM.vM v n).length=n:=by
 unfold JM.vM JM.bI Pu.inPlaces;dsimp only;rw[List.length_map];generalize Pu.dec v.natAbs++[if v<0 then(45:UInt8) else 32]=T
 split
 ·rw[List.length_replicate]
 ·rw[List.length_append,List.length_replicate];omega
theorem qh{N:Nat}{q:List Nat}(h:G4 N q){lg:List Int}{s:Int}{o:Option Pu.Card}{k:List Int}(ho:∀x,o=some x->x.length=80):JM.q_ q 4+(JM.jE lg s q o k).length<=132:=by
 obtain⟨l,v,a,n,p,d,rfl,h⟩:=h;rcases h with⟨rfl,_,h1,h2⟩ | ⟨rfl,_,h1,h2,h3⟩
 ·show p+(match o with
   |some y=>(Pu.fieldOf y a n).map (JM.lu lg s)
   |none=>List.replicate n 32).length<=132
  cases o with
  |none=>rw[List.length_replicate];exact h2
  |some x=>
   have:=ho x rfl;dsimp only;unfold Pu.fieldOf;rw[List.length_map,List.length_take,List.length_drop];omega
 ·show p+(JM.vM (k.getD a 0) d).length<=132;rw[Ci _ _ (by omega)]
  exact h1
def cZ(lg:List Int)(s:Int)(nb:Nat)(o:Option Pu.Card)(k:List Int)(b:List Int)(q:List Nat):List Int:=if JM.q_ q 0=nb then JM.onI b (JM.q_ q 4) (JM.jE lg s q o k) else b
theorem mV{N:Nat}{lg:List Int}{s:Int}{nb:Nat}{o:Option Pu.Card}{k:List Int}(ho:∀x,o=some x->x.length=80):∀(l:List (List Nat)) (b:List Int),(∀q∈l,G4 N q)->b.length=132->(l.foldl (cZ lg s nb o k) b).length=132
 |[],b,_,h=>h
 |q::l,b,hq,h=>by
  rw[List.foldl_cons];refine mV ho l _ (fun y hy=>hq y (by simp[hy])) ?_
  unfold cZ;split
  ·rw[Bh (by rw[h];exact qh (hq q (by simp)) ho)]
   exact h
  ·exact h
theorem yg{lg:List Int}{s:Int}{nb:Nat}{o:Option Pu.Card}{k b:List Int}{l:List (List Nat)}{i:Nat}{q:List Nat}(h:l[i]?=some q):(l.take (i+1)).foldl (cZ lg s nb o k) b=cZ lg s nb o k ((l.take i).foldl (cZ lg s nb o k) b) q:=by
 rw[bU h,List.foldl_append];rfl
theorem pQ:JM.fg.length=132:=by
 unfold JM.fg;rw[List.length_replicate]
def HE(H0:Hp)(cv:V)(o:Option Pu.Card)(nb:Nat):Prop:=(∃c x,cv=.ref c/\o=some x/\gw H0 c x/\x.length=80)\/(cv=.non/\o=none/\nb=4)
def Ab(u:cF):Sp:=fun vs H Q _=>∃(H0:Hp) (m st ct ln:Addr) (B nb:Nat) (cv:V) (o:Option Pu.Card) (M:JM.MSt) (hd:List Nat) (cs th:List (List Nat)) (s:Int) (lg:List Int),vs=[.ref m,vN nb,cv]/\Mc u H0 H m st ct ln cs.length B M/\Su u H0 st hd cs th s lg/\HE H0 cv o nb/\B<=10000/\
 ∀H',Mc u H0 H' m st ct ln cs.length (B+1) ⟨M.k,M.last,M.lines++[JM.i9 lg s th nb o M.k]⟩->Q .non H'
theorem lD:au ["self", "number", "card", "printed", "line", "what", "first", "length", "place", "width"] ["self", "number", "card"] (ae Dq):=⟨rfl,rfl,rfl,by decide +kernel,rfl,by decide +kernel,by decide +kernel⟩
theorem FK(F:Fun K "print_line" "Machine.print_line" Dq f fd)(T:Tx2 K w mg u)(cBlk:Il P w K mg base "blank_line" 1 F8)(cPut:Cal P w K mg base "put_upon" 1 ["line", "place", "shown"] ET)(cShow:iB P w K mg base u.cS "show_field" 2 ["self", "card", "column", "length"] (A8 u))(cShN:Cal P w K mg base "show_number" 1 ["number", "width"] F5) :
  aT P w K mg base CX0 3 f fd ["self", "number", "card"] (Ab u):=by
 refine F.ok lD (fun vs H Q E h=>?_) (fun cdv A outer s H vs Q E hr h=>?_)
 ·obtain⟨H0,m,st,ct,ln,B,nb,cv,o,M,hd,cs,th,sg,lg,rfl,_⟩:=h;rfl
 ·obtain⟨H0,m,st,ct,ln,B,nb,cv,o,M,hd,cs,th,sg,lg,rfl,mc,su,hcv,hB,k⟩:=h;obtain⟨fS,fdS,FS,mS,bS⟩:=cShow;obtain⟨⟨dx,lc,hm,la⟩,sm,_,_,_,_,hct,⟨lbs,hln,_⟩,len,fit,few⟩:=id mc;obtain⟨⟨dxs,a,g,c',y,hs,_,⟨dxg,dg,hg1,hg2⟩,_,⟨tv,hy,pr⟩⟩,h64,_,lth,_,tOk,_⟩:=su;have ltv:=b5 pr;have big:(100000:Nat)<sizeLine:=by decide
  have o80:∀x,o=some x->x.length=80:=fun x e=>by
   rcases hcv with⟨c,x',_,e',_,h80⟩ | ⟨_,e',_⟩
   ·rw[e'] at e;cases e;exact h80
   ·rw[e'] at e;cases e
  refine⟨_,a4 (ax (i:=3) lD.nd rfl (Or.inl rfl) (CZ cBlk hr (by decide) rfl))
   (a4 (bM PassesOwn.never rfl (bu (aI (aI (pv 0) rfl) rfl)) (fM rfl (ba (aH (i:=4) lD.nd rfl (Or.inl rfl)) (ba (aH (i:=5) lD.nd rfl (Or.inl rfl)) (ba (aH (i:=6) lD.nd rfl (Or.inl rfl)) (ba (aH (i:=7) lD.nd rfl (Or.inl rfl)) (ba (aH (i:=8) lD.nd rfl (Or.inl rfl)) (ba (aH (i:=9) lD.nd rfl (Or.inl rfl)) eR)))))))
    (a8 (aP (PW.pt (oC (aB bY (pv 4) (pv 1) (aJ _)) (km (aB bY (pv 5) (bH T.kShF rfl) (aJ _)))))
     (a8 (aX (az cPut hr (by decide) rfl (a0 (pv 3) (a0 (pv 8) (a0 (cJ (aI (aI (pv 0) rfl) rfl) T.clS mS FS (hr.mono (by decide)) bS .nil dP (a0 (pv 2) (a0 (pv 6) (a0 (pv 7) a5)))) a5))))))
     (a8 (aP (aB bY (pv 4) (pv 1) (aJ _)) (a8 (aX (az cPut hr (by decide) rfl (a0 (pv 3) (a0 (pv 8) (a0 (az cShN hr (by decide) rfl (a0 (bp bK (aI (pv 0) rfl) (pv 6) (fun _ _=>rfl)) (a0 (pv 9) a5))) a5)))))) aD)))))
   (a8 (aX (d5 PySem.F.plainAttrs_list PySem.F.slot_list_append PySem.F.type_list_append bF (aI (pv 0) rfl) (a0 (pv 3) a5))))),?_⟩
  refine⟨rfl,fun H1 pq s1 npq hpq=>?_⟩
  have sm1:=sm.trans s1;have ny:y≠pq:=fun z=>by rw[z] at hy;rw[sm _ _ hy] at npq;cases npq
  refine⟨_,rfl,m,u.cM,dx,_,_,rfl,s1 _ _ hm,T.clM,T.nMs,(eV _ _ _ _).1,st,u.cU,dxs,_,_,rfl,sm1 _ _ hs,T.clU,T.nUt,(lh _ _ _ _).2.2.2,y,rfl,⟨_,SqL.of (sm1 _ _ hy)⟩,d4 (K:=K) (a:=y) (xs:=tv) (fun i σ H'=>∃z4 z5 z6 z7 z8 z9,σ=[some (.ref m),some (vN nb),some cv,some (.ref pq),z4,z5,z6,z7,z8,z9]/\aq H H'/\H' pq=some (.lst (((th.take i).foldl (cZ lg sg nb o M.k) JM.fg).map V.int))) ?_ (by rintro i σ H' _ ⟨_,_,_,_,_,_,_,s,_⟩;exact SqL.of ((sm.trans s) _ _ hy)) ?_ ?_⟩
  ·exact⟨none,none,none,none,none,none,rfl,s1,hpq⟩
  ·rintro i v σ H2 hi ⟨z4,z5,z6,z7,z8,z9,rfl,s2,h2⟩;have hil:i<th.length:=by rw[<-ltv];exact(List.getElem?_eq_some_iff.mp hi).1
   have hth:th[i]?=some th[i]:=List.getElem?_eq_getElem hil;have tq:=tOk _ (List.getElem_mem hil);have sl:=qh tq (lg:=lg) (s:=sg) (k:=M.k) o80;have nx:=yg (lg:=lg) (s:=sg) (nb:=nb) (o:=o) (k:=M.k) (b:=JM.fg) hth;have fl:=mV (lg:=lg) (s:=sg) (nb:=nb) (k:=M.k) o80 (th.take i) JM.fg (fun q hq=>tOk q (List.mem_of_mem_take hq)) pQ
   obtain⟨ta,rfl,hta⟩:=du (sm.trans s2) (cj pr hi hth);generalize th[i]=q at hth tq sl nx hta;obtain⟨l,wh,aa,nn,pp,dd,rfl,cases_⟩:=tq;generalize(th.take i).foldl (cZ lg sg nb o M.k) JM.fg=L at h2 nx fl;refine⟨ta,_,rfl,SqT.of hta,rfl,_,_,rfl,_,_,rfl,_,_,rfl,_,_,rfl,_,_,rfl,_,_,rfl,rfl,?_⟩;have hm2:=s2 _ _ hm;have eqN:∀i j:Nat,(V.int (i:Int)=V.int (j:Int))↔i=j:=fun i j=>⟨fun z=>by have:=V.int.inj z;omega,fun z=>by rw[z]⟩
   have yes:l=nb->V.bl (decide (V.int (l:Int)=V.int (nb:Int)))=V.bl true:=fun e=>congrArg V.bl (decide_eq_true ((eqN l nb).mpr e))
   have no:¬l=nb->V.bl (decide (V.int (l:Int)=V.int (nb:Int)))=V.bl false:=fun e=>congrArg V.bl (decide_eq_false (fun z=>e ((eqN l nb).mp z)))
   have fin:∀(H3:Hp) (S:List Int) (b:Addr),aq H2 H3->H2 b=none->S=JM.jE lg sg [l,wh,aa,nn,pp,dd] o M.k->l=nb->H3 pq=some (.lst (L.map V.int))/\pq≠b/\pp+S.length<=L.length/\∀H4,bZ pq H3 H4->H4 pq=some (.lst ((JM.onI L pp S).map V.int))->aq H H4/\H4 pq=some (.lst (((th.take (i+1)).foldl (cZ lg sg nb o M.k) JM.fg).map V.int)):=fun H3 S b s3 nb' eS el=>by
    refine⟨s3 _ _ h2,(fun z=>by rw[<-z,h2] at nb';cases nb'),?_,fun H4 o4 h4=>⟨fun b o e=>o4 b o (a9 e npq) (s3 _ _ (s2 _ _ e)),?_⟩⟩
    ·rw[eS,fl];exact sl
    ·rw[nx,h4,eS];unfold cZ;rw[if_pos (show JM.q_ [l,wh,aa,nn,pp,dd] 0=nb from el)]
     rfl
   by_cases el:l=nb
   ·refine⟨_,rfl,_,rfl,rfl,true,yes el,bh ⟨_,rfl,rfl,_,rfl,?_⟩⟩;rcases cases_ with⟨rfl,l4,b1,b2⟩ | ⟨rfl,b1,b2,b3,b4⟩
    ·rcases hcv with⟨c,x,rfl,rfl,hc,x80⟩ | ⟨rfl,rfl,n4⟩
     ·refine bh ⟨_,rfl,_,rfl,_,rfl,m,u.cM,dx,_,_,rfl,hm2,T.clM,T.nMs,(eV _ _ _ _).1,st,u.cU,dxs,_,_,rfl,(sm.trans s2) _ _ hs,T.clU,T.nUs,(lh _ _ _ _).2.1,g,dxg,_,rfl,(sm.trans s2) _ _ hg1,by simp[List.lookup,show((("show_field" : Str)==("strange" : Str))=false) by decide +kernel,show((("show_field" : Str)==("by_holes" : Str))=false) by decide +kernel],_,rfl,_,rfl,_,rfl,?_⟩
      refine⟨g,c,lg,sg,x,aa,nn,rfl,⟨dxg,dg,(sm.trans s2) _ _ hg1,(sm.trans s2) _ _ hg2⟩,h64,hc.same (sm.trans s2),x80,fun H3 q s3 nq hq=>?_⟩
      obtain⟨f1,f2,f3,f4⟩:=fin H3 _ q s3 nq rfl el;exact⟨pq,q,L,_,pp,rfl,f1,hq,f2,f3,fun H4 o4 h4=>⟨_,_,_,_,_,_,rfl,(f4 H4 o4 h4).1,(f4 H4 o4 h4).2⟩⟩
     ·exact absurd (el.trans n4) l4
    ·have av:aa<M.k.length:=by omega
     refine aZ ⟨_,rfl,_,rfl,rfl,true,yes el,bh ⟨_,rfl,_,rfl,_,rfl,m,u.cM,dx,_,_,rfl,hm2,T.clM,T.nMc,(eV _ _ _ _).2.1,_,rfl,ct,_,_,V.int (M.k.getD aa 0),rfl,rfl,SqL.of (s2 _ _ hct),da (by rw[List.getElem?_map,List.getD_eq_getElem?_getD,List.getElem?_eq_getElem av];rfl),_,rfl,?_⟩⟩
     refine⟨M.k.getD aa 0,dd,rfl,?_,by omega,by omega,fun H3 q s3 nq hq=>?_⟩
     ·rw[List.getD_eq_getElem?_getD,List.getElem?_eq_getElem av];exact Nat.lt_trans (fit _ (List.getElem_mem av)) (by decide)
     ·obtain⟨f1,f2,f3,f4⟩:=fin H3 _ q s3 nq rfl el;exact⟨pq,q,L,_,pp,rfl,f1,hq,f2,f3,fun H4 o4 h4=>⟨_,_,_,_,_,_,rfl,(f4 H4 o4 h4).1,(f4 H4 o4 h4).2⟩⟩
   ·refine⟨_,rfl,_,rfl,rfl,false,no el,aZ (aZ ⟨_,rfl,_,rfl,rfl,false,no el,aZ ⟨_,_,_,_,_,_,rfl,s2,?_⟩⟩)⟩;rw[nx,h2];unfold cZ;rw[if_neg (show ¬JM.q_ [l,wh,aa,nn,pp,dd] 0=nb from el)]
  ·rintro σ H2 ⟨z4,z5,z6,z7,z8,z9,rfl,s2,h2⟩;rw[ltv,List.take_length] at h2;have lb:lbs.length=M.lines.length:=by
    obtain⟨bs',e1,e2⟩:=mc.lns;rw[hln] at e1;have:=congrArg List.length (HO.lst.inj (Option.some.inj e1));rw[List.length_map,List.length_map] at this;rw[this,b5 e2]
   have n1:pq≠ct:=fun z=>by rw[z,hct] at npq;cases npq
   have n2:pq≠ln:=fun z=>by rw[z,hln] at npq;cases npq
   refine⟨_,rfl,m,u.cM,dx,_,_,rfl,s2 _ _ hm,T.clM,T.nMi,(eV _ _ _ _).2.2.2,.inl ⟨rfl,_,SqL.of (s2 _ _ hln)⟩,_,rfl,ln,_,_,rfl,rfl,s2 _ _ hln,by rw[List.length_map];omega,?_⟩
   exact k _ ((mc.keep s2).put (s2 _ _ hln) h2 (mV o80 th JM.fg tOk pQ) n1 n2)
theorem Mc.setk{H0 H:Hp}{m st ct ln:Addr}{n B:Nat}{M:JM.MSt}(h:Mc u H0 H m st ct ln n B M)(k':List Int)(hk:k'.length=n)(hf:∀v∈k',v.natAbs<10 ^ 16):Mc u H0 (upd H ct (.lst (k'.map V.int))) m st ct ln n B ⟨k',M.last,M.lines⟩:=by
 obtain⟨⟨dx,lc,h1,h2⟩,h3,h4,h5,h6,h7,h8,⟨bs,h9,h10⟩,h11,h12,h13⟩:=h;exact⟨⟨dx,lc,by rw[af (cX h1 h8 (by intro z;cases z))];exact h1,h2⟩,fun b o z=>by rw[af (a9 z h5)];exact h3 _ _ z,h4,h5,h6,h7,a7,⟨bs,by rw[af (Ne.symm h7)];exact h9,Paired.mapP h10 fun b l z=>⟨z.1,z.2.1,z.2.2.1,by rw[af z.1];exact z.2.2.2⟩⟩,hk,hf,h13⟩
def ig(cs:List (List Nat))(level:Nat)(k:List Int)(i:Nat):List Int:=(List.range k.length).map fun j=>if j<i/\(cs[j]?.map fun q=>JM.q_ q 0)=some level then 0 else k.getD j 0
theorem hU{cs:List (List Nat)}{level:Nat}{k:List Int}{i:Nat}:(ig cs level k i).length=k.length:=by
 unfold ig;rw[List.length_map,List.length_range]
theorem rF{cs:List (List Nat)}{level:Nat}{k:List Int}{i j:Nat}(h:j<k.length):(ig cs level k i)[j]?=some (if j<i/\(cs[j]?.map fun q=>JM.q_ q 0)=some level then 0 else k.getD j 0):=by
 unfold ig;rw[List.getElem?_map,List.getElem?_range h];rfl
theorem B3{cs:List (List Nat)}{level:Nat}{k:List Int}:ig cs level k 0=k:=by
 apply List.ext_getElem?;intro j;by_cases h:j<k.length
 ·rw[rF h,if_neg (fun z=>absurd z.1 (Nat.not_lt_zero _)),List.getD_eq_getElem?_getD,List.getElem?_eq_getElem h]
  rfl
 ·rw[List.getElem?_eq_none (by rw[hU];omega),List.getElem?_eq_none (by omega)]
theorem Dj{cs:List (List Nat)}{level:Nat}{k:List Int}:ig cs level k k.length=JM.gZ cs level k:=by
 unfold ig JM.gZ;apply List.map_congr_left;intro j hj;have hj:=List.mem_range.mp hj;by_cases e:(cs[j]?.map fun q=>JM.q_ q 0)=some level
 ·rw[if_pos ⟨hj,e⟩,if_pos e]
 ·rw[if_neg (fun z=>e z.2),if_neg e]
theorem zX{cs:List (List Nat)}{level:Nat}{k:List Int}{i:Nat}(hi:i<k.length):ig cs level k (i+1)=if(cs[i]?.map fun q=>JM.q_ q 0)=some level then(ig cs level k i).set i 0 else ig cs level k i:=by
 apply List.ext_getElem?;intro j;by_cases h:j<k.length
 ·rw[rF h];by_cases e:j=i
  ·subst e;by_cases q:(cs[j]?.map fun q=>JM.q_ q 0)=some level
   ·rw[if_pos ⟨by omega,q⟩,if_pos q,List.getElem?_set_self (by rw[hU];exact h)]
   ·rw[if_neg (fun z=>q z.2),if_neg q,rF h,if_neg (fun z=>q z.2)]
  ·have:(if(cs[i]?.map fun q=>JM.q_ q 0)=some level then(ig cs level k i).set i 0 else ig cs level k i)[j]?=(ig cs level k i)[j]?:=by
    split
    ·rw[List.getElem?_set_ne (fun z=>e z.symm)]
    ·rfl
   rw[this,rF h];congr 1;by_cases q:j<i/\(cs[j]?.map fun q=>JM.q_ q 0)=some level
   ·rw[if_pos q,if_pos ⟨by omega,q.2⟩]
   ·rw[if_neg q,if_neg (fun z=>q ⟨by omega,z.2⟩)]
 ·rw[List.getElem?_eq_none (by rw[hU];omega),List.getElem?_eq_none]
  split
  ·rw[List.length_set,hU];omega
  ·rw[hU];omega
theorem DT{cs:List (List Nat)}{level:Nat}{k:List Int}{i:Nat}(h:∀v∈k,v.natAbs<10 ^ 16):∀v∈ig cs level k i,v.natAbs<10 ^ 16:=by
 intro v hv;unfold ig at hv;obtain⟨j,hj,rfl⟩:=List.mem_map.mp hv;have hj:=List.mem_range.mp hj;split
 ·decide
 ·rw[List.getD_eq_getElem?_getD,List.getElem?_eq_getElem hj];exact h _ (List.getElem_mem hj)
theorem xn(l:Nat):∀ns:List Nat,inV (vN l) (ns.map vN)=ns.contains l
 |[]=>rfl
 |n::ns=>by
  have ih:=xn l ns;unfold inV at ih ⊢;rw[List.map_cons,List.any_cons,ih,List.contains_cons];congr 1;show((n:Int)==(l:Int))=(l==n);by_cases e:l=n
  ·subst e;simp
  ·have:¬(n:Int)=(l:Int):=by omega
   rw[beq_eq_false_iff_ne.mpr this,beq_eq_false_iff_ne.mpr e]
theorem pd:∀ns:List Nat,(ns.map vN).all jK=true
 |[]=>rfl
 |n::ns=>by
  rw[List.map_cons,List.all_cons,pd ns];rfl
theorem Cq{H0:Hp}{lc:V}{o:Option Pu.Card}{l:Nat}(h:zz H0 lc o)(n:o=none->l=4):HE H0 lc o l:=by
 rcases h with⟨rfl,rfl⟩ | ⟨c,x,rfl,rfl,hc,ok⟩
 ·exact .inr ⟨rfl,rfl,n rfl⟩
 ·exact .inl ⟨c,x,rfl,rfl,hc,ok.1⟩
def zP(u:cF):Sp:=fun vs H Q _=>∃(H0:Hp) (m st ct ln:Addr) (B l:Nat) (M:JM.MSt) (hd:List Nat) (cs th:List (List Nat)) (s:Int) (lg:List Int),vs=[.ref m,vN l]/\Mc u H0 H m st ct ln cs.length B M/\Su u H0 st hd cs th s lg/\(M.last=none->l=4)/\B<=10000/\
 ∀H',Mc u H0 H' m st ct ln cs.length (B+1) (JM.kZ lg s cs th l M)->Q .non H'
theorem ub:au ["self", "level", "at", "counter", "thing"] ["self", "level"] (ae zq):=⟨rfl,rfl,rfl,by decide +kernel,rfl,by decide +kernel,by decide +kernel⟩
theorem Ge:gv ["self", "level", "at", "counter", "thing"] (ae zq) (iE [(".0",.local),("thing",.local)]) [("thing",4)]=true:=by decide +kernel
theorem GC(F:Fun K "make_total" "Machine.make_total" zq f fd)(T1:Txt K w mg t)(T:Tx2 K w mg u)(cPrt:iB P w K mg base u.cM "print_line" 3 ["self", "number", "card"] (Ab u)):aT P w K mg base CX0 4 f fd ["self", "level"] (zP u):=by
 refine F.ok ub (fun vs H Q E h=>?_) (fun cdv A outer s H vs Q E hr h=>?_)
 ·obtain⟨H0,m,st,ct,ln,B,l,M,hd,cs,th,sg,lg,rfl,_⟩:=h;rfl
 ·obtain⟨H0,m,st,ct,ln,B,l,M,hd,cs,th,sg,lg,rfl,mc,su,hl4,hB,k⟩:=h;obtain⟨fP,fdP,FP,mP,bP⟩:=cPrt;obtain⟨⟨dx,lc,hm,la⟩,sm,_⟩:=id mc;obtain⟨⟨dxs,a,g,c,y,hs,_,_,⟨cv,hc,prc⟩,⟨tv,hy,pr⟩⟩,_,lcs,lth,cOk,tOk,_⟩:=id su;have ltv:=b5 pr;have lcv:=b5 prc;have big:(100000:Nat)<sizeLine:=by decide
  refine⟨_,a4 (aP (aB yR (pv 1) (fG (own:=[("thing",4)]) (te:=tOp (G8 K) (cb 4) (tC (.int 0))) rfl ub.nd (bu (aI (aI (pv 0) rfl) rfl)) (bD Ge) (fun s H C cl fp=>aH (i:=4) ub.nd rfl (Or.inl rfl)) (fun s H C cl fp=>dj) (fun s H C cl fp=>bp cu (pv 4) ah (fun _ _=>rfl))) rfl)
    (a8 (aX (cJ (pv 0) T.clM mP FP (hr.mono (by decide)) bP .nil dP (a0 (pv 1) (a0 (aI (pv 0) rfl) a5))))) aD)
   (a8 (bM PassesOwn.never rfl (gY rfl T1.zEnum (a0 (aI (aI (pv 0) rfl) rfl) a5)) (fM rfl (ba (aH (i:=2) ub.nd rfl (Or.inl rfl)) (ba (aH (i:=3) ub.nd rfl (Or.inl rfl)) eR)))
    (a8 (aP (aB bY (bp cu (pv 3) ah (fun _ _=>rfl)) (pv 1) (aJ _)) (a8 (uQ ah (uZ (aI (pv 0) rfl) (pv 2) gO))) aD)))),?_⟩
  refine sq ?_;refine g9 (fun σ' H'=>σ'=[some (.ref m),some (vN l),none,none,none]/\Mc u H0 H' m st ct ln cs.length (B+1) ⟨M.k,M.last,M.lines++if JM.oF th l=true then[JM.i9 lg sg th l M.last M.k] else[]⟩) ?_ (fun kk=>?_)
  ·rintro σ' H1 ⟨rfl,mc1⟩;generalize hL:(M.lines++if JM.oF th l=true then[JM.i9 lg sg th l M.last M.k] else[])=LL at mc1
   have k:∀H',Mc u H0 H' m st ct ln cs.length (B+1) ⟨JM.gZ cs l M.k,M.last,LL⟩->Q .non H':=fun H' z=>k H' (by unfold JM.kZ;rw[hL];exact z)
   obtain⟨⟨dx1,lc1,hm1,la1⟩,sm1,_⟩:=id mc1;have lk:M.k.length=cs.length:=mc.len;refine⟨_,rfl,m,u.cM,dx1,_,_,rfl,hm1,T.clM,T.nMs,(eV _ _ _ _).1,st,u.cU,dxs,_,_,rfl,sm1 _ _ hs,T.clU,T.nUc,(lh _ _ _ _).2.2.1,c,_,rfl,SqL.of (sm1 _ _ hc),fJ (K:=K) (a:=c) (xs:=cv) (fun i σ H'=>∃z2 z3,σ=[some (.ref m),some (vN l),z2,z3,none]/\Mc u H0 H' m st ct ln cs.length (B+1) ⟨ig cs l M.k i,M.last,LL⟩) ?_ (by rintro i σ H' _ ⟨_,_,_,z⟩;exact SqL.of (z.same _ _ hc)) ?_ ?_⟩
   ·exact⟨none,none,rfl,by rw[B3];exact mc1⟩
   ·rintro i v σ H2 Tp hi ⟨z2,z3,rfl,mc2⟩ hTp;have hil:i<cs.length:=by rw[<-lcv];exact(List.getElem?_eq_some_iff.mp hi).1
    have hci:cs[i]?=some cs[i]:=List.getElem?_eq_getElem hil;have cq:=cOk _ (List.getElem_mem hil);have s3:=ag (o:=.tup [.int (i:Nat),v]) hTp;have mc3:=mc2.keep s3;have hT3:upd H2 Tp (.tup [.int (i:Nat),v]) Tp=some (.tup [.int (i:Nat),v]):=a7;generalize upd H2 Tp (.tup [.int (i:Nat),v])=H3 at mc3 hT3;obtain⟨ca,rfl,hca⟩:=du mc3.same (cj prc hi hci);have nx:=zX (cs:=cs) (level:=l) (k:=M.k) (i:=i) (by omega)
    rw[hci] at nx;generalize cs[i]=q at hci cq nx hca;obtain⟨lv,h,cc,nn,rfl,_⟩:=cq;refine⟨Tp,_,rfl,SqT.of hT3,rfl,_,_,rfl,_,_,rfl,rfl,?_⟩;refine⟨_,rfl,ca,_,_,_,rfl,rfl,SqT.of hca,rfl,_,rfl,rfl,?_⟩;by_cases e:lv=l
    ·refine⟨true,congrArg V.bl (decide_eq_true (by rw[e];rfl)),bh ?_⟩
     rw[if_pos (show Option.map (fun q=>JM.q_ q 0) (some [lv,h,cc,nn,0,0])=some l by rw[e];rfl)] at nx
     obtain⟨⟨dx3,lc3,hm3,la3⟩,sm3,_,_,_,_,ct3,_⟩:=id mc3;refine⟨_,rfl,m,u.cM,dx3,_,_,rfl,hm3,T.clM,T.nMc,(eV _ _ _ _).2.1,_,rfl,ct,_,_,i,rfl,rfl,ct3,?_,?_⟩
     ·unfold ixN;rw[List.length_map,hU,if_pos (by omega),if_pos (by omega)]
      rfl
     ·refine⟨_,_,rfl,?_⟩;have:=mc3.setk (ig cs l M.k (i+1)) (by rw[hU];exact lk) (DT mc.fit)
      rw[nx,List.map_set] at this;rw[nx];exact this
    ·refine⟨false,congrArg V.bl (decide_eq_false (fun z=>e (by have:=V.int.inj z;omega))),aZ ⟨_,_,rfl,?_⟩⟩
     rw[if_neg (show ¬Option.map (fun q=>JM.q_ q 0) (some [lv,h,cc,nn,0,0])=some l from fun z=>e (Option.some.inj z))] at nx
     rw[nx];exact mc3
   ·rintro σ H2 ⟨z2,z3,rfl,mc2⟩;rw[lcv,show ig cs l M.k cs.length=JM.gZ cs l M.k by rw[<-lk];exact Dj] at mc2
    exact k H2 mc2
  ·refine⟨_,rfl,_,rfl,m,u.cM,dx,_,_,rfl,hm,T.clM,T.nMs,(eV _ _ _ _).1,st,u.cU,dxs,_,_,rfl,sm _ _ hs,T.clU,T.nUt,(lh _ _ _ _).2.2.2,y,rfl,⟨_,SqL.of (sm _ _ hy)⟩,fun D hD=>?_⟩
   refine dH (xs:=th) (p:=fun _=>true) (f:=fun q=>JM.q_ q 0) (S:=yL) ltv (by omega) hD (SqL.of (sm _ _ hy)) rV ?_ (fun H1 s1 e1=>?_)
   ·intro i v q H' hv hx s Fin Nx kY kN;obtain⟨ta,rfl,hta⟩:=du (sm.trans s) (cj pr hv hx);obtain⟨l',wh,aa,nn,pp,dd,rfl,_⟩:=tOk _ (List.mem_of_getElem? hx);exact⟨rfl,jt ⟨_,rfl,ta,_,_,_,rfl,rfl,SqT.of hta,rfl,kY rfl H' _ (aq.refl _) rfl⟩⟩
   ·rw[eQ] at e1;have e1:=xt e1;refine⟨D,_,rfl,.inl (SqL.of e1),rfl,pd _,?_⟩;have hin:inV (vN l) ((th.map fun q=>JM.q_ q 0).map vN)=JM.oF th l:=xn l _
    have mc1:=mc.keep s1;cases hh:JM.oF th l with
    |false=>
     refine⟨false,congrArg V.bl (hin.trans hh),aZ (kk _ _ ⟨rfl,?_⟩)⟩;rw[hh,if_neg Bool.false_ne_true,List.append_nil];exact mc1.more (Nat.le_succ _)
    |true=>
     refine⟨true,congrArg V.bl (hin.trans hh),bh ?_⟩;refine⟨_,rfl,m,dx,_,rfl,s1 _ _ hm,jj _ _ _ _ _ (by decide +kernel),_,rfl,_,rfl,m,u.cM,dx,_,_,rfl,s1 _ _ hm,T.clM,T.nMl,(eV _ _ _ _).2.2.1,?_⟩
     refine⟨H0,m,st,ct,ln,B,l,lc,M.last,M,hd,cs,th,sg,lg,rfl,mc1,su,Cq la hl4,hB,fun H2 mc2=>kk _ _ ⟨rfl,?_⟩⟩
     rw[hh,if_pos rfl];exact mc2
def Fc(u:cF):Sp:=fun vs H Q _=>∃(H0:Hp) (m st ct ln c:Addr) (B:Nat) (M:JM.MSt) (hd:List Nat) (cs th:List (List Nat)) (s:Int) (lg:List Int) (x:Pu.Card),vs=[.ref m,.ref c]/\Mc u H0 H m st ct ln cs.length B M/\Su u H0 st hd cs th s lg/\gw H0 c x/\lM x/\
 (JM.dB x cs.zipIdx M.k=none->∀H',aq H0 H'->Q (.bl false) H')/\∀k',JM.dB x cs.zipIdx M.k=some k'->∀H',Mc u H0 H' m st ct ln cs.length B ⟨k',M.last,M.lines⟩->Q (.bl true) H'
theorem tU:au ["self", "card", "at", "counter", "added"] ["self", "card"] (ae Dl):=⟨rfl,rfl,rfl,by decide +kernel,rfl,by decide +kernel,by decide +kernel⟩
theorem Hd(F:Fun K "count_card" "Machine.count_card" Dl f fd)(T1:Txt K w mg t)(T:Tx2 K w mg u)(cAmt:Cal P w K mg base "amount_of" 2 ["card", "column", "length"] F0):aT P w K mg base CX0 3 f fd ["self", "card"] (Fc u):=by
 refine F.ok tU (fun vs H Q E h=>?_) (fun cdv A outer s H vs Q E hr h=>?_)
 ·obtain⟨H0,m,st,ct,ln,c,B,M,hd,cs,th,sg,lg,x,rfl,_⟩:=h;rfl
 ·obtain⟨H0,m,st,ct,ln,c,B,M,hd,cs,th,sg,lg,x,rfl,mc,su,hc,cok,kN,kS⟩:=h;obtain⟨⟨dx,lc,hm,la⟩,sm,_⟩:=id mc;obtain⟨⟨dxs,a,g,c',y,hs,_,_,⟨cv,hcs,prc⟩,_⟩,_,lcs,lth,cOk,tOk,_⟩:=id su;have lcv:=b5 prc;refine⟨_,a4 (bM PassesOwn.never rfl (gY rfl T1.zEnum (a0 (aI (aI (pv 0) rfl) rfl) a5)) (fM rfl (ba (aH (i:=2) tU.nd rfl (Or.inl rfl)) (ba (aH (i:=3) tU.nd rfl (Or.inl rfl)) eR)))
    (a4 (ax (i:=4) tU.nd rfl (Or.inl rfl) ah)
    (a4 (aP (aB ue (bp cu (pv 3) ah (fun _ _=>rfl)) (bH T.kAdd1 rfl) (aJ _)) (a8 (ax (i:=4) tU.nd rfl (Or.inl rfl) (az cAmt hr (by decide) rfl (a0 (pv 1) (a0 (bp cu (pv 3) ah (fun _ _=>rfl)) (a0 (bp cu (pv 3) ah (fun _ _=>rfl)) a5)))))) aD)
    (a4 (aP (PW.pt (iP (aB iV (pv 4) cG (aJ _)) (fW (aB EY (b6 sU rfl T.zAbs (show bootBuiltins "abs" = some (.builtin "abs") by decide +kernel) (a0 (aQ c8 (bp bK (aI (pv 0) rfl) (pv 2) (fun _ _=>rfl)) (pv 4)) a5)) (bH T.kLimit rfl) (aJ _))))) (a8 (ai iM)) aD)
    (a8 (rK (aI (pv 0) rfl) (pv 2) nT (pv 4) nN gO))))))
   (a8 (ai iM)),?_⟩
  refine⟨_,rfl,m,u.cM,dx,_,_,rfl,hm,T.clM,T.nMs,(eV _ _ _ _).1,st,u.cU,dxs,_,_,rfl,sm _ _ hs,T.clU,T.nUc,(lh _ _ _ _).2.2.1,c',_,rfl,SqL.of (sm _ _ hcs),fJ (K:=K) (a:=c') (xs:=cv) (fun i σ H'=>∃z2 z3 z4 k,σ=[some (.ref m),some (.ref c),z2,z3,z4]/\Mc u H0 H' m st ct ln cs.length B ⟨k,M.last,M.lines⟩/\JM.dB x cs.zipIdx M.k=JM.dB x (cs.zipIdx.drop i) k) ?_ (by rintro i σ H' _ ⟨_,_,_,_,_,z,_⟩;exact SqL.of (z.same _ _ hcs)) ?_ ?_⟩
  ·exact⟨none,none,none,M.k,rfl,mc,rfl⟩
  ·rintro i v σ H2 Tp hi ⟨z2,z3,z4,k,rfl,mc2,ck⟩ hTp;have hil:i<cs.length:=by rw[<-lcv];exact(List.getElem?_eq_some_iff.mp hi).1
   have hci:cs[i]?=some cs[i]:=List.getElem?_eq_getElem hil;have cq:=cOk _ (List.getElem_mem hil);rw[List.drop_eq_getElem_cons (show i<cs.zipIdx.length by rw[List.length_zipIdx];exact hil),List.getElem_zipIdx,Nat.zero_add] at ck
   have s3:=ag (o:=.tup [.int (i:Nat),v]) hTp;have mc3:=mc2.keep s3;have hT3:upd H2 Tp (.tup [.int (i:Nat),v]) Tp=some (.tup [.int (i:Nat),v]):=a7;generalize upd H2 Tp (.tup [.int (i:Nat),v])=H3 at mc3 hT3;obtain⟨ca,rfl,hca⟩:=du mc3.same (cj prc hi hci);generalize cs[i]=q at hci cq ck hca;obtain⟨lv,hw,cc,nn,rfl,cases_⟩:=cq;refine⟨Tp,_,rfl,SqT.of hT3,rfl,_,_,rfl,_,_,rfl,rfl,?_⟩;refine sq ?_;dsimp only[Bo,tC,fU];refine sq ?_;refine g9 (fun σ' H'=>σ'=[some (.ref m),some (.ref c),some (.int (i:Nat)),some (.ref ca),some (BY (JM.qT [lv,hw,cc,nn,0,0] x))]/\aq H3 H') ?_ (fun kk=>?_)
   ·rintro σ' H4 ⟨rfl,s4⟩;have mc4:=mc3.keep s4;have ck:JM.dB x cs.zipIdx M.k=match JM.qT [lv,hw,cc,nn,0,0] x with
     |none=>none
     |some v=>if Pu.fits16 (k.getD i 0+v)=true then JM.dB x (cs.zipIdx.drop (i+1)) (k.set i (k.getD i 0+v)) else none:=ck
    cases ea:JM.qT [lv,hw,cc,nn,0,0] x with
    |none=>
     rw[ea] at ck;refine sq ?_;refine⟨_,rfl,rfl,true,congrArg V.bl (decide_eq_true rfl),bh (bh ?_)⟩;exact kN ck H4 mc4.same
    |some va=>
     rw[ea] at ck;have ck:JM.dB x cs.zipIdx M.k=if Pu.fits16 (k.getD i 0+va)=true then JM.dB x (cs.zipIdx.drop (i+1)) (k.set i (k.getD i 0+va)) else none:=ck
     have kl:k.length=cs.length:=mc4.len;have ki:i<k.length:=by omega
     have kd:k[i]?=some (k.getD i 0):=by rw[List.getD_eq_getElem?_getD,List.getElem?_eq_getElem ki];rfl
     obtain⟨⟨dx4,lc4,hm4,la4⟩,sm4,_,_,_,_,ct4,_⟩:=id mc4;have at4:atI (k.map V.int) ((i:Nat):Int)=some (V.int (k.getD i 0)):=da (by rw[List.getElem?_map,kd];rfl)
     have absE:∀z:Int,(if z<0 then -z else z)=((z.natAbs:Nat):Int):=fun z=>by split<;>omega
     refine sq ?_;refine⟨_,rfl,rfl,false,congrArg V.bl (decide_eq_false (by intro z;cases z)),aZ ?_⟩
     refine⟨_,rfl,m,u.cM,dx4,_,_,rfl,hm4,T.clM,T.nMc,(eV _ _ _ _).2.1,_,rfl,ct,_,_,_,rfl,rfl,SqL.of ct4,at4,_,rfl,_,_,rfl,rfl,_,rfl,_,_,rfl,rfl,?_⟩;by_cases fb:(k.getD i 0+va).natAbs<10 ^ 16
     ·rw[if_pos (show Pu.fits16 (k.getD i 0+va)=true from decide_eq_true fb)] at ck
      refine⟨false,congrArg V.bl (decide_eq_false (by rw[absE];omega)),aZ ?_⟩
      refine⟨_,rfl,m,u.cM,dx4,_,_,rfl,hm4,T.clM,T.nMc,(eV _ _ _ _).2.1,_,rfl,ct,_,_,_,rfl,rfl,SqL.of ct4,at4,_,rfl,_,_,rfl,rfl,ct,_,_,i,rfl,rfl,ct4,?_,?_⟩
      ·unfold ixN;rw[List.length_map,if_pos (by omega),if_pos (by omega)]
       rfl
      ·refine⟨_,_,_,k.set i (k.getD i 0+va),rfl,?_,ck⟩;have:=mc4.setk (k.set i (k.getD i 0+va)) (by rw[List.length_set];exact kl) (fun v hv=>by
        rcases List.mem_or_eq_of_mem_set hv with z | z
        ·exact mc4.fit v z
        ·rw[z];exact fb)
       rw[List.map_set] at this;exact this
     ·rw[if_neg (show ¬Pu.fits16 (k.getD i 0+va)=true from fun z=>fb (of_decide_eq_true z))] at ck
      refine⟨true,congrArg V.bl (decide_eq_true (by rw[absE];omega)),bh ?_⟩
      exact kN ck H4 mc4.same
   ·refine⟨_,rfl,ca,_,_,_,rfl,rfl,SqT.of hca,rfl,rfl,?_⟩;by_cases e:hw=2
    ·refine⟨false,?_,aZ (kk _ _ ⟨?_,aq.refl _⟩)⟩
     ·rw[e];rfl
     ·rw[show JM.qT [lv,hw,cc,nn,0,0] x=some 1 from if_pos e]
      rfl
    ·refine⟨true,?_,bh ?_⟩
     ·refine congrArg V.bl ?_;rw[Bool.not_eq_true',decide_eq_false_iff_not];intro z;exact e (by have:=V.int.inj z;omega)
     ·obtain⟨_,n1,n2⟩:=cases_.resolve_left e;refine⟨_,rfl,_,rfl,ca,_,_,_,rfl,rfl,SqT.of hca,rfl,_,rfl,ca,_,_,_,rfl,rfl,SqT.of hca,rfl,?_⟩;refine⟨c,x,cc,nn,rfl,hc.same mc3.same,cok,n1,n2,fun H4 s4=>kk _ _ ⟨?_,s4⟩⟩
      rw[show JM.qT [lv,hw,cc,nn,0,0] x=Pu.amountOf (Pu.fieldOf x cc nn) from if_neg e]
      rfl
  ·rintro σ H2 ⟨z2,z3,z4,k,rfl,mc2,ck⟩;rw[lcv,List.drop_eq_nil_of_le (by rw[List.length_zipIdx];omega)] at ck
   exact kS k ck H2 mc2
theorem Mc.setlast{H0 H:Hp}{m st ct ln c dx:Addr}{n B:Nat}{M:JM.MSt}{x:Pu.Card}{lc:V}(h:Mc u H0 H m st ct ln n B M)(hm:H m=some (.ins u.cM dx (mcF st ct lc ln)))(hc:gw H0 c x)(ok:lM x):Mc u H0 (upd H m (.ins u.cM dx (mcF st ct (.ref c) ln))) m st ct ln n B ⟨M.k,some x,M.lines⟩:=by
 obtain⟨_,h3,h4,h5,h6,h7,h8,⟨bs,h9,h10⟩,h11,h12,h13⟩:=h;refine⟨⟨dx,.ref c,a7,.inr ⟨c,x,rfl,rfl,hc,ok⟩⟩,fun b o z=>by rw[af (a9 z h4)];exact h3 _ _ z,h4,h5,h6,h7,by rw[af (cX h8 hm (by intro z;cases z))];exact h8,⟨bs,by rw[af (cX h9 hm (by intro z;cases z))];exact h9,Paired.mapP h10 fun b l z=>⟨z.1,z.2.1,z.2.2.1,by rw[af (cX z.2.2.2 hm (by intro z;cases z))];exact z.2.2.2⟩⟩,h11,h12,h13⟩
theorem FG{ta tb:TE}{σ:L2.St}{H:Hp}{Q:VK}(c d:Bool)(h1:∀Q:VK,Q (.bl c) H->ta σ H Q)(h2:∀Q:VK,Q (.bl d) H->tb σ H Q)(q:Q (.bl (c || d)) H):Ir ta tb σ H Q:=by
 refine h1 _ ⟨c,rfl,?_⟩;cases c with
 |true=>exact bh q
 |false=>exact aZ (h2 _ q)
theorem gf{lg:List Int}{s:Int}{cs th:List (List Nat)}{M:JM.MSt}:∀n,(JM.dk lg s cs th n M).last=M.last
 |0=>rfl
 |n+1=>gf n
def EN(u:cF):Sp:=fun vs H Q _=>∃(H0:Hp) (m st ct ln c:Addr) (B:Nat) (M:JM.MSt) (hd:List Nat) (cs th:List (List Nat)) (s:Int) (lg:List Int) (x:Pu.Card),vs=[.ref m,.ref c]/\Mc u H0 H m st ct ln cs.length B M/\Su u H0 st hd cs th s lg/\gw H0 c x/\lM x/\B<=9000/\
 (JM.k8 lg s cs th hd x M=none->∀H',aq H0 H'->Q (.bl false) H')/\∀M',JM.k8 lg s cs th hd x M=some M'->∀H',Mc u H0 H' m st ct ln cs.length (B+4) M'->Q (.bl true) H'
theorem sH:au ["self", "card", "ended", "level", "listing", "first"] ["self", "card"] (ae CF):=⟨rfl,rfl,rfl,by decide +kernel,rfl,by decide +kernel,by decide +kernel⟩
theorem B9(hd:List Nat)(o:Option Pu.Card)(x:Pu.Card):JM.e8 hd o x<=3:=by
 unfold JM.e8;cases o with
 |none=>exact Nat.zero_le _
 |some y=>
  dsimp only;split
  ·omega
  ·split
   ·omega
   ·split<;>omega
theorem Gw(F:Fun K "take_card" "Machine.take_card" CF f fd)(T:Tx2 K w mg u)(cEnd:iB P w K mg base u.cM "ended_level" 2 ["self", "card"] (AA u))(cMkT:iB P w K mg base u.cM "make_total" 4 ["self", "level"] (zP u))(cCnt:iB P w K mg base u.cM "count_card" 3 ["self", "card"] (Fc u))(cPrt:iB P w K mg base u.cM "print_line" 3 ["self", "number", "card"] (Ab u)) :
  aT P w K mg base CX0 5 f fd ["self", "card"] (EN u):=by
 refine F.ok sH (fun vs H Q E h=>?_) (fun cdv A outer s H vs Q E hr h=>?_)
 ·obtain⟨H0,m,st,ct,ln,c,B,M,hd,cs,th,sg,lg,x,rfl,_⟩:=h;rfl
 ·obtain⟨H0,m,st,ct,ln,c,B,M,hd,cs,th,sg,lg,x,rfl,mc,su,hc,cok,hB,kN,kS⟩:=h;obtain⟨fE,fdE,FE,mE,bE⟩:=cEnd;obtain⟨fT,fdT,FT,mT,bT⟩:=cMkT;obtain⟨fC,fdC,FC,mC,bC⟩:=cCnt;obtain⟨fP,fdP,FP,mP,bP⟩:=cPrt;obtain⟨⟨dx,lc,hm,la⟩,sm,_⟩:=id mc;obtain⟨⟨dxs,a,g,c',y,hs,h1,_⟩,_,_,_,_,_,hl⟩:=id su;refine⟨_,a4 (ax (i:=2) sH.nd rfl (Or.inl rfl) (cJ (pv 0) T.clM mE FE (hr.mono (by decide)) bE .nil dP (a0 (pv 1) a5)))
   (a4 (bM PassesOwn.never rfl (pS rfl T.zRange (a0 ah (a0 (aQ c8 (pv 2) ah) a5))) (aH (i:=3) sH.nd rfl (Or.inl rfl)) (a8 (aX (cJ (pv 0) T.clM mT FT (hr.mono (by decide)) bT .nil dP (a0 (pv 3) a5)))))
   (a4 (aP (eg (fY (cJ (pv 0) T.clM mC FC (hr.mono (by decide)) bC .nil dP (a0 (pv 1) a5)))) (a8 (ai iM)) aD)
   (a4 (ax (i:=4) sH.nd rfl (Or.inl rfl) (bp bK (aI (aI (pv 0) rfl) rfl) (bH T.kLiAt rfl) (fun _ _=>rfl)))
   (a4 (ax (i:=5) sH.nd rfl (Or.inl rfl) (HG (e7 iU (pv 2) ah (aJ _)) (oy (e7 iV (aI (pv 0) rfl) cG (aJ _)))))
   (a4 (aP (PW.pt (iP (aB bY (pv 4) (bH T.kLiA rfl) (aJ _)) (fW (PW.pt (oC (aB bY (pv 4) (bH T.kLiF rfl) (aJ _)) (km (fY (pv 5)))))))) (a8 (aX (cJ (pv 0) T.clM mP FP (hr.mono (by decide)) bP .nil dP (a0 (bH T.kCard rfl) (a0 (pv 1) a5))))) aD)
   (a4 (c7 (pv 0) (pv 1) rfl)
   (a8 (ai iM)))))))),?_⟩
  refine⟨_,rfl,m,dx,_,rfl,hm,jj _ _ _ _ _ (by decide +kernel),_,rfl,?_⟩
  refine⟨H0,m,st,ct,ln,c,cs.length,B,M,hd,cs,th,sg,lg,x,rfl,mc,su,hc,fun H1 s1=>?_⟩
  have mc1:=mc.keep s1;obtain⟨l,el⟩:∃l,l=JM.e8 hd M.last x:=⟨_,rfl⟩;have l3:l<=3:=by rw[el];exact B9 hd M.last x
  have l0:M.last=none->l=0:=fun z=>by rw[el,z];rfl
  have tk:JM.k8 lg sg cs th hd x M=match JM.dB x cs.zipIdx (JM.dk lg sg cs th l M).k with
    |none=>none
    |some k=>some ⟨k,some x,(JM.dk lg sg cs th l M).lines++if hd.getD 6 0=1\/(hd.getD 6 0=2/\(1<=l\/M.last=none)) then[JM.i9 lg sg th 0 (some x) k] else[]⟩:=by
   rw[el];rfl
  rw[<-el];have en:((((l:Nat):Int)+1)-1).toNat=l:=by omega
  refine⟨_,rfl,_,_,rfl,rfl,1,(((l:Nat):Int)+1),rfl,⟨by decide,by decide,by omega,by omega⟩,?_⟩
  rw[en];refine pR (lo:=1) (n:=l) (fun i σ H'=>∃z3,σ=[some (.ref m),some (.ref c),some (vN l),z3,none,none]/\Mc u H0 H' m st ct ln cs.length (B+i) (JM.dk lg sg cs th i M)) ?_ ?_ ?_
  ·exact⟨none,rfl,mc1⟩
  ·rintro i σ H2 hi ⟨z3,rfl,mc2⟩;rw[show(1:Int)+(i:Int)=((i+1:Nat):Int) by omega]
   obtain⟨⟨dx2,lc2,hm2,la2⟩,_⟩:=id mc2;refine⟨_,rfl,m,dx2,_,rfl,hm2,jj _ _ _ _ _ (by decide +kernel),_,rfl,?_⟩
   refine⟨H0,m,st,ct,ln,B+i,i+1,JM.dk lg sg cs th i M,hd,cs,th,sg,lg,rfl,mc2,su,fun z=>?_,by omega,fun H3 mc3=>⟨_,rfl,mc3⟩⟩
   rw[gf] at z;have:=l0 z;omega
  ·rintro σ H2 ⟨z3,rfl,mc2⟩;have vl:=gf (lg:=lg) (s:=sg) (cs:=cs) (th:=th) (M:=M) l;generalize JM.dk lg sg cs th l M=V0 at mc2 tk vl;obtain⟨⟨dx2,lc2,hm2,la2⟩,_⟩:=id mc2;refine⟨_,rfl,m,dx2,_,rfl,hm2,jj _ _ _ _ _ (by decide +kernel),_,rfl,?_⟩
   refine⟨H0,m,st,ct,ln,c,B+l,V0,hd,cs,th,sg,lg,x,rfl,mc2,su,hc,cok,fun e H3 s3=>⟨false,rfl,bh ?_⟩,fun k' e H3 mc3=>⟨true,rfl,aZ ?_⟩⟩
   ·rw[e] at tk;exact kN tk H3 s3
   ·rw[e] at tk;have kS:=kS _ tk;clear tk kN;obtain⟨⟨dx3,lc3,hm3,la3⟩,sm3,_⟩:=id mc3;have a6:(hd.map vN)[6]?=some (vN (hd.getD 6 0)):=by
     rw[List.getElem?_map,List.getD_eq_getElem?_getD,List.getElem?_eq_getElem (by omega)]
     rfl
    refine⟨_,rfl,m,u.cM,dx3,_,_,rfl,hm3,T.clM,T.nMs,(eV _ _ _ _).1,st,u.cU,dxs,_,_,rfl,sm3 _ _ hs,T.clU,T.nUh,(lh _ _ _ _).1,a,_,_,_,rfl,rfl,SqL.of (sm3 _ _ h1),da (j:=6) a6,?_⟩;generalize hd.getD 6 0=li at kS;have lcN:(lc3=V.non)↔M.last=none:=by
     rcases la3 with⟨z1,z2⟩ | ⟨c9,x9,z1,z2,_⟩
     ·have z2:V0.last=none:=z2;exact⟨fun _=>by rw[<-vl];exact z2,fun _=>z1⟩
     ·have z2:V0.last=some x9:=z2;refine⟨fun z=>?_,fun z=>?_⟩
      ·rw[z1] at z;cases z
      ·rw[<-vl,z2] at z;cases z
    obtain⟨b,eb⟩:∃b,b=(decide ((0:Int)<(l:Int)) || decide (lc3=V.non)):=⟨_,rfl⟩;have bI:b=true↔(1<=l\/M.last=none):=by
     rw[eb,Bool.or_eq_true,decide_eq_true_iff,decide_eq_true_iff,lcN];refine or_congr_left ?_;omega
    dsimp only[fU];refine sq ?_;refine FG (decide ((0:Int)<(l:Int))) (decide (lc3=V.non)) (fun Q q=>⟨_,rfl,_,_,rfl,rfl,q⟩) (fun Q q=>⟨_,rfl,m,u.cM,dx3,_,_,rfl,hm3,T.clM,T.nMl,(eV _ _ _ _).2.2.1,rfl,q⟩) ?_
    rw[<-eb];dsimp only[fU];refine sq ?_;refine g9 (fun σ' H'=>σ'=[some (.ref m),some (.ref c),some (vN l),z3,some (vN li),some (.bl b)]/\Mc u H0 H' m st ct ln cs.length (B+l+1) ⟨k',V0.last,V0.lines++if li=1\/(li=2/\(1<=l\/M.last=none)) then[JM.i9 lg sg th 0 (some x) k'] else[]⟩) ?_ (fun kk=>?_)
    ·rintro σ' H4 ⟨rfl,mc4⟩;obtain⟨⟨dx4,lc4,hm4,la4⟩,_⟩:=id mc4;refine⟨_,rfl,_,rfl,m,u.cM,dx4,_,rfl,hm4,T.clM,T.nMl,(by show 4<1000;decide),?_⟩
     exact kS _ ((mc4.setlast hm4 hc cok).more (by omega))
    ·have yes:(li=1\/(li=2/\(1<=l\/M.last=none)))->∀H4,Mc u H0 H4 m st ct ln cs.length (B+l+1) ⟨k',V0.last,V0.lines++[JM.i9 lg sg th 0 (some x) k']⟩->Mc u H0 H4 m st ct ln cs.length (B+l+1) ⟨k',V0.last,V0.lines++if li=1\/(li=2/\(1<=l\/M.last=none)) then[JM.i9 lg sg th 0 (some x) k'] else[]⟩:=fun z H4 q=>by rw[if_pos z];exact q
     have no:¬(li=1\/(li=2/\(1<=l\/M.last=none)))->Mc u H0 H3 m st ct ln cs.length (B+l+1) ⟨k',V0.last,V0.lines++if li=1\/(li=2/\(1<=l\/M.last=none)) then[JM.i9 lg sg th 0 (some x) k'] else[]⟩:=fun z=>by rw[if_neg z,List.append_nil];exact mc3.more (Nat.le_succ _)
     have eqN:∀i j:Nat,(V.int (i:Int)=V.int (j:Int))↔i=j:=fun i j=>⟨fun z=>by have:=V.int.inj z;omega,fun z=>by rw[z]⟩
     by_cases e1:li=1
     ·refine⟨_,rfl,rfl,true,congrArg V.bl (decide_eq_true ((eqN li 1).mpr e1)),bh (bh ?_)⟩;refine⟨_,rfl,m,dx3,_,rfl,hm3,jj _ _ _ _ _ (by decide +kernel),_,rfl,?_⟩
      exact⟨H0,m,st,ct,ln,B+l,0,.ref c,some x,⟨k',V0.last,V0.lines⟩,hd,cs,th,sg,lg,rfl,mc3,su,.inl ⟨c,x,rfl,rfl,hc,cok.1⟩,by omega,fun H4 mc4=>kk _ _ ⟨rfl,yes (.inl e1) H4 mc4⟩⟩
     ·refine⟨_,rfl,rfl,false,congrArg V.bl (decide_eq_false (fun z=>e1 ((eqN li 1).mp z))),aZ ?_⟩
      by_cases e2:li=2
      ·refine⟨_,rfl,rfl,true,congrArg V.bl (decide_eq_true ((eqN li 2).mpr e2)),bh ⟨_,rfl,b,rfl,?_⟩⟩;cases hb:b with
       |true=>
        refine bh ⟨_,rfl,m,dx3,_,rfl,hm3,jj _ _ _ _ _ (by decide +kernel),_,rfl,?_⟩
        exact⟨H0,m,st,ct,ln,B+l,0,.ref c,some x,⟨k',V0.last,V0.lines⟩,hd,cs,th,sg,lg,rfl,mc3,su,.inl ⟨c,x,rfl,rfl,hc,cok.1⟩,by omega,fun H4 mc4=>kk _ _ ⟨by rw[hb];rfl,yes (.inr ⟨e2,bI.mp hb⟩) H4 mc4⟩⟩
       |false=>
        refine aZ (kk _ _ ⟨by rw[hb];rfl,no fun z=>?_⟩)
        rcases z with z | z
        ·exact e1 z
        ·have:=bI.mpr z.2;rw[hb] at this;cases this
      ·refine⟨_,rfl,rfl,false,congrArg V.bl (decide_eq_false (fun z=>e2 ((eqN li 2).mp z))),aZ (aZ (kk _ _ ⟨rfl,no fun z=>?_⟩))⟩
       rcases z with z | z
       ·exact e1 z
       ·exact e2 z.1
def Ao(lg:List Int)(s:Int)(cs th:List (List Nat))(M:JM.MSt):JM.MSt:=match M.last with
 |none=>M
 |some _=>JM.dk lg s cs th 3 M
theorem FQ(lg:List Int)(s:Int)(cs th:List (List Nat))(M:JM.MSt):JM.ye lg s cs th M=JM.kZ lg s cs th 4 (Ao lg s cs th M):=rfl
def ED(u:cF):Sp:=fun vs H Q _=>∃(H0:Hp) (m st ct ln:Addr) (B:Nat) (M:JM.MSt) (hd:List Nat) (cs th:List (List Nat)) (s:Int) (lg:List Int),vs=[.ref m]/\Mc u H0 H m st ct ln cs.length B M/\Su u H0 st hd cs th s lg/\B<=9000/\∀H',Mc u H0 H' m st ct ln cs.length (B+4) (JM.ye lg s cs th M)->Q .non H'
theorem EF:au ["self", "level"] ["self"] (ae Ec):=⟨rfl,rfl,rfl,by decide +kernel,rfl,by decide +kernel,by decide +kernel⟩
theorem G7(F:Fun K "make_end" "Machine.make_end" Ec f fd)(T:Tx2 K w mg u)(cMkT:iB P w K mg base u.cM "make_total" 4 ["self", "level"] (zP u)):aT P w K mg base CX0 5 f fd ["self"] (ED u):=by
 refine F.ok EF (fun vs H Q E h=>?_) (fun cdv A outer s H vs Q E hr h=>?_)
 ·obtain⟨H0,m,st,ct,ln,B,M,hd,cs,th,sg,lg,rfl,_⟩:=h;rfl
 ·obtain⟨H0,m,st,ct,ln,B,M,hd,cs,th,sg,lg,rfl,mc,su,hB,k⟩:=h;obtain⟨fT,fdT,FT,mT,bT⟩:=cMkT;obtain⟨⟨dx,lc,hm,la⟩,sm,_⟩:=id mc;refine⟨_,a4 (aP (aB wt (aI (pv 0) rfl) cG (aJ _)) (a8 (bM PassesOwn.never rfl (pS rfl T.zRange (a0 ah (a0 (aQ c8 (bH T.kCtlL rfl) ah) a5))) (aH (i:=1) EF.nd rfl (Or.inl rfl)) (a8 (aX (cJ (pv 0) T.clM mT FT (hr.mono (by decide)) bT .nil dP (a0 (pv 1) a5)))))) aD)
   (a8 (aX (cJ (pv 0) T.clM mT FT (hr.mono (by decide)) bT .nil dP (a0 (bH T.kLast rfl) a5)))),?_⟩
  refine sq ?_;refine g9 (fun σ' H'=>(∃z,σ'=[some (.ref m),z])/\Mc u H0 H' m st ct ln cs.length (B+3) (Ao lg sg cs th M)) ?_ (fun kk=>?_)
  ·rintro σ' H1 ⟨⟨z,rfl⟩,mc1⟩;rw[FQ] at k;generalize Ao lg sg cs th M=M1 at mc1 k;obtain⟨⟨dx1,lc1,hm1,la1⟩,_⟩:=id mc1;refine⟨_,rfl,m,dx1,_,rfl,hm1,jj _ _ _ _ _ (by decide +kernel),?_⟩
   exact⟨H0,m,st,ct,ln,B+3,4,M1,hd,cs,th,sg,lg,rfl,mc1,su,fun _=>rfl,by omega,fun H2 mc2=>k H2 mc2⟩
  ·refine⟨_,rfl,m,u.cM,dx,_,_,rfl,hm,T.clM,T.nMl,(eV _ _ _ _).2.2.1,rfl,?_⟩;rcases la with⟨rfl,e0⟩ | ⟨c2,x2,rfl,e0,_⟩
   ·refine⟨false,rfl,aZ (kk _ _ ⟨⟨none,rfl⟩,?_⟩)⟩;unfold Ao;rw[e0];exact mc.more (by omega)
   ·refine⟨true,rfl,bh ?_⟩;refine⟨_,_,rfl,rfl,1,4,rfl,⟨by decide,by decide,by decide,by decide⟩,?_⟩
    refine pR (lo:=1) (n:=3) (fun i σ H'=>∃z,σ=[some (.ref m),z]/\Mc u H0 H' m st ct ln cs.length (B+i) (JM.dk lg sg cs th i M)) ?_ ?_ ?_
    ·exact⟨none,rfl,mc⟩
    ·rintro i σ H2 hi ⟨z3,rfl,mc2⟩;rw[show(1:Int)+(i:Int)=((i+1:Nat):Int) by omega]
     obtain⟨⟨dx2,lc2,hm2,la2⟩,_⟩:=id mc2;refine⟨_,rfl,m,dx2,_,rfl,hm2,jj _ _ _ _ _ (by decide +kernel),_,rfl,?_⟩
     refine⟨H0,m,st,ct,ln,B+i,i+1,JM.dk lg sg cs th i M,hd,cs,th,sg,lg,rfl,mc2,su,fun z=>?_,by omega,fun H3 mc3=>⟨_,rfl,mc3⟩⟩
     rw[gf,e0] at z;cases z
    ·rintro σ H2 ⟨z3,rfl,mc2⟩;refine kk _ _ ⟨⟨z3,rfl⟩,?_⟩;unfold Ao;rw[e0];exact mc2
def CdR(H:Hp)(v:V)(x:Pu.Card):Prop:=∃a,v=.ref a/\gw H a x
theorem CdR.same{H H':Hp}{v:V}{x:Pu.Card}(s:aq H H')(h:CdR H v x):CdR H' v x:=by
 obtain⟨a,e,h⟩:=h;exact⟨a,e,h.same s⟩
def Fd(u:cF):Sp:=fun vs H Q _=>∃(st d:Addr) (cv:List V) (x:Pu.Deck) (hd:List Nat) (cs th:List (List Nat)) (s:Int) (lg:List Int),vs=[.ref st,.ref d]/\Su u H st hd cs th s lg/\H d=some (.lst cv)/\Paired (CdR H) cv x/\(∀y∈x,lM y)/\x.length<=1000/\
 (JM.bR lg s cs th hd x=none->∀H',aq H H'->Q .non H')/\∀L,JM.bR lg s cs th hd x=some L->∀H' (ln:Addr) (bs:List Addr),aq H H'->H ln=none->H' ln=some (.lst (bs.map V.ref))->Paired (fun b l=>H' b=some (.lst (l.map V.int))) bs L->(∀l∈L,l.length=132)->Q (.ref ln) H'
theorem BK:au ["setup", "cards", "machine", "card"] ["setup", "cards"] (ae E8):=⟨rfl,rfl,rfl,by decide +kernel,rfl,by decide +kernel,by decide +kernel⟩
theorem Hw(F:Fun K "account_cards" "account_cards" E8 f fd)(T:Tx2 K w mg u)(mM:Mak P w K mg base "Machine" u.cM 1 ["self", "setup"] (wB u))(cTak:iB P w K mg base u.cM "take_card" 5 ["self", "card"] (EN u))(cMkE:iB P w K mg base u.cM "make_end" 5 ["self"] (ED u)):aT P w K mg base CX0 6 f fd ["setup", "cards"] (Fd u):=by
 refine F.ok BK (fun vs H Q E h=>?_) (fun cdv A outer s H vs Q E hr h=>?_)
 ·obtain⟨st,d,cv,x,hd,cs,th,sg,lg,rfl,_⟩:=h;rfl
 ·obtain⟨st,d,cv,x,hd,cs,th,sg,lg,rfl,su,hD,pr,cok,lx,kN,kS⟩:=h;obtain⟨fT,fdT,FT,mT,bT⟩:=cTak;obtain⟨fE,fdE,FE,mE,bE⟩:=cMkE;have lcv:=b5 pr;refine⟨_,a4 (ax (i:=2) BK.nd rfl (Or.inl rfl) (fo mM hr (by decide) rfl (a0 (pv 0) a5)))
   (a4 (bM PassesOwn.never rfl (bu (pv 1)) (aH (i:=3) BK.nd rfl (Or.inl rfl)) (a8 (aP (eg (fY (cJ (pv 2) T.clM mT FT (hr.mono (by decide)) bT .nil dP (a0 (pv 3) a5)))) (a8 (ai cG)) aD)))
   (a4 (aX (zV (pv 2) T.clM mE FE (hr.mono (by decide)) bE .nil dP)) (a8 (ai (aI (pv 2) rfl))))),?_⟩
  refine⟨_,rfl,?_⟩;intro m dx nm ndx nex;have s0:aq H (upd (upd H dx (.own m)) m (.ins u.cM dx [])):=(ag ndx).trans (ag (by rw[af (Ne.symm nex)];exact nm))
  refine⟨m,dx,st,hd,cs,th,sg,lg,rfl,a7,su.same s0,fun H1 ct ln h1 nc nl ncl hct hln kp=>⟨rfl,?_⟩⟩
  have s1:aq H H1:=aq.made nm ndx kp;have mc:Mc u H H1 m st ct ln cs.length 0 ⟨List.replicate cs.length 0,none,[]⟩:=⟨⟨dx,.non,h1,.inl ⟨rfl,rfl⟩⟩,s1,nm,s0.free nc,s0.free nl,ncl,hct,⟨[],hln,.nil⟩,List.length_replicate,fun v hv=>by rw[(List.mem_replicate.mp hv).2];decide,Nat.le_refl _⟩
  refine⟨_,rfl,d,rfl,⟨_,SqL.of (s1 _ _ hD)⟩,d4 (K:=K) (a:=d) (xs:=cv) (fun i σ H'=>∃z3 M,σ=[some (.ref st),some (.ref d),some (.ref m),z3]/\Mc u H H' m st ct ln cs.length (4 * i) M/\JM.fh lg sg cs th hd x ⟨List.replicate cs.length 0,none,[]⟩=JM.fh lg sg cs th hd (x.drop i) M) ?_ (by rintro i σ H' _ ⟨_,_,_,z,_⟩;exact SqL.of (z.same _ _ hD)) ?_ ?_⟩
  ·exact⟨none,_,rfl,mc,rfl⟩
  ·rintro i v σ H2 hi ⟨z3,M,rfl,mc2,tk⟩;have hil:i<x.length:=by rw[<-lcv];exact(List.getElem?_eq_some_iff.mp hi).1
   have hx:x[i]?=some x[i]:=List.getElem?_eq_getElem hil;have ck:=cok _ (List.getElem_mem hil);rw[List.drop_eq_getElem_cons hil] at tk;obtain⟨c,rfl,hc⟩:=cj pr hi hx;generalize x[i]=y at hx ck hc tk;have tk:JM.fh lg sg cs th hd x ⟨List.replicate cs.length 0,none,[]⟩=match JM.k8 lg sg cs th hd y M with
    |none=>none
    |some m=>JM.fh lg sg cs th hd (x.drop (i+1)) m:=tk
   obtain⟨⟨dx2,lc2,hm2,la2⟩,_⟩:=id mc2;refine⟨_,rfl,m,dx2,_,rfl,hm2,jj _ _ _ _ _ (by decide +kernel),_,rfl,?_⟩
   refine⟨H,m,st,ct,ln,c,4 * i,M,hd,cs,th,sg,lg,y,rfl,mc2,su,hc,ck,by omega,fun e H3 s3=>⟨false,rfl,bh ?_⟩,fun M' e H3 mc3=>⟨true,rfl,aZ ⟨_,M',rfl,mc3,?_⟩⟩⟩
   ·rw[e] at tk;refine kN ?_ H3 s3;unfold JM.bR;rw[tk];rfl
   ·rw[e] at tk;exact tk
  ·rintro σ H2 ⟨z3,M,rfl,mc2,tk⟩;rw[lcv] at mc2 tk;rw[List.drop_length] at tk;have ac:JM.bR lg sg cs th hd x=some (JM.ye lg sg cs th M).lines:=by
    unfold JM.bR;rw[tk];rfl
   obtain⟨⟨dx2,lc2,hm2,la2⟩,_⟩:=id mc2;refine⟨_,rfl,m,dx2,_,rfl,hm2,jj _ _ _ _ _ (by decide +kernel),?_⟩
   refine⟨H,m,st,ct,ln,4 * x.length,M,hd,cs,th,sg,lg,rfl,mc2,su,by omega,fun H3 mc3=>?_⟩
   obtain⟨⟨dx3,lc3,hm3,la3⟩,s3,_,_,_,_,_,⟨bs,hbs,prb⟩,_⟩:=id mc3;refine⟨_,rfl,m,u.cM,dx3,_,_,rfl,hm3,T.clM,T.nMi,(eV _ _ _ _).2.2.2,?_⟩;refine kS _ ac H3 ln bs s3 mc3.nl hbs (Paired.mapP prb fun b l z=>z.2.2.2) ?_
   have go:∀{bs:List Addr} {L:List (List Int)},Paired (LnP H3 ct ln) bs L->∀l∈L,l.length=132:=by
    intro bs L q
    induction q with
    |nil=>intro l hl;cases hl
    |cons r _ ih=>
     intro l hl;rcases List.mem_cons.mp hl with z | z
     ·rw[z];exact r.2.2.1
     ·exact ih l z
   exact go prb
end
end Jd
end
section
namespace L2
open PySem PySem.Spec PyProof.Rows
theorem wN{α β:Type}{g:TG}{tt:TT}{te:TE}{vs:List Nat}{σ:St}{H1:Hp}{D:Addr}{Qd:Hp->Prop}{p:α->Bool}{f:α->β}{S:Hp->V->β->Prop}{K:PySem.W.Frag}{a b:Addr}{as bs:List V}{xs:List α}(hl:as.length=xs.length)(hl2:bs.length=xs.length)(hz:xs.length<=100000)(hD:H1 D=none)(hS:H1 a=some (.lst as))(hS2:H1 b=some (.lst bs))(mono:∀H H' y z acc,H D=some (.lst acc)->bZ D H H'->S H y z->S H' y z)
  (turn:∀(i:Nat) (v v2:V) (x:α) (T:Addr) (H':Hp),as[i]?=some v->bs[i]?=some v2->xs[i]?=some x->aq H1 H'->H' T=some (.tup [v,v2])->o7 g tt te vs σ D p f S (.ref T) x H') (hd:∀H,aq H1 H->bg H D S ((xs.filter p).map f)->Qd H) :
  ∃W:Nat->Nat->Hp->Prop,(∃m,W 0 m (upd H1 D (.lst [])))/\∀i m H,W i m H->
   ((Itz K a b).stop i H/\Qd H)\/((Itz K a b).go i H/\∃Nx:Hp->Prop,(∀H',Nx H'->∃m',m'<m/\W (i+1) m' H')/\∀x H',(Itz K a b).yld i H x H'->g x (cy σ vs) H' fun σ2 H2=>cy σ2 vs=cy σ vs/\tt σ2 H2 fun b H3=>
    if b=true then te σ2 H3 fun y H4=>∃acc,H4 D=some (.lst acc)/\acc.length<sizeLine/\Nx (upd H4 D (.lst (acc++[y]))) else Nx H3):=by
 refine⟨fun i m H=>m=xs.length-i/\i<=xs.length/\gT H1 D p f S xs i H,⟨xs.length,by simp,Nat.zero_le _,me hD⟩,?_⟩
 rintro i m H ⟨rfl,hi,inv⟩;have q1:SqL K H a as:=SqL.of (inv.1 _ _ (a9 hS hD) hS);have q2:SqL K H b bs:=SqL.of (inv.1 _ _ (a9 hS2 hD) hS2);by_cases hlt:i<xs.length
 ·refine .inr ⟨⟨as,bs,as[i],bs[i],q1,q2,by simp[show i<as.length by omega],by simp[show i<bs.length by omega]⟩,gT H1 D p f S xs (i+1),fun H' p'=>⟨xs.length-(i+1),by omega,rfl,hlt,p'⟩,fun x H' y=>?_⟩
  obtain⟨T,z1,z2,rfl,hT,rfl,e1,e2⟩:=y;have hx:xs[i]?=some xs[i]:=List.getElem?_eq_getElem hlt;have sT:aq H (upd H T (.tup [z1,z2])):=fun c o e=>by
   rw[af (a9 e hT)];exact e
  have inv':gT H1 D p f S xs i (upd H T (.tup [z1,z2])):=by
   obtain⟨o1,acc,e,pr⟩:=inv;exact⟨fun c o n z=>sT _ _ (o1 c o n z),acc,sT _ _ e,Paired.mapP pr fun v y h=>mono _ _ _ _ acc e (fun c o _ z=>sT _ _ z) h⟩
  exact mj hz hD mono hx inv' (turn i z1 z2 _ T _ (e1 as q1) (e2 bs q2) hx (fun c o e=>inv'.1 c o (a9 e hD) e) a7)
 ·have e:i=xs.length:=by omega
  subst e;refine .inl ⟨⟨as,bs,q1,q2,.inl (by omega)⟩,hd H (fun c o e=>inv.1 c o (a9 e hD) e) ?_⟩
  have:=inv.2;rw[List.take_length] at this;exact this
end L2
namespace Jd
open PySem PySem.Spec PyProof.Rows L2
section
variable{P:Program}{w:World}{K:PySem.W.Frag}{mg:Str->Option Value}{base:Heap}{t:Adr}{u:cF}{f:Addr}{fd:FuncData}
structure Rm(u:cF)(H0 H:Hp)(r tr pn st pp pa sa:Addr)(kvs:List (Key×V)):Prop where
 ins:∃dx,H r=some (.ins u.cO dx (rmF tr pn st pp))
 same:aq H0 H
 nt:H0 tr=none
 trs:H tr=some (.dK kvs)
 few:kvs.length<=10
 pns:∃kp,H pn=some (.dK kp)/\cw kp (Sum.inl 0)=some (.ref pa)
 sts:∃ks,H st=some (.dK ks)/\cw ks (Sum.inl 0)=some (.ref sa)
 pps:H pp=some (.lst [])
 np:pn≠tr
 ns:st≠tr
 npp:H0 pp=none
theorem Rm.keep{H0 H H':Hp}{r tr pn st pp pa sa:Addr}{kvs:List (Key×V)}(sm:aq H H')(h:Rm u H0 H r tr pn st pp pa sa kvs):Rm u H0 H' r tr pn st pp pa sa kvs:=by
 obtain⟨⟨dx,h1⟩,h2,h3,h4,h5,⟨kp,h6,h7⟩,⟨ks,h8,h9⟩,h10,h11,h12,h13⟩:=h;exact⟨⟨dx,sm _ _ h1⟩,h2.trans sm,h3,sm _ _ h4,h5,⟨kp,sm _ _ h6,h7⟩,⟨ks,sm _ _ h8,h9⟩,sm _ _ h10,h11,h12,h13⟩
theorem Rm.put{H0 H H':Hp}{r tr pn st pp pa sa:Addr}{kvs kvs':List (Key×V)}(o:bZ tr H H')(h:Rm u H0 H r tr pn st pp pa sa kvs)(e:H' tr=some (.dK kvs'))(l:kvs'.length<=10):Rm u H0 H' r tr pn st pp pa sa kvs':=by
 obtain⟨⟨dx,h1⟩,h2,h3,h4,h5,⟨kp,h6,h7⟩,⟨ks,h8,h9⟩,h10,h11,h12,h13⟩:=h;exact⟨⟨dx,o _ _ (cX h1 h4 (by intro z;cases z)) h1⟩,fun b q z=>o _ _ (a9 z h3) (h2 _ _ z),h3,e,l,⟨kp,o _ _ h11 h6,h7⟩,⟨ks,o _ _ h12 h8,h9⟩,o _ _ (cX h10 h4 (by intro z;cases z)) h10,h11,h12,h13⟩
noncomputable def plF(ps:V)(pn st jb:Addr):List (Str×V):=[("passes",ps),("panel",.ref pn),("setup",.ref st),("job",.ref jb)]
theorem Bn(ps:V)(pn st jb:Addr):(plF ps pn st jb).lookup ("panel" : Str)=some (V.ref pn)/\(plF ps pn st jb).lookup ("setup" : Str)=some (V.ref st)/\(plF ps pn st jb).lookup ("job" : Str)=some (V.ref jb):=by
 refine⟨?_,?_,?_⟩<;>rfl
theorem rW{tk tv:TE}{σ:L2.St}{H:Hp}{Q:VK}(k:Key)(v:V)(h:∀(H':Hp) (p:Addr),aq H H'->H p=none->H' p=some (.dK [(k,v)])->Q (.ref p) H')(hk:∀(H':Hp) (Q':VK),aq H H'->Q' (kV k) H'->tk σ H' Q')(hv:∀(H':Hp) (Q':VK),aq H H'->Q' v H'->tv σ H' Q'):Ak [(tk,tv)] σ H Q:=by
 intro p hp;refine hk _ _ (ag hp) (hv _ _ (ag hp) ⟨a7,[(k,v)],rfl,by show 1<=15;decide,h _ p (fun b o e=>?_) hp a7⟩)
 rw[af (a9 e hp),af (a9 e hp)];exact e
theorem Bl{tk tv tl tx:TE}{σ:L2.St}{H:Hp}{Q:VK}(k l:Key)(v:V)(h:∀(H':Hp) (p e:Addr),aq H H'->H p=none->H' p=some (.dK (kP [] [(k,v),(l,.ref e)]))->Q (.ref p) H')(hk:∀(H':Hp) (Q':VK),aq H H'->Q' (kV k) H'->tk σ H' Q')(hv:∀(H':Hp) (Q':VK),aq H H'->Q' v H'->tv σ H' Q')(hl:∀(H':Hp) (Q':VK),aq H H'->Q' (kV l) H'->tl σ H' Q')(hx:∀(H':Hp) (Q':VK),(∀e,H' e=none->Q' (.ref e) (upd H' e (.lst [])))->tx σ H' Q'):Ak [(tk,tv),(tl,tx)] σ H Q:=by
 intro p hp;refine hk _ _ (ag hp) (hv _ _ (ag hp) (hl _ _ (ag hp) (hx _ _ fun e he=>?_)))
 have n:p≠e:=a9 a7 he;refine⟨by rw[af n];exact a7,[(k,v),(l,.ref e)],rfl,by show 2<=15;decide,h _ p e (fun b o z=>?_) hp a7⟩
 rw[af (a9 z hp),af (a9 (ag hp _ _ z) he),af (a9 z hp)];exact z
def zA(u:cF):Sp:=fun vs H Q _=>∃(p dx pa sa jb d:Addr) (ps:V),vs=[.ref p,.ref d]/\H p=some (.ins u.cL dx (plF ps pa sa jb))/\
 ∀(H':Hp) (r tr pn st pp:Addr),Rm u H H' r tr pn st pp pa sa [((Sum.inr "A" : Key),.ref d)]->Q (.ref r) H'
theorem GV:au ["plan", "cards"] ["plan", "cards"] (ae wq):=⟨rfl,rfl,rfl,by decide +kernel,rfl,by decide +kernel,by decide +kernel⟩
theorem Cw(F:Fun K "room_of" "room_of" wq f fd)(T:Tx2 K w mg u)(mO:Mak P w K mg base "Room" u.cO 1 ["self", "trays", "panels", "setups"] (wm u)):aT P w K mg base CX0 3 f fd ["plan", "cards"] (zA u):=by
 refine F.ok GV (fun vs H Q E h=>?_) (fun cdv A outer s H vs Q E hr h=>?_)
 ·obtain⟨p,dx,pa,sa,jb,d,ps,rfl,_⟩:=h;rfl
 ·obtain⟨p,dx,pa,sa,jb,d,ps,rfl,hp,k⟩:=h;refine⟨_,a8 (ai (fo mO hr (by decide) rfl (a0 (rq (jS aA (pv 1) qM) rfl rfl (by simp) (by decide)) (a0 (rq (jS ah (aI (pv 0) rfl) (jS ah (b9 a5) qM)) rfl rfl (by simp) (by decide)) (a0 (rq (jS ah (aI (pv 0) rfl) qM) rfl rfl (by simp) (by decide)) a5))))),?_⟩
  dsimp only[En,Ad,gC,jz];refine rW (tk:=tC (.str "A")) (tv:=cb 1) (Sum.inr "A") (.ref d) (fun H1 tr s1 ntr h1=>?_) ?_ ?_
  rotate_left
  ·exact fun H' Q' _ q=>q
  ·exact fun H' Q' _ q=>⟨_,rfl,q⟩
  refine Bl (tk:=tC (.int 0)) (tv:=lO K (cb 0) "panel") (tl:=tC (.int 1)) (tx:=Iq jz) (Sum.inl 0) (Sum.inl 1) (.ref pa) (fun H2 pn e s2 npn h2=>?_) ?_ ?_ ?_ ?_
  rotate_left
  ·exact fun H' Q' _ q=>q
  ·exact fun H' Q' s q=>⟨_,rfl,p,u.cL,dx,_,_,rfl,s _ _ (s1 _ _ hp),T.clL,T.nLn,(Bn _ _ _ _).1,q⟩
  ·exact fun H' Q' _ q=>q
  ·exact fun H' Q' q=>⟨Nat.zero_le _,q⟩
  refine rW (tk:=tC (.int 0)) (tv:=lO K (cb 0) "setup") (Sum.inl 0) (.ref sa) (fun H3 st s3 nst h3=>?_) ?_ ?_
  rotate_left
  ·exact fun H' Q' _ q=>q
  ·exact fun H' Q' s q=>⟨_,rfl,p,u.cL,dx,_,_,rfl,s _ _ (s2 _ _ (s1 _ _ hp)),T.clL,T.nLs,(Bn _ _ _ _).2.1,q⟩
  have s13:=s1.trans (s2.trans s3);intro r dr nr ndr ner;refine⟨r,dr,tr,pn,st,rfl,a7,fun H4 q h4 nq hq kp=>⟨rfl,k H4 r tr pn st q ?_⟩⟩
  have s4:aq H3 H4:=aq.made nr ndr kp;have s0:aq H3 (upd (upd H3 dr (.own r)) r (.ins u.cO dr [])):=(ag ndr).trans (ag (by rw[af (Ne.symm ner)];exact nr))
  refine⟨⟨dr,h4⟩,s13.trans s4,ntr,s4 _ _ (s3 _ _ (s2 _ _ h1)),by show 1<=10;decide,⟨_,s4 _ _ (s3 _ _ h2),rfl⟩,⟨_,s4 _ _ h3,rfl⟩,hq,fun z=>?_,fun z=>?_,s13.free (s0.free nq)⟩
  ·rw[z,h1] at npn;cases npn
  ·rw[z,s2 _ _ h1] at nst;cases nst
def TrC(H0 H:Hp)(kvs:List (Key×V))(y:Pu.Deck):Prop:=∃b cv,cw kvs (Sum.inr "C")=some (.ref b)/\H b=some (.lst cv)/\Paired (CdR H0) cv y
def BlI(H:Hp)(v:V)(b:Bool):Prop:=v=.bl b
theorem By{D:Addr}(H H':Hp)(y:V)(z:Bool)(acc:List V)(hD:H D=some (.lst acc))(o:bZ D H H')(h:BlI H y z):BlI H' y z:=h
theorem Co{H:Hp}{p:Addr}{ns:List Bool}(h:bg H p BlI ns):H p=some (.lst (ns.map V.bl)):=by
 obtain⟨vs,e,pr⟩:=h;have go:∀{vs:List V} {ns:List Bool},Paired (fun v n=>BlI H v n) vs ns->vs=ns.map V.bl:=by
  intro vs ns q
  induction q with
  |nil=>rfl
  |cons r _ ih=>rw[List.map_cons,<-ih,show _=V.bl _ from r]
 rw[e,go pr]
def yw(H:Hp)(v:V)(y:V):Prop:=v=y
theorem pH{D:Addr}(H H':Hp)(y z:V)(acc:List V)(hD:H D=some (.lst acc))(o:bZ D H H')(h:yw H y z):yw H' y z:=h
theorem uw{H:Hp}{p:Addr}{ys:List V}(h:bg H p yw ys):H p=some (.lst ys):=by
 obtain⟨vs,e,pr⟩:=h;have go:∀{vs ys:List V},Paired (fun v n=>yw H v n) vs ys->vs=ys:=by
  intro vs ys q
  induction q with
  |nil=>rfl
  |cons r _ ih=>rw[<-ih,show _=_ from r]
 rw[e,go pr]
theorem mv{G:V->Pu.Card->Prop}(g:Pu.Card->Bool):∀{cv:List V}{x:Pu.Deck},Paired G cv x->Paired G (((cv.zip (x.map g)).filter (fun z=>z.2)).map (fun z=>z.1)) (x.filter g)
 |_,_,.nil=>.nil
 |_,_,.cons (a:=a) (b:=b) r q=>by
  have ih:=mv g q;rw[List.map_cons,List.zip_cons_cons,List.filter_cons,List.filter_cons];cases e:g b with
  |true=>exact .cons r ih
  |false=>exact ih
theorem DF:(Sum.inr ("B" : Str):Key)≠(Sum.inr ("A" : Str):Key)/\(Sum.inr ("C" : Str):Key)≠(Sum.inr ("A" : Str):Key)/\(Sum.inr ("C" : Str):Key)≠(Sum.inr ("B" : Str):Key):=by decide +kernel
def gJ(wr:List JM.Wr)(x:Pu.Card):Bool:=(JM.cW x (wr.map JM.eA) Pu.noFlow).getD 0 0 != 0
def Ai(u:cF):Sp:=fun vs H Q _=>∃(H0:Hp) (r tr pn st pp pa sa ln d:Addr) (cv:List V) (x:Pu.Deck) (wr:List JM.Wr),vs=[.ref r,.ref ln]/\Rm u H0 H r tr pn st pp pa sa [((Sum.inr "A" : Key),.ref d)]/\H0 ln=some (.tup [.str "choose",.str "A",.int 0,.str ">",.str "B",.str "C"])/\H0 d=some (.lst cv)/\Paired (CdR H0) cv x/\(∀y∈x,lM y)/\x.length<=1000/\
 bg H0 pa WrV wr/\(∀s∈wr,WrP s)/\wr.length<=150/\∀H' kvs,Rm u H0 H' r tr pn st pp pa sa kvs->TrC H0 H' kvs (x.filter (gJ wr))->Q (.int 0) H'
theorem iL:au ["room", "line", "panel", "cards", "chosen", "card", "is_in"] ["room", "line"] (ae yG):=⟨rfl,rfl,rfl,by decide +kernel,rfl,by decide +kernel,by decide +kernel⟩
theorem Ha:gv ["room", "line", "panel", "cards", "chosen", "card", "is_in"] (ae yG) (iE [(".0",.local),("card",.local),("is_chosen",.globalImplicit),("panel",.free)]) [("card",5)]=true:=by decide +kernel
theorem Be:gv ["room", "line", "panel", "cards", "chosen", "card", "is_in"] (ae yG) (iE [(".0",.local),("card",.local),("is_in",.local)]) [("card",5),("is_in",6)]=true:=by decide +kernel
theorem Gk(F:Fun K "do_choose" "do_choose" yG f fd)(T:Tx2 K w mg u)(cOut:iB P w K mg base u.cO "take_out" 2 ["self", "tray"] (Aa u))(cBeh:iB P w K mg base u.cO "put_behind" 2 ["self", "tray", "cards"] (zJ u))(cCho:Cal P w K mg base "is_chosen" 5 ["panel", "card"] ER):aT P w K mg base CX0 6 f fd ["room", "line"] (Ai u):=by
 refine F.ok iL (fun vs H Q E h=>?_) (fun cdv A outer s H vs Q E hr h=>?_)
 ·obtain⟨H0,r,tr,pn,st,pp,pa,sa,ln,d,cv,x,wr,rfl,_⟩:=h;rfl
 ·obtain⟨H0,r,tr,pn,st,pp,pa,sa,ln,d,cv,x,wr,rfl,rm,hln,hd,pr,cok,lx,hw,wok,lw,k⟩:=h;have hu:=eU hr;obtain⟨fO,fdO,FO,mO,bO⟩:=cOut;obtain⟨fB,fdB,FB,mB,bB⟩:=cBeh;have lcv:=b5 pr;obtain⟨kBA,kCA,kCB⟩:=DF;refine⟨_,a4 (ax (i:=2) iL.nd rfl (Or.inr rfl) (bx hu (aI (pv 0) rfl) (bp cu (pv 1) ah (fun _ _=>rfl)) (fun _ _=>rfl)))
   (a4 (ax (i:=3) iL.nd rfl (Or.inl rfl) (cJ (pv 0) T.clO mO FO (hr.mono (by decide)) bO .nil dP (a0 (bp cu (pv 1) ah (fun _ _=>rfl)) a5)))
   (a4 (iF (own:=[("card",5)]) (i:=4) rfl iL.nd rfl rfl (kf rfl rfl rfl rfl) (bu (pv 3)) (bD Ha) (fun s H C cl fp=>aH (i:=5) iL.nd rfl (Or.inl rfl)) (fun s H C cl fp=>dj) (fun s H C cl fp=>az cCho hr (by decide) rfl (a0 (pv 2) (a0 (pv 5) a5))))
   (a4 (aX (cJ (pv 0) T.clO mB FB (hr.mono (by decide)) bB .nil dP (a0 (bp cu (pv 1) ah (fun _ _=>rfl)) (a0 (fG (own:=[("card",5),("is_in",6)]) (g:=Ft K 2 (rT (fU 5) (rT (fU 6) Fw))) (tt:=AU (tB (cb 6))) rfl iL.nd (AI rfl T.zZip (a0 (pv 3) (a0 (pv 4) a5))) (bD Be) (fun s H C cl fp=>fM rfl (ba (aH (i:=5) iL.nd rfl (Or.inl rfl)) (ba (aH (i:=6) iL.nd rfl (Or.inl rfl)) eR))) (fun s H C cl fp=>j4 (eg (fY (pv 6)))) (fun s H C cl fp=>pv 5)) a5))))
   (a4 (aX (cJ (pv 0) T.clO mB FB (hr.mono (by decide)) bB .nil dP (a0 (bp cu (pv 1) ah (fun _ _=>rfl)) (a0 (fG (own:=[("card",5),("is_in",6)]) (g:=Ft K 2 (rT (fU 5) (rT (fU 6) Fw))) (tt:=tB (cb 6)) rfl iL.nd (AI rfl T.zZip (a0 (pv 3) (a0 (pv 4) a5))) (bD Be) (fun s H C cl fp=>fM rfl (ba (aH (i:=5) iL.nd rfl (Or.inl rfl)) (ba (aH (i:=6) iL.nd rfl (Or.inl rfl)) eR))) (fun s H C cl fp=>j4 (fY (pv 6))) (fun s H C cl fp=>pv 5)) a5))))
   (a8 (ai (bH T.kFine rfl))))))),?_⟩
  obtain⟨⟨dx,h1⟩,sm,_,htr,_,⟨kp,hpn,vpn⟩,_⟩:=id rm;have get0:ie H pn (.int 0) (some (.ref pa)):=by
   have:=ie.k (k:=Sum.inl 0) hpn;rw[vpn] at this;exact this
  have hl0:=sm _ _ hln;refine⟨_,rfl,r,u.cO,dx,_,_,rfl,h1,T.clO,T.nOp,(ka _ _ _ _).2.1,_,rfl,ln,_,_,_,rfl,rfl,SqT.of hl0,rfl,pn,_,rfl,get0,?_⟩;refine⟨_,rfl,r,dx,_,rfl,h1,lj _ _ _ _ _ (by decide +kernel),_,rfl,ln,_,_,_,rfl,rfl,SqT.of hl0,rfl,?_⟩
  refine⟨r,dx,tr,pn,st,pp, "A",_,.ref d,rfl,h1,htr,by show 1<=100;decide,rfl,fun H1 q o1 nq hq t1=>?_⟩
  have rm1:=rm.put o1 t1 (Nat.le_trans (d6 _ _ _) (by show 1+1<=10;decide))
  generalize hk1:dt [((Sum.inr "A" : Key),V.ref d)] (Sum.inr "A") (.ref q)=kv1 at rm1 t1;have v1:∀y:Key,y≠(Sum.inr ("A" : Str):Key)->cw kv1 y=none:=fun y hy=>by
   rw[<-hk1,gP];refine(if_neg hy).trans ?_;rw[cx (fun z=>hy z.symm)]
   rfl
  have kl1:kv1.length<=2:=by rw[<-hk1];exact d6 _ _ _
  clear hk1 t1;have sm1:=rm1.same;refine⟨_,rfl,d,rfl,⟨_,SqL.of (sm1 _ _ hd)⟩,fun D hD=>?_⟩
  refine dH (xs:=x) (p:=fun _=>true) (f:=gJ wr) (S:=BlI) lcv (by omega) hD (SqL.of (sm1 _ _ hd)) By ?_ (fun H2 s2 e2=>?_)
  ·intro i v y H' hv hx s Fin Nx kY kN;obtain⟨c,rfl,hc⟩:=cj pr hv hx;have s0:=sm1.trans s;exact⟨rfl,jt ⟨_,rfl,_,rfl,pa,c,wr,y,rfl,cQ (fun _ _=>m6 s0) s0 hw,wok,lw,hc.same s0,(cok y (List.mem_of_getElem? hx)).1,fun H3 s3=>kY rfl H3 _ s3 rfl⟩⟩
  ·rw[eQ] at e2;have e2:=Co e2;have rm2:=rm1.keep s2;have nDt:D≠tr:=fun z=>by rw[z,rm1.trs] at hD;cases hD
   have zl:(cv.zip (x.map (gJ wr))).length=x.length:=by rw[List.length_zip,List.length_map,lcv,Nat.min_self]
   have rowL:∀p:V×Bool->Bool,(((cv.zip (x.map (gJ wr))).filter p).map (fun z=>z.1)).length<=1000:=fun p=>by
    rw[List.length_map];have:=List.length_filter_le p (cv.zip (x.map (gJ wr)));omega
   have turn:∀(p:V×Bool->Bool) {H':Hp} {i:Nat} {v v2:V} {z:V×Bool},cv[i]?=some v->((x.map (gJ wr)).map V.bl)[i]?=some v2->(cv.zip (x.map (gJ wr)))[i]?=some z->v=z.1/\v2=.bl z.2:=fun p H' i v v2 z hv hv2 hz=>by
    have:=List.getElem?_zip_eq_some.mp hz;rw[this.1] at hv;rw[List.getElem?_map,this.2] at hv2;cases hv;cases hv2;exact⟨rfl,rfl⟩
   obtain⟨⟨dx2,h12⟩,sm2,_,t2,_⟩:=id rm2;refine⟨_,rfl,r,dx2,_,rfl,h12,lj _ _ _ _ _ (by decide +kernel),_,rfl,ln,_,_,_,rfl,rfl,SqT.of (sm2 _ _ hln),rfl,_,rfl,_,rfl,d,D,_,_,rfl,SqL.of (sm2 _ _ hd),SqL.of e2,fun D3 hD3=>?_⟩
   refine wN (as:=cv) (bs:=(x.map (gJ wr)).map V.bl) (xs:=cv.zip (x.map (gJ wr))) (p:=fun z=>!z.2) (f:=fun z=>z.1) (S:=yw) (by rw[zl];exact lcv) (by rw[zl,List.length_map,List.length_map]) (by omega) hD3 (sm2 _ _ hd) e2 pH ?_ (fun H3 s3 e3=>?_)
   ·intro i v v2 z Tp H' hv hv2 hz s hT Fin Nx kY kN;obtain⟨rfl,rfl⟩:=turn (fun z=>!z.2) (H':=H') hv hv2 hz
    refine⟨Tp,_,rfl,SqT.of hT,rfl,_,_,rfl,_,_,rfl,rfl,rfl,_,rfl,z.2,rfl,?_⟩;cases hb:z.2 with
    |true=>exact aZ (kN (by dsimp only;rw[hb];rfl) H' (aq.refl _))
    |false=>exact bh ⟨_,rfl,kY (by dsimp only;rw[hb];rfl) H' _ (aq.refl _) rfl⟩
   ·have e3:=uw e3;have rm3:=rm2.keep s3;obtain⟨⟨dx3,h13⟩,sm3,_,t3,_⟩:=id rm3;refine⟨r,dx3,tr,pn,st,pp,D3, "B",kv1,[],_,rfl,h13,t3,by omega,e3,?_,.inr ⟨v1 _ kBA,rfl⟩,fun H4 q4 o4 nq4 hq4 t4=>?_⟩
    ·have:=rowL (fun z=>!z.2)
     rw[List.length_nil];omega
    have rm4:=rm3.put o4 t4 (Nat.le_trans (d6 _ _ _) (by omega))
    have kl4:(dt kv1 (Sum.inr "B") (.ref q4)).length<=3:=Nat.le_trans (d6 _ _ _) (by omega)
    have v4:cw (dt kv1 (Sum.inr "B") (.ref q4)) (Sum.inr "C")=none:=by
     rw[gP];exact(if_neg kCB).trans (v1 _ kCA)
    generalize dt kv1 (Sum.inr "B") (.ref q4)=kv4 at rm4 kl4 v4;have e4:=o4 _ _ nDt (s3 _ _ e2);obtain⟨⟨dx4,h14⟩,sm4,_,t4,_⟩:=id rm4;refine⟨_,rfl,r,dx4,_,rfl,h14,lj _ _ _ _ _ (by decide +kernel),_,rfl,ln,_,_,_,rfl,rfl,SqT.of (sm4 _ _ hln),rfl,_,rfl,_,rfl,d,D,_,_,rfl,SqL.of (sm4 _ _ hd),SqL.of e4,fun D5 hD5=>?_⟩
    refine wN (as:=cv) (bs:=(x.map (gJ wr)).map V.bl) (xs:=cv.zip (x.map (gJ wr))) (p:=fun z=>z.2) (f:=fun z=>z.1) (S:=yw) (by rw[zl];exact lcv) (by rw[zl,List.length_map,List.length_map]) (by omega) hD5 (sm4 _ _ hd) e4 pH ?_ (fun H5 s5 e5=>?_)
    ·intro i v v2 z Tp H' hv hv2 hz s hT Fin Nx kY kN;obtain⟨rfl,rfl⟩:=turn (fun z=>z.2) (H':=H') hv hv2 hz
     refine⟨Tp,_,rfl,SqT.of hT,rfl,_,_,rfl,_,_,rfl,rfl,rfl,_,rfl,z.2,rfl,?_⟩;cases hb:z.2 with
     |true=>exact bh ⟨_,rfl,kY hb H' _ (aq.refl _) rfl⟩
     |false=>exact aZ (kN hb H' (aq.refl _))
    ·have e5:=uw e5;have rm5:=rm4.keep s5;obtain⟨⟨dx5,h15⟩,sm5,_,t5,_⟩:=id rm5;refine⟨r,dx5,tr,pn,st,pp,D5, "C",kv4,[],_,rfl,h15,t5,by omega,e5,?_,.inr ⟨v4,rfl⟩,fun H6 q6 o6 nq6 hq6 t6=>?_⟩
     ·have:=rowL (fun z=>z.2)
      rw[List.length_nil];omega
     have rm6:=rm5.put o6 t6 (Nat.le_trans (d6 _ _ _) (by omega))
     refine k H6 _ rm6 ⟨q6,_,?_,hq6,mv (gJ wr) pr⟩;rw[gP,if_pos rfl]
end
theorem oz(l h:Nat):(Pu.topOf (h &&& l)==0)=(Pu.pocketOf l h==12)/\∀j,j<12->(Pu.topOf (h &&& l)==j+1)=(Pu.pocketOf l h==j):=by
 have e:(fun i=>(h &&& l).testBit i)=fun r=>l.testBit r&&h.testBit r:=by
  funext r;rw[Nat.testBit_and,Bool.and_comm]
 have b:∀r,((List.range 12).reverse.find? fun r=>l.testBit r&&h.testBit r)=some r->r<12:=fun r z=>by
  have:=List.mem_of_find?_eq_some z;rw[List.mem_reverse,List.mem_range] at this;exact this
 unfold Pu.topOf Pu.pocketOf Pu.ROWS;rw[e];cases z:(List.range 12).reverse.find? fun r=>l.testBit r&&h.testBit r with
 |none=>
  refine⟨rfl,fun j hj=>?_⟩
  show(0==j+1)=(12==j);rw[beq_eq_false_iff_ne.mpr (show 0≠j+1 by omega),beq_eq_false_iff_ne.mpr (show 12≠j by omega)]
 |some r=>
  have hr:=b r z;refine⟨?_,fun j hj=>?_⟩
  ·show(r+1==0)=(r==12);rw[beq_eq_false_iff_ne.mpr (show r+1≠0 by omega),beq_eq_false_iff_ne.mpr (show r≠12 by omega)]
  ·show(r+1==j+1)=(r==j);by_cases q:r=j
   ·subst q;simp
   ·rw[beq_eq_false_iff_ne.mpr (show r+1≠j+1 by omega),beq_eq_false_iff_ne.mpr q]
noncomputable def inP(c l j:Nat)(x:Pu.Card):Bool:=Pu.topOf (x.getD c 0 &&& l)==j
theorem yj(c l:Nat)(d:Pu.Deck):Pu.passed c l Pu.jobStack d=(List.range 13).flatMap fun j=>d.filter (inP c l j):=by
 have e0:Pu.pocket c l d 12=d.filter (inP c l 0):=by
  unfold Pu.pocket;congr 1;funext x;exact(oz l (x.getD c 0)).1.symm
 have e1:∀j,j<12->Pu.pocket c l d j=d.filter (inP c l (j+1)):=fun j hj=>by
  unfold Pu.pocket;congr 1;funext x;exact((oz l (x.getD c 0)).2 j hj).symm
 unfold Pu.passed Pu.jobStack;rw[List.flatMap_cons,e0,List.range_succ_eq_map,List.flatMap_cons,List.flatMap_map];congr 1;have go:∀L:List Nat,(∀j∈L,j<12)->L.flatMap (Pu.pocket c l d)=L.flatMap fun j=>d.filter (inP c l (j+1)):=fun L=>by
  induction L with
  |nil=>intro _;rfl
  |cons a L ih=>
   intro h;rw[List.flatMap_cons,List.flatMap_cons,e1 a (h a (by simp)),ih fun j hj=>h j (by simp[hj])]
 exact go _ fun j hj=>List.mem_range.mp hj
theorem qg{G:V->Pu.Card->Prop}{f:Nat->List V}{g:Nat->Pu.Deck}(h:∀j,Paired G (f j) (g j)):∀L:List Nat,Paired G (L.flatMap f) (L.flatMap g)
 |[]=>.nil
 |j::L=>by
  rw[List.flatMap_cons,List.flatMap_cons];exact jB (h j) (qg h L)
theorem nH{G:V->Pu.Card->Prop}(g:Pu.Card->Bool):∀{cv:List V}{x:Pu.Deck},Paired G cv x->Paired G (((cv.zip x).filter (fun z=>g z.2)).map (fun z=>z.1)) (x.filter g)
 |_,_,.nil=>.nil
 |_,_,.cons (a:=a) (b:=b) r q=>by
  have ih:=nH g q;rw[List.zip_cons_cons,List.filter_cons,List.filter_cons];cases e:g b with
  |true=>exact .cons r ih
  |false=>exact ih
def pkt(c l:Nat)(z:List (V×Pu.Card))(i j:Nat):List V:=((z.take i).filter (fun q=>inP c l j q.2)).map (fun q=>q.1)
theorem As{c l i j:Nat}{z:List (V×Pu.Card)}{v:V}{y:Pu.Card}(h:z[i]?=some (v,y)):pkt c l z (i+1) j=if inP c l j y=true then pkt c l z i j++[v] else pkt c l z i j:=by
 unfold pkt;rw[bU h,List.filter_append,List.map_append,List.filter_cons];by_cases e:inP c l j y=true
 ·rw[if_pos e,if_pos e];rfl
 ·rw[if_neg e,if_neg e];simp
theorem xI{c l i j:Nat}{z:List (V×Pu.Card)}:(pkt c l z i j).length<=z.length:=by
 unfold pkt;rw[List.length_map];refine Nat.le_trans (List.length_filter_le _ _) ?_;rw[List.length_take];omega
theorem zx{f:Nat->List V}{n:Nat}(h:∀j,(f j).length<=n):∀L:List Nat,(L.flatMap f).length<=L.length * n
 |[]=>Nat.zero_le _
 |j::L=>by
  have:=zx h L;have:=h j;rw[List.flatMap_cons,List.length_append,List.length_cons,Nat.succ_mul];omega
theorem wD{kvs:List (Key×V)}{k:Key}{v y:V}(h:cw kvs k=some v):(dt kvs k y).length=kvs.length:=by
 unfold dt;rw[gH,h,if_pos (show(some v).isSome=true from rfl),List.length_map]
theorem Rm.off{u:cF}{H0 H H':Hp}{r tr pn st pp pa sa:Addr}{kvs:List (Key×V)}(as:List Addr)(f:∀b o,b ∉ as->H b=some o->H' b=some o)(h:Rm u H0 H r tr pn st pp pa sa kvs)(n0:∀b o,H0 b=some o->b ∉ as)(nr:r ∉ as)(nt:tr ∉ as)(np:pn ∉ as)(ns:st ∉ as)(nq:pp ∉ as):Rm u H0 H' r tr pn st pp pa sa kvs:=by
 obtain⟨⟨dx,h1⟩,h2,h3,h4,h5,⟨kp,h6,h7⟩,⟨ks,h8,h9⟩,h10,h11,h12,h13⟩:=h;exact⟨⟨dx,f _ _ nr h1⟩,fun b o z=>f _ _ (n0 b o z) (h2 _ _ z),h3,f _ _ nt h4,h5,⟨kp,f _ _ np h6,h7⟩,⟨ks,f _ _ ns h8,h9⟩,f _ _ nq h10,h11,h12,h13⟩
section
variable{P:Program}{w:World}{K:PySem.W.Frag}{mg:Str->Option Value}{base:Heap}{t:Adr}{u:cF}{f:Addr}{fd:FuncData}
def A6(u:cF):Sp:=fun vs H Q _=>∃(H0:Hp) (r tr pn st pp pa sa ln:Addr) (c l:Nat) (kvs:List (Key×V)) (x:Pu.Deck),vs=[.ref r,.ref ln]/\Rm u H0 H r tr pn st pp pa sa kvs/\H0 ln=some (.tup [.str "pass",.str "C",vN c,vN l,.str ">",.str "C"])/\c<80/\TrC H0 H kvs x/\(∀y∈x,lM y)/\x.length<=1000/\
 ∀H' kvs',Rm u H0 H' r tr pn st pp pa sa kvs'->TrC H0 H' kvs' (Pu.passed c l Pu.jobStack x)->Q (.int 0) H'
theorem oj:au ["room", "line", "column", "looked_at", "pockets", "card", "cards", "pocket"] ["room", "line"] (ae B8):=⟨rfl,rfl,rfl,by decide +kernel,rfl,by decide +kernel,by decide +kernel⟩
theorem HN:gv ["room", "line", "column", "looked_at", "pockets", "card", "cards", "pocket"] (ae B8) (iE [(".0",.local),("pocket",.local)]) [("pocket",7)]=true:=by decide +kernel
theorem Hb(F:Fun K "do_pass" "do_pass" B8 f fd)(T:Tx2 K w mg u)(cOut:iB P w K mg base u.cO "take_out" 2 ["self", "tray"] (Aa u))(cBeh:iB P w K mg base u.cO "put_behind" 2 ["self", "tray", "cards"] (zJ u))(cTop:Cal P w K mg base "top_rank" 1 ["holes"] B0):aT P w K mg base CX0 6 f fd ["room", "line"] (A6 u):=by
 refine F.ok oj (fun vs H Q E h=>?_) (fun cdv A outer s H vs Q E hr h=>?_)
 ·obtain⟨H0,r,tr,pn,st,pp,pa,sa,ln,c,l,kvs,x,rfl,_⟩:=h;rfl
 ·obtain⟨H0,r,tr,pn,st,pp,pa,sa,ln,c,l,kvs,x,rfl,rm,hln,c80,⟨b0,cv,vb,hb0,pr⟩,cok,lx,k⟩:=h;obtain⟨fO,fdO,FO,mO,bO⟩:=cOut;obtain⟨fB,fdB,FB,mB,bB⟩:=cBeh;have lcv:=b5 pr;have big:(100000:Nat)<sizeLine:=by decide
  refine⟨_,a4 (ax (i:=2) oj.nd rfl (Or.inl rfl) (bp cu (pv 1) ah (fun _ _=>rfl)))
   (a4 (ax (i:=3) oj.nd rfl (Or.inl rfl) (bp cu (pv 1) ah (fun _ _=>rfl)))
   (a4 (iF (own:=[("pocket",7)]) (i:=4) rfl oj.nd rfl rfl (kf rfl rfl rfl rfl) (pB rfl T.zRange (a0 (bH T.kPock rfl) a5)) (bD HN) (fun s H C cl fp=>aH (i:=7) oj.nd rfl (Or.inl rfl)) (fun s H C cl fp=>dj) (fun s H C cl fp=>b9 a5))
   (a4 (bM PassesOwn.never rfl (bu (cJ (pv 0) T.clO mO FO (hr.mono (by decide)) bO .nil dP (a0 (bp cu (pv 1) ah (fun _ _=>rfl)) a5))) (aH (i:=5) oj.nd rfl (Or.inl rfl))
    (a8 (aX (d5 PySem.F.plainAttrs_list PySem.F.slot_list_append PySem.F.type_list_append bF (bp bK (pv 4) (az cTop hr (by decide) rfl (a0 (aQ vi (bp bK (pv 5) (pv 2) (fun _ _=>rfl)) (pv 3)) a5)) (fun _ _=>rfl)) (a0 (pv 5) a5)))))
   (a4 (bM PassesOwn.never rfl (bu (pv 4)) (aH (i:=6) oj.nd rfl (Or.inl rfl))
    (a8 (aX (cJ (pv 0) T.clO mB FB (hr.mono (by decide)) bB .nil dP (a0 (bp cu (pv 1) ah (fun _ _=>rfl)) (a0 (pv 6) a5))))))
   (a8 (ai (bH T.kFine rfl))))))),?_⟩
  have hl0:=rm.same _ _ hln;refine⟨_,rfl,ln,_,_,_,rfl,rfl,SqT.of hl0,rfl,?_⟩;refine⟨_,rfl,ln,_,_,_,rfl,rfl,SqT.of hl0,rfl,?_⟩;refine⟨13,rfl,by decide,by decide,fun D hD=>?_⟩
  refine tM (lo:=0) (n:=13) (fun i H'=>aq H H'/\∃as:List Addr,H' D=some (.lst (as.map V.ref))/\as.length=i/\as.Nodup/\∀a∈as,H a=none/\a≠D/\H' a=some (.lst [])) ?_ ?_ ?_
  ·exact⟨ag hD,[],a7,rfl,List.nodup_nil,fun a ha=>by cases ha⟩
  ·rintro i H1 hi ⟨s1,as,h1,l1,nd,al⟩;refine⟨rfl,jt ⟨Nat.zero_le _,fun e he=>⟨as.map V.ref,?_,?_,?_⟩⟩⟩
   ·rw[af (a9 h1 he)];exact h1
   ·rw[List.length_map];omega
   ·have nD:e≠D:=fun z=>by rw[z,h1] at he;cases he
    have he0:H e=none:=s1.free he;refine⟨fun b o z=>?_,as++[e],?_,?_,?_,fun a ha=>?_⟩
    ·rw[af (a9 z hD),af (a9 z he0)];exact s1 _ _ z
    ·rw[a7,List.map_append];rfl
    ·rw[List.length_append,List.length_singleton,l1]
    ·refine List.nodup_append.mpr ⟨nd,by simp,fun a ha b hb=>?_⟩
     rw[List.mem_singleton.mp hb];intro z;have:=(al a ha).2.2;rw[z,he] at this;cases this
    ·rcases List.mem_append.mp ha with z | z
     ·obtain⟨a1,a2,a3⟩:=al a z;refine⟨a1,a2,?_⟩;rw[af a2,af (a9 a3 he)];exact a3
     ·rw[List.mem_singleton.mp z];refine⟨he0,nD,?_⟩;rw[af nD];exact a7
  ·rintro H1 ⟨s1,as,h1,l1,nd,al⟩;have rm1:=rm.keep s1;have ni:∀b o,H b=some o->b ∉ as:=fun b o e z=>by
    have:=(al b z).1;rw[e] at this;cases this
   have n0:∀b o,H0 b=some o->b ∉ as:=fun b o e=>ni b o (rm.same _ _ e)
   have nDas:D ∉ as:=fun z=>(al D z).2.1 rfl
   obtain⟨⟨dx,hr0⟩,_,_,ht0,_,⟨kp,hp0,_⟩,⟨ks,hs0,_⟩,hq0,_⟩:=id rm;have ir:=ni _ _ hr0;have it:=ni _ _ ht0;have ip:=ni _ _ hp0;have is:=ni _ _ hs0;have iq:=ni _ _ hq0;refine⟨_,rfl,r,dx,_,rfl,s1 _ _ hr0,lj _ _ _ _ _ (by decide +kernel),_,rfl,ln,_,_,_,rfl,rfl,SqT.of (rm1.same _ _ hln),rfl,?_⟩
   refine⟨r,dx,tr,pn,st,pp, "C",kvs,.ref b0,rfl,s1 _ _ hr0,s1 _ _ ht0,Nat.le_trans rm.few (by decide),vb,fun H2 q o2 nq hq t2=>?_⟩
   have rm2:=rm1.put o2 t2 (by rw[wD vb];exact rm.few)
   have v2:cw (dt kvs (Sum.inr "C") (.ref q)) (Sum.inr "C")=some (.ref q):=by rw[gP,if_pos rfl]
   generalize dt kvs (Sum.inr "C") (.ref q)=kv2 at rm2 v2 t2;have nlt:∀(H':Hp) (b:Addr) (xs:List V),Rm u H0 H' r tr pn st pp pa sa kv2->H' b=some (.lst xs)->b≠tr:=fun H' b xs z e=>cX e z.trs (by intro z;cases z)
   have ltr:∀(b:Addr) (xs:List V),H1 b=some (.lst xs)->b≠tr:=fun b xs e=>cX e (s1 _ _ ht0) (by intro z;cases z)
   have h2D:=o2 _ _ (ltr D _ h1) h1;have al2:∀a∈as,H2 a=some (.lst []):=fun a ha=>o2 _ _ (ltr a _ (al a ha).2.2) (al a ha).2.2
   have nqa:q ∉ as:=fun z=>by
    have:=(al q z).2.2;rw[nq] at this;cases this
   have hb2:=o2 _ _ (ltr b0 _ (s1 _ _ hb0)) (s1 _ _ hb0);have nb0:b0 ∉ as:=ni _ _ hb0;clear o2 rm1 s1;refine⟨b0,rfl,⟨_,SqL.of hb2⟩,d4 (K:=K) (a:=b0) (xs:=cv) (fun i σ H'=>∃z5 z6,σ=[some (.ref r),some (.ref ln),some (vN c),some (vN l),some (.ref D),z5,z6,none]/\(∀b o,b ∉ as->H2 b=some o->H' b=some o)/\∀j,j<13->∃aj,as[j]?=some aj/\H' aj=some (.lst (pkt c l (cv.zip x) i j))) ?_ (by rintro i σ H' _ ⟨_,_,_,f,_⟩;exact SqL.of (f _ _ nb0 hb2)) ?_ ?_⟩
   ·refine⟨none,none,rfl,fun b o _ e=>e,fun j hj=>?_⟩
    have ha:as[j]?=some as[j]:=List.getElem?_eq_getElem (by omega)
    exact⟨as[j],ha,al2 _ (List.getElem_mem _)⟩
   ·rintro i v σ H3 hi ⟨z5,z6,rfl,f3,p3⟩;have hil:i<x.length:=by rw[<-lcv];exact(List.getElem?_eq_some_iff.mp hi).1
    have hx:x[i]?=some x[i]:=List.getElem?_eq_getElem hil;have ck:=cok _ (List.getElem_mem hil);obtain⟨ca,rfl,hca⟩:=cj pr hi hx;generalize x[i]=y at hx ck hca;have hz:(cv.zip x)[i]?=some (V.ref ca,y):=List.getElem?_zip_eq_some.mpr ⟨hi,hx⟩;have hca3:H3 ca=some (.lst (y.map vN)):=f3 _ _ (n0 _ _ hca) (rm2.same _ _ hca);have hD3:=f3 _ _ nDas h2D;have yc:(y.map vN)[c]?=some (vN (y.getD c 0)):=by
     rw[List.getElem?_map,List.getD_eq_getElem?_getD,List.getElem?_eq_getElem (by rw[ck.1];exact c80)]
     rfl
    have y4:y.getD c 0 &&& l<4096:=by
     refine Nat.lt_of_le_of_lt Nat.and_le_left ?_;rw[List.getD_eq_getElem?_getD,List.getElem?_eq_getElem (by rw[ck.1];exact c80)]
     exact ck.2 _ (List.getElem_mem _)
    have tl:Pu.topOf (y.getD c 0 &&& l)<13:=by
     unfold Pu.topOf Pu.ROWS;cases z:(List.range 12).reverse.find? fun i=>(y.getD c 0 &&& l).testBit i with
     |none=>exact(by decide:0<13)
     |some r=>
      have:=List.mem_of_find?_eq_some z;rw[List.mem_reverse,List.mem_range] at this;show r+1<13;omega
    obtain⟨aj,haj,ej⟩:=p3 _ tl;have lz:(cv.zip x).length<=1000:=by rw[List.length_zip];omega
    refine⟨_,rfl,_,rfl,_,rfl,ca,_,_,_,rfl,rfl,SqL.of hca3,da yc,_,rfl,_,_,rfl,rfl,y.getD c 0 &&& l,rfl,y4,D,_,_,_,rfl,rfl,SqL.of hD3,da (v:=V.ref aj) (by rw[List.getElem?_map,haj];rfl),.inl ⟨rfl,_,SqL.of ej⟩,_,rfl,aj,_,_,rfl,rfl,ej,?_,?_⟩
    ·have:=@xI c l i (Pu.topOf (y.getD c 0 &&& l)) (cv.zip x);omega
    ·have maj:aj∈as:=List.mem_of_getElem? haj;refine⟨_,_,rfl,fun b o n e=>?_,fun j hj=>?_⟩
     ·rw[af (fun z=>n (by rw[z];exact maj))]
      exact f3 _ _ n e
     ·obtain⟨ak,hak,ek⟩:=p3 j hj;refine⟨ak,hak,?_⟩;rw[As hz];by_cases e:j=Pu.topOf (y.getD c 0 &&& l)
      ·rw[if_pos (show inP c l j y=true from by unfold inP;rw[e];exact beq_self_eq_true _)]
       rw[e,haj] at hak;cases hak;rw[a7,e]
      ·rw[if_neg (show ¬inP c l j y=true from by unfold inP;intro z;exact e (eq_of_beq z).symm)]
       have ne:ak≠aj:=fun z=>e ((List.getElem?_inj (by omega) nd).mp (by rw[hak,haj,z]))
       rw[af ne];exact ek
   ·rintro σ H3 ⟨z5,z6,rfl,f3,p3⟩;rw[lcv] at p3;have rm3:=Rm.off as f3 rm2 n0 ir it ip is iq;have hD3:=f3 _ _ nDas h2D;have hq3:=f3 _ _ nqa hq;have pl:∀j,(pkt c l (cv.zip x) x.length j).length<=1000:=fun j=>by
     refine Nat.le_trans xI ?_;rw[List.length_zip];omega
    have fin:∀j,Paired (CdR H0) (pkt c l (cv.zip x) x.length j) (x.filter (inP c l j)):=fun j=>by
     unfold pkt;rw[List.take_of_length_le (by rw[List.length_zip];omega)]
     exact nH (inP c l j) pr
    generalize pkt c l (cv.zip x) x.length=pk at p3 pl fin;refine⟨_,rfl,D,rfl,⟨_,SqL.of hD3⟩,d4 (K:=K) (a:=D) (xs:=as.map V.ref) (fun j σ H'=>∃z6 kv b,σ=[some (.ref r),some (.ref ln),some (vN c),some (vN l),some (.ref D),z5,z6,none]/\Rm u H0 H' r tr pn st pp pa sa kv/\cw kv (Sum.inr "C")=some (.ref b)/\H' b=some (.lst ((List.range j).flatMap pk))/\H' D=some (.lst (as.map V.ref))/\∀j,j<13->∃aj,as[j]?=some aj/\H' aj=some (.lst (pk j))) ?_ (by rintro i σ H' _ ⟨_,_,_,_,_,_,_,z,_⟩;exact SqL.of z) ?_ ?_⟩
    ·exact⟨z6,kv2,q,rfl,rm3,v2,hq3,hD3,p3⟩
    ·rintro j v σ H4 hj ⟨z7,kv,b,rfl,rm4,vb4,hb4,hD4,p4⟩;obtain⟨aj,haj,rfl⟩:=d9 hj;have jl:j<13:=by rw[<-l1];exact(List.getElem?_eq_some_iff.mp haj).1
     obtain⟨ak,hak,ek⟩:=p4 j jl;rw[haj] at hak;cases hak;obtain⟨⟨dx4,h14⟩,sm4,_,t4,few4,_⟩:=id rm4;have xl:=zx pl (List.range j);rw[List.length_range] at xl;have xl2:j * 1000<=13000:=by omega
     have zl:=pl j;refine⟨_,rfl,r,dx4,_,rfl,h14,lj _ _ _ _ _ (by decide +kernel),_,rfl,ln,_,_,_,rfl,rfl,SqT.of (sm4 _ _ hln),rfl,_,rfl,?_⟩
     refine⟨r,dx4,tr,pn,st,pp,aj, "C",kv,_,_,rfl,h14,t4,by omega,ek,by omega,.inl ⟨b,vb4,hb4⟩,fun H5 q5 o5 nq5 hq5 t5=>?_⟩
     have rm5:=rm4.put o5 t5 (by rw[wD vb4];exact few4)
     have lt4:∀(b:Addr) (xs:List V),H4 b=some (.lst xs)->b≠tr:=fun b xs e=>cX e t4 (by intro z;cases z)
     refine⟨_,_,q5,rfl,rm5,by rw[gP,if_pos rfl],?_,o5 _ _ (lt4 _ _ hD4) hD4,fun m hm=>?_⟩
     ·rw[hq5,List.range_succ,List.flatMap_append];simp
     ·obtain⟨am,h1m,h2m⟩:=p4 m hm;exact⟨am,h1m,o5 _ _ (lt4 _ _ h2m) h2m⟩
    ·rintro σ H4 ⟨z7,kv,b,rfl,rm4,vb4,hb4,hD4,p4⟩;rw[List.length_map,l1] at hb4;refine k H4 kv rm4 ⟨b,_,vb4,hb4,?_⟩;rw[yj];exact qg fin (List.range 13)
def Ef(H:Hp)(b:Addr)(l:List Int):Prop:=l.length=132/\H b=some (.lst (l.map V.int))
def qD(u:cF)(H0 H:Hp)(r:Addr)(L:List (List Int)):Prop:=∃dx tr pn st pp bs,H r=some (.ins u.cO dx (rmF tr pn st pp))/\H pp=some (.lst (bs.map V.ref))/\Paired (Ef H) bs L/\aq H0 H
theorem qD.keep{H0 H H':Hp}{r:Addr}{L:List (List Int)}(sm:aq H H')(h:qD u H0 H r L):qD u H0 H' r L:=by
 obtain⟨dx,tr,pn,st,pp,bs,h1,h2,h3,h4⟩:=h;exact⟨dx,tr,pn,st,pp,bs,sm _ _ h1,sm _ _ h2,Paired.mapP h3 fun b l z=>⟨z.1,sm _ _ z.2⟩,h4.trans sm⟩
theorem Rm.pp{H0 H:Hp}{r tr pn st pp pa sa:Addr}{kvs:List (Key×V)}(h:Rm u H0 H r tr pn st pp pa sa kvs):qD u H0 H r []:=by
 obtain⟨⟨dx,h1⟩,h2,_,_,_,_,_,h10,_⟩:=h;exact⟨dx,tr,pn,st,pp,[],h1,h10,.nil,h2⟩
def BB(u:cF):Sp:=fun vs H Q _=>∃(H0:Hp) (r tr pn st pp pa sa ln:Addr) (kvs:List (Key×V)) (x:Pu.Deck) (hd:List Nat) (cs th:List (List Nat)) (s:Int) (lg:List Int),vs=[.ref r,.ref ln]/\Rm u H0 H r tr pn st pp pa sa kvs/\H0 ln=some (.tup [.str "account",.str "C",.int 0,.int 1,.str ">",.str "D"])/\TrC H0 H kvs x/\(∀y∈x,lM y)/\x.length<=1000/\Su u H0 sa hd cs th s lg/\
 (JM.bR lg s cs th hd x=none->∀H',qD u H0 H' r []->Q (.int 7) H')/\(∀L,JM.bR lg s cs th hd x=some L->256<L.length->∀H',qD u H0 H' r []->Q (.int 9) H')/\∀L,JM.bR lg s cs th hd x=some L->¬256<L.length->∀H',qD u H0 H' r L->Q (.int 0) H'
theorem F7:au ["room", "line", "lines"] ["room", "line"] (ae BV):=⟨rfl,rfl,rfl,by decide +kernel,rfl,by decide +kernel,by decide +kernel⟩
theorem Hn(F:Fun K "do_account" "do_account" BV f fd)(T1:Txt K w mg t)(T:Tx2 K w mg u)(cLook:iB P w K mg base u.cO "look_into" 1 ["self", "tray"] (rQ u))(cAcc:Cal P w K mg base "account_cards" 6 ["setup", "cards"] (Fd u)):aT P w K mg base CX0 7 f fd ["room", "line"] (BB u):=by
 refine F.ok F7 (fun vs H Q E h=>?_) (fun cdv A outer s H vs Q E hr h=>?_)
 ·obtain⟨H0,r,tr,pn,st,pp,pa,sa,ln,kvs,x,hd,cs,th,sg,lg,rfl,_⟩:=h;rfl
 ·obtain⟨H0,r,tr,pn,st,pp,pa,sa,ln,kvs,x,hd,cs,th,sg,lg,rfl,rm,hln,⟨b,cv,vb,hb,pr⟩,cok,lx,su,k7,k9,k0⟩:=h;have hu:=eU hr;have big:(100000:Nat)<sizeLine:=by decide
  obtain⟨fL,fdL,FL,mL,bL⟩:=cLook;obtain⟨⟨dx,h1⟩,sm,_,ht,_,_,⟨ks,hs,vs0⟩,hpp,_⟩:=id rm;refine⟨_,a4 (ax (i:=2) F7.nd rfl (Or.inl rfl) (az cAcc hr (by decide) rfl (a0 (bx hu (aI (pv 0) rfl) (bp cu (pv 1) ah (fun _ _=>rfl)) (fun _ _=>rfl)) (a0 (cJ (pv 0) T.clO mL FL (hr.mono (by decide)) bL .nil dP (a0 (bp cu (pv 1) ah (fun _ _=>rfl)) a5)) a5))))
   (a4 (aP (aB iV (pv 2) cG (aJ _)) (a8 (ai (bH T.kW7 rfl))) aD)
   (a4 (aP (aB iU (aQ c8 (b6 aU rfl T1.zLen PySem.boot_len (a0 (aI (pv 0) rfl) a5)) (b6 aU rfl T1.zLen PySem.boot_len (a0 (pv 2) a5))) (bH T.kPaper rfl) (aJ _)) (a8 (ai (bH T.kW9 rfl))) aD)
   (a4 (aX (d5 PySem.F.plainAttrs_list PySem.F.slot_list_extend PySem.F.type_list_extend dI (aI (pv 0) rfl) (a0 (pv 2) a5)))
   (a8 (ai (bH T.kFine rfl)))))),?_⟩
  have get0:ie H st (.int 0) (some (.ref sa)):=by
   have:=ie.k (k:=Sum.inl 0) hs;rw[vs0] at this;exact this
  have hl0:=sm _ _ hln;refine⟨_,rfl,r,u.cO,dx,_,_,rfl,h1,T.clO,T.nOs,(ka _ _ _ _).2.2.1,_,rfl,ln,_,_,_,rfl,rfl,SqT.of hl0,rfl,st,_,rfl,get0,?_⟩;refine⟨_,rfl,r,dx,_,rfl,h1,lj _ _ _ _ _ (by decide +kernel),_,rfl,ln,_,_,_,rfl,rfl,SqT.of hl0,rfl,?_⟩
  refine⟨r,dx,tr,pn,st,pp, "C",kvs,rfl,h1,ht,fun v e H1 s1=>?_,fun e=>by rw[vb] at e;cases e⟩
  rw[vb] at e;cases e;have sm1:=sm.trans s1;refine⟨sa,b,cv,x,hd,cs,th,sg,lg,rfl,su.same sm1,s1 _ _ hb,Paired.mapP pr fun v y z=>z.same sm1,cok,lx,fun e H2 s2=>?_,fun L e H2 q bs s2 nq hq prb ll=>?_⟩
  ·exact⟨_,rfl,rfl,true,rfl,bh (k7 e H2 ((rm.keep s1).keep s2).pp)⟩
  ·have rm2:=(rm.keep s1).keep s2;have h12:=s2 _ _ (s1 _ _ h1);have hp2:=s2 _ _ (s1 _ _ hpp);have lb:=b5 prb;refine⟨_,rfl,rfl,false,rfl,aZ ?_⟩;refine⟨_,rfl,r,u.cO,dx,_,_,rfl,h12,T.clO,T.nOr,(ka _ _ _ _).2.2.2,pp,_,rfl,.inl (SqL.of hp2),_,rfl,q,_,rfl,.inl (SqL.of hq),_,_,rfl,rfl,_,_,rfl,rfl,?_⟩;by_cases g:256<L.length
   ·refine⟨true,congrArg V.bl (decide_eq_true ?_),bh (k9 L e g H2 rm2.pp)⟩;rw[List.length_nil,List.length_map];omega
   ·refine⟨false,congrArg V.bl (decide_eq_false ?_),aZ ?_⟩
    ·rw[List.length_nil,List.length_map];omega
    ·refine⟨_,rfl,r,u.cO,dx,_,_,rfl,h12,T.clO,T.nOr,(ka _ _ _ _).2.2.2,.inl ⟨rfl,_,SqL.of hp2⟩,_,rfl,pp,q,_,_,rfl,rfl,hp2,hq,?_,?_⟩
     ·rw[List.length_nil,List.length_map];omega
     ·refine k0 L e g _ ⟨dx,tr,pn,st,pp,bs,?_,?_,?_,fun c o z=>?_⟩
      ·rw[af (cX h12 hp2 (by intro z;cases z))]
       exact h12
      ·rw[a7];rfl
      ·obtain⟨bs0,e0⟩:∃bs0,bs0=bs:=⟨_,rfl⟩;have go:∀{bs:List Addr} {L:List (List Int)},Paired (fun b l=>H2 b=some (.lst (l.map V.int))) bs L->(∀l∈L,l.length=132)->Paired (Ef (upd H2 pp (.lst ([]++bs0.map V.ref)))) bs L:=by
        intro bs L z
        induction z with
        |nil=>exact fun _=>.nil
        |@cons b' l' bs' L' r _ ih=>
         intro hl;have l132:=hl l' (by simp)
         refine .cons ⟨l132,?_⟩ (ih fun l h=>hl l (by simp[h]))
         rw[af (cX r hp2 (by
          intro z;have:=congrArg List.length (HO.lst.inj z);rw[List.length_map,l132] at this;cases this))]
         exact r
       have:=go prb ll;rw[e0] at this;exact this
      ·rw[af (a9 z rm2.npp)];exact rm2.same _ _ z
def EK(u:cF):Sp:=fun vs H Q E=>Ai u vs H Q E\/A6 u vs H Q E\/BB u vs H Q E
theorem Ie:au ["room", "line"] ["room", "line"] (ae Df):=⟨rfl,rfl,rfl,by decide +kernel,rfl,by decide +kernel,by decide +kernel⟩
theorem GP(F:Fun K "do_line" "do_line" Df f fd)(cC:Cal P w K mg base "do_choose" 6 ["room", "line"] (Ai u))(cP:Cal P w K mg base "do_pass" 6 ["room", "line"] (A6 u))(cA:Cal P w K mg base "do_account" 7 ["room", "line"] (BB u)):aT P w K mg base CX0 8 f fd ["room", "line"] (EK u):=by
 refine F.ok Ie (fun vs H Q E h=>?_) (fun cdv A outer s H vs Q E hr h=>?_)
 ·rcases h with h | h | h
  ·obtain⟨H0,r,tr,pn,st,pp,pa,sa,ln,d,cv,x,wr,rfl,_⟩:=h;rfl
  ·obtain⟨H0,r,tr,pn,st,pp,pa,sa,ln,c,l,kvs,x,rfl,_⟩:=h;rfl
  ·obtain⟨H0,r,tr,pn,st,pp,pa,sa,ln,kvs,x,hd,cs,th,sg,lg,rfl,_⟩:=h;rfl
 ·refine⟨_,a4 (aP (aB bY (bp cu (pv 1) ah (fun _ _=>rfl)) aA (aJ _)) (a8 (ai (az cC hr (by decide) rfl (a0 (pv 0) (a0 (pv 1) a5))))) aD)
   (a4 (aP (aB bY (bp cu (pv 1) ah (fun _ _=>rfl)) aA (aJ _)) (a8 (ai (az cP hr (by decide) rfl (a0 (pv 0) (a0 (pv 1) a5))))) aD)
   (a8 (ai (az cA hr (by decide) rfl (a0 (pv 0) (a0 (pv 1) a5)))))),?_⟩
  rcases h with h | h | h
  ·obtain⟨H0,r,tr,pn,st,pp,pa,sa,ln,d,cv,x,wr,rfl,rm,hln,q⟩:=h;refine⟨_,rfl,ln,_,_,_,rfl,rfl,SqT.of (rm.same _ _ hln),rfl,rfl,true,by decide +kernel,bh ⟨_,rfl,_,rfl,?_⟩⟩
   exact⟨H0,r,tr,pn,st,pp,pa,sa,ln,d,cv,x,wr,rfl,rm,hln,q⟩
  ·obtain⟨H0,r,tr,pn,st,pp,pa,sa,ln,c,l,kvs,x,rfl,rm,hln,q⟩:=h;refine⟨_,rfl,ln,_,_,_,rfl,rfl,SqT.of (rm.same _ _ hln),rfl,rfl,false,by decide +kernel,aZ ⟨_,rfl,ln,_,_,_,rfl,rfl,SqT.of (rm.same _ _ hln),rfl,rfl,true,by decide +kernel,bh ⟨_,rfl,_,rfl,?_⟩⟩⟩
   exact⟨H0,r,tr,pn,st,pp,pa,sa,ln,c,l,kvs,x,rfl,rm,hln,q⟩
  ·obtain⟨H0,r,tr,pn,st,pp,pa,sa,ln,kvs,x,hd,cs,th,sg,lg,rfl,rm,hln,q⟩:=h;refine⟨_,rfl,ln,_,_,_,rfl,rfl,SqT.of (rm.same _ _ hln),rfl,rfl,false,by decide +kernel,aZ ⟨_,rfl,ln,_,_,_,rfl,rfl,SqT.of (rm.same _ _ hln),rfl,rfl,false,by decide +kernel,aZ ⟨_,rfl,_,rfl,?_⟩⟩⟩
   exact⟨H0,r,tr,pn,st,pp,pa,sa,ln,kvs,x,hd,cs,th,sg,lg,rfl,rm,hln,q⟩
end
theorem lq(p:Nat×Nat):∀(l:List (Nat×Nat)) (x:Pu.Deck),JM.bJ (l++[p]) x=Pu.passed p.1 p.2 Pu.jobStack (JM.bJ l x)
 |[],_=>rfl
 |q::l,x=>lq p l (Pu.passed q.1 q.2 Pu.jobStack x)
theorem nO:∀(l:List (Nat×Nat)) {x:Pu.Deck}{y:Pu.Card},y∈JM.bJ l x->y∈x
 |[],_,_,h=>h
 |p::l,x,y,h=>by
  have:=nO l (x:=Pu.passed p.1 p.2 Pu.jobStack x) h;unfold Pu.passed Pu.pocket at this;obtain⟨_,_,z⟩:=List.mem_flatMap.mp this;exact(List.mem_filter.mp z).1
noncomputable def lN(n:Nat):Option (List (List Int))->Nat×Nat×List (List Int)
 |none=>(n+1,7,[])
 |some L=>if 256<L.length then(n+1,9,[]) else(n+2,0,L)
def zC:List JM.Wd:=[JM.wx "choose",JM.wx "A",.n 0,JM.wx ">",JM.wx "B",JM.wx "C"]
def yE:List JM.Wd:=[JM.wx "account",JM.wx "C",.n 0,.n 1,JM.wx ">",JM.wx "D"]
theorem D4:zC.map wv=[.str "choose",.str "A",.int 0,.str ">",.str "B",.str "C"]/\yE.map wv=[.str "account",.str "C",.int 0,.int 1,.str ">",.str "D"]/\∀c l,(JM.i8 c l).map wv=[.str "pass",.str "C",vN c,vN l,.str ">",.str "C"]:=by
 obtain⟨v1,v2,v3,v4,v5,v6,v7,v8⟩:=vG;refine⟨?_,?_,fun c l=>?_⟩
 ·show[wv (JM.wx "choose"),wv (JM.wx "A"),_,wv (JM.wx ">"),wv (JM.wx "B"),wv (JM.wx "C")]=_;rw[v4,v5,v3,v6,v2];rfl
 ·show[wv (JM.wx "account"),wv (JM.wx "C"),_,_,wv (JM.wx ">"),wv (JM.wx "D")]=_;rw[v7,v2,v3,v8];rfl
 ·show[wv (JM.wx "pass"),wv (JM.wx "C"),_,_,wv (JM.wx ">"),wv (JM.wx "C")]=_;rw[v1,v2,v3];rfl
section
variable{P:Program}{w:World}{K:PySem.W.Frag}{mg:Str->Option Value}{base:Heap}{t:Adr}{u:cF}{f:Addr}{fd:FuncData}
def EZ(u:cF):Sp:=fun vs H Q _=>∃(H0:Hp) (r tr pn st pp pa sa jb d:Addr) (cv:List V) (x:Pu.Deck) (wr:List JM.Wr) (pl:List (Nat×Nat)) (hd:List Nat) (cs th:List (List Nat)) (s:Int) (lg:List Int),vs=[.ref r,.ref jb]/\Rm u H0 H r tr pn st pp pa sa [((Sum.inr "A" : Key),.ref d)]/\H0 d=some (.lst cv)/\Paired (CdR H0) cv x/\(∀y∈x,lM y)/\x.length<=1000/\
 bg H0 pa WrV wr/\(∀s∈wr,WrP s)/\wr.length<=150/\Su u H0 sa hd cs th s lg/\bg H0 jb jX (zC::(pl.map (fun p=>JM.i8 p.1 p.2)++[yE]))/\(∀p∈pl,p.1<80)/\
 ∀H' q,H' q=some (.lst [vN (lN pl.length (JM.bR lg s cs th hd (JM.bJ pl (x.filter (gJ wr))))).1,vN (lN pl.length (JM.bR lg s cs th hd (JM.bJ pl (x.filter (gJ wr))))).2.1])->qD u H0 H' r (lN pl.length (JM.bR lg s cs th hd (JM.bJ pl (x.filter (gJ wr))))).2.2->Q (.ref q) H'
theorem wX:au ["room", "job", "done", "line", "wrong"] ["room", "job"] (ae DJ):=⟨rfl,rfl,rfl,by decide +kernel,rfl,by decide +kernel,by decide +kernel⟩
theorem Fl(F:Fun K "run_job" "run_job" DJ f fd)(T1:Txt K w mg t)(T:Tx2 K w mg u)(cL:Cal P w K mg base "do_line" 8 ["room", "line"] (EK u)):aT P w K mg base CX0 9 f fd ["room", "job"] (EZ u):=by
 refine F.ok wX (fun vs H Q E h=>?_) (fun cdv A outer s H vs Q E hr h=>?_)
 ·obtain⟨H0,r,tr,pn,st,pp,pa,sa,jb,d,cv,x,wr,pl,hd,cs,th,sg,lg,rfl,_⟩:=h;rfl
 ·obtain⟨H0,r,tr,pn,st,pp,pa,sa,jb,d,cv,x,wr,pl,hd,cs,th,sg,lg,rfl,rm,hd0,pr,cok,lx,hw,wok,lw,su,⟨jv,hj,prj⟩,p80,k⟩:=h;have ljv:=b5 prj;have big:(100000:Nat)<sizeLine:=by decide
  obtain⟨rC,rA,rP⟩:=D4;refine⟨_,a4 (bM PassesOwn.never rfl (gY rfl T1.zEnum (a0 (pv 1) a5)) (fM rfl (ba (aH (i:=2) wX.nd rfl (Or.inl rfl)) (ba (aH (i:=3) wX.nd rfl (Or.inl rfl)) eR)))
    (a4 (ax (i:=4) wX.nd rfl (Or.inl rfl) (az cL hr (by decide) rfl (a0 (pv 0) (a0 (pv 3) a5))))
    (a8 (aP (aB ue (pv 4) (bH T.kFine rfl) (aJ _)) (a8 (ai (b9 (a0 (pv 2) (a0 (pv 4) a5))))) aD))))
   (a8 (ai (b9 (a0 (b6 aU rfl T1.zLen PySem.boot_len (a0 (pv 1) a5)) (a0 (bH T.kFine rfl) a5))))),?_⟩
  have jl:(zC::(pl.map (fun p=>JM.i8 p.1 p.2)++[yE])).length=pl.length+2:=by
   rw[List.length_cons,List.length_append,List.length_map,List.length_singleton]
  have sm:=rm.same;have x1l:(x.filter (gJ wr)).length<=1000:=Nat.le_trans (List.length_filter_le _ _) lx;have x1ok:∀y∈x.filter (gJ wr),lM y:=fun y hy=>cok y (List.mem_filter.mp hy).1
  generalize hx1:x.filter (gJ wr)=x1 at k x1l x1ok;refine⟨_,rfl,jb,_,rfl,SqL.of (sm _ _ hj),fJ (K:=K) (a:=jb) (xs:=jv) (fun i σ H'=>∃z2 z3 z4,σ=[some (.ref r),some (.ref jb),z2,z3,z4]/\((i=0/\Rm u H0 H' r tr pn st pp pa sa [((Sum.inr "A" : Key),.ref d)])\/(1<=i/\i<=pl.length+1/\∃kv,Rm u H0 H' r tr pn st pp pa sa kv/\TrC H0 H' kv (JM.bJ (pl.take (i-1)) x1))\/(i=pl.length+2/\∃L,JM.bR lg sg cs th hd (JM.bJ pl x1)=some L/\¬256<L.length/\qD u H0 H' r L))) ?_ ?_ ?_ ?_⟩
  ·exact⟨none,none,none,rfl,.inl ⟨rfl,rm⟩⟩
  ·rintro i σ H' _ ⟨_,_,_,_,z⟩;rcases z with⟨_,z⟩ | ⟨_,_,_,z,_⟩ | ⟨_,_,_,_,_,_,_,_,_,_,_,_,_,z⟩
   ·exact SqL.of (z.same _ _ hj)
   ·exact SqL.of (z.same _ _ hj)
   ·exact SqL.of (z _ _ hj)
  ·rintro i v σ H2 Tp hi ⟨z2,z3,z4,rfl,inv⟩ hTp;have hil:i<pl.length+2:=by rw[<-jl,<-ljv];exact(List.getElem?_eq_some_iff.mp hi).1
   have s3:=ag (o:=.tup [.int (i:Nat),v]) hTp;have hT3:upd H2 Tp (.tup [.int (i:Nat),v]) Tp=some (.tup [.int (i:Nat),v]):=a7;generalize upd H2 Tp (.tup [.int (i:Nat),v])=H3 at s3 hT3;refine⟨Tp,_,rfl,SqT.of hT3,rfl,_,_,rfl,_,_,rfl,rfl,?_⟩;rcases inv with⟨rfl,rm2⟩ | ⟨i1,i2,kv,rm2,tc⟩ | ⟨e,_⟩
   ·obtain⟨la,rfl,hla⟩:=cj prj hi rfl;rw[rC] at hla;refine⟨_,rfl,_,rfl,.inl ⟨H0,r,tr,pn,st,pp,pa,sa,la,d,cv,x,wr,rfl,rm2.keep s3,hla,hd0,pr,cok,lx,hw,wok,lw,fun H4 kv rm4 tc4=>?_⟩⟩
    refine⟨_,rfl,rfl,false,rfl,aZ ⟨_,_,_,rfl,.inr (.inl ⟨Nat.le_refl _,by omega,kv,rm4,?_⟩)⟩⟩
    rw[<-hx1];exact tc4
   ·have tc3:TrC H0 H3 kv (JM.bJ (pl.take (i-1)) x1):=by
     obtain⟨b,cv,t1,t2,t3⟩:=tc;exact⟨b,cv,t1,s3 _ _ t2,t3⟩
    have ok3:∀y∈JM.bJ (pl.take (i-1)) x1,lM y:=fun y hy=>x1ok y (nO _ hy)
    have l3:(JM.bJ (pl.take (i-1)) x1).length<=1000:=by rw[JM.ju];exact x1l
    by_cases e:i=pl.length+1
    ·subst e;have ej:(zC::(pl.map (fun p=>JM.i8 p.1 p.2)++[yE]))[pl.length+1]?=some yE:=by
      rw[List.getElem?_cons_succ,List.getElem?_append_right (by rw[List.length_map];exact Nat.le_refl _),List.length_map,Nat.sub_self]
      rfl
     obtain⟨la,rfl,hla⟩:=cj prj hi ej;rw[rA] at hla;rw[Nat.add_sub_cancel,List.take_length] at tc3 ok3 l3;refine⟨_,rfl,_,rfl,.inr (.inr ⟨H0,r,tr,pn,st,pp,pa,sa,la,kv,_,hd,cs,th,sg,lg,rfl,rm2.keep s3,hla,tc3,ok3,l3,su,fun ea H4 p4=>?_,fun L ea g H4 p4=>?_,fun L ea g H4 p4=>?_⟩)⟩
     ·rw[ea] at k;refine⟨_,rfl,rfl,true,rfl,bh ⟨_,rfl,_,rfl,(by show 2<=sizeLine;decide),fun q hq=>?_⟩⟩
      exact k _ q a7 (p4.keep (ag hq))
     ·rw[ea,show lN pl.length (some L)=(pl.length+1,9,[]) from if_pos g] at k
      refine⟨_,rfl,rfl,true,rfl,bh ⟨_,rfl,_,rfl,(by show 2<=sizeLine;decide),fun q hq=>?_⟩⟩
      exact k _ q a7 (p4.keep (ag hq))
     ·exact⟨_,rfl,rfl,false,rfl,aZ ⟨_,_,_,rfl,.inr (.inr ⟨rfl,L,ea,g,p4⟩)⟩⟩
    ·have il:i-1<pl.length:=by omega
     obtain⟨j,rfl⟩:∃j,i=j+1:=⟨i-1,by omega⟩
     rw[Nat.add_sub_cancel] at tc3 ok3 l3 il;have hp:pl[j]?=some pl[j]:=List.getElem?_eq_getElem il;have ej:(zC::(pl.map (fun p=>JM.i8 p.1 p.2)++[yE]))[j+1]?=some (JM.i8 pl[j].1 pl[j].2):=by
      rw[List.getElem?_cons_succ,List.getElem?_append_left (by rw[List.length_map];exact il),List.getElem?_map,hp]
      rfl
     obtain⟨la,rfl,hla⟩:=cj prj hi ej;rw[rP] at hla;refine⟨_,rfl,_,rfl,.inr (.inl ⟨H0,r,tr,pn,st,pp,pa,sa,la,_,_,kv,_,rfl,rm2.keep s3,hla,p80 _ (List.getElem_mem il),tc3,ok3,l3,fun H4 kv4 rm4 tc4=>?_⟩)⟩
     refine⟨_,rfl,rfl,false,rfl,aZ ⟨_,_,_,rfl,.inr (.inl ⟨by omega,by omega,kv4,rm4,?_⟩)⟩⟩
     rw[Nat.add_sub_cancel,bU hp,lq];exact tc4
   ·omega
  ·rintro σ H2 ⟨z2,z3,z4,rfl,inv⟩;rw[ljv,jl] at inv;rcases inv with⟨e,_⟩ | ⟨_,e,_⟩ | ⟨_,L,ea,g,p2⟩
   ·omega
   ·omega
   ·rw[ea,show lN pl.length (some L)=(pl.length+2,0,L) from if_neg g] at k
    obtain⟨dx,tr',pn',st',pp',bs,q1,q2,q3,q4⟩:=id p2;refine⟨_,rfl,jb,_,rfl,.inl (SqL.of (q4 _ _ hj)),(by show 2<=sizeLine;decide),fun q hq=>?_⟩
    refine k _ q ?_ (p2.keep (ag hq));rw[a7,ljv,jl];rfl
def wM:Sp:=fun vs H Q _=>∃(a:Addr) (bs:List Addr) (rs:List (List Int)),vs=[.ref a]/\H a=some (.lst (bs.map V.ref))/\Paired (Ef H) bs rs/\rs.length<=300/\∀H' p,aq H H'->H' p=some (.lst (rs.flatten.map V.int))->rs.flatten.length<=300 * 132->Q (.ref p) H'
theorem vd:au ["rows", "joined", "row"] ["rows"] (ae xC):=⟨rfl,rfl,rfl,by decide +kernel,rfl,by decide +kernel,by decide +kernel⟩
theorem kO:∀(l:List (List Int)),(∀b∈l,b.length=132)->l.flatten.length=l.length * 132
 |[],_=>by simp
 |x::l,h=>by
  have:=kO l fun y hy=>h y (by simp[hy])
  have h2:=h x (by simp)
  rw[List.flatten_cons,List.length_append,List.length_cons,Nat.succ_mul];omega
theorem Bu(F:Fun K "join_rows" "join_rows" xC f fd):aT P w K mg base CX0 1 f fd ["rows"] wM:=by
 refine F.ok vd (fun vs H Q E h=>?_) (fun cdv A outer s H vs Q E hr h=>?_)
 ·obtain⟨a,bs,l,rfl,_⟩:=h;rfl
 ·obtain⟨a,bs,ls,rfl,ha,pr,ll,k⟩:=h;have lv:=b5 pr;have lb:∀b∈ls,b.length=132:=by
   have go:∀{bs:List Addr} {L:List (List Int)},Paired (Ef H) bs L->∀l∈L,l.length=132:=by
    intro bs L q
    induction q with
    |nil=>intro l hl;cases hl
    |cons r _ ih=>
     intro l hl;rcases List.mem_cons.mp hl with z | z
     ·rw[z];exact r.1
     ·exact ih l z
   exact go pr
  have big:(1000000:Nat)<sizeLine:=by decide
  refine⟨_,a4 (ax (i:=1) vd.nd rfl (Or.inl rfl) (b9 a5))
   (a4 (bM PassesOwn.never rfl (bu (pv 0)) (aH (i:=2) vd.nd rfl (Or.inl rfl))
    (a8 (aX (d5 PySem.F.plainAttrs_list PySem.F.slot_list_extend PySem.F.type_list_extend dI (pv 1) (a0 (pv 2) a5)))))
   (a8 (ai (pv 1)))),?_⟩
  refine⟨Nat.zero_le _,fun D hD=>?_⟩
  have s0:=ag (o:=.lst []) hD;refine⟨_,rfl,a,rfl,⟨_,SqL.of (s0 _ _ ha)⟩,d4 (K:=K) (a:=a) (xs:=bs.map V.ref) (fun i σ H'=>∃(x2:Option V),σ=[some (.ref a),some (.ref D),x2]/\aq H H'/\H' D=some (.lst ((ls.take i).flatten.map V.int)))
   ⟨none,rfl,s0,by rw[List.take_zero];exact a7⟩ (by rintro i σ H' _ ⟨_,_,s,_⟩;exact SqL.of (s _ _ ha)) ?_ ?_⟩
  ·rintro i y σ H2 hi ⟨x2,rfl,s2,hD2⟩;obtain⟨e,he,rfl⟩:=d9 hi;have hil:=(List.getElem?_eq_some_iff.mp he).1;obtain⟨b,hb⟩:∃b,ls[i]?=some b:=⟨_,List.getElem?_eq_getElem (by omega)⟩
   obtain⟨bl,h1⟩:=cj pr he hb;have fl:=kO (ls.take i) fun y hy=>lb y (List.mem_of_mem_take hy)
   have fl2:(ls.take i).length * 132<=300 * 132:=Nat.mul_le_mul_right _ (by rw[List.length_take];omega)
   refine⟨_,rfl,.inl ⟨rfl,_,SqL.of hD2⟩,_,rfl,D,e,_,_,rfl,rfl,hD2,s2 _ _ h1,by rw[List.length_map,List.length_map];omega,?_⟩
   refine⟨_,rfl,fun b o z=>by rw[af (a9 z hD)];exact s2 _ _ z,?_⟩
   rw[a7,bU hb,List.flatten_append,List.map_append];simp
  ·rintro σ H2 ⟨x2,rfl,s2,hD2⟩;rw[List.length_map,lv,List.take_length] at hD2;refine⟨_,rfl,k H2 D s2 hD2 ?_⟩;rw[kO ls lb];exact Nat.mul_le_mul_right _ ll
end
theorem og{k:JM.Pt}(r:JM.iJ k=true)(h:k.1=2\/k.1=3\/k.1=6):JM.n0 k+JM.n1 k<=80/\JM.n2 k+JM.n1 k<=132:=by
 obtain⟨i,vs⟩:=k;dsimp only at h;have go:(decide (vs.getD 0 0+vs.getD 1 0<=80)&&decide (vs.getD 2 0+vs.getD 1 0<=132))=true:=by
  rcases h with rfl | rfl | rfl<;>exact r
 simp only[Bool.and_eq_true,decide_eq_true_eq] at go;exact go
theorem Hm{p:JM.Pt}(ok:JM.eB p)(r:JM.iJ p=true)(h:p.1=4\/p.1=5):JM.atT p+JM.wT p<=132/\2<=JM.wT p/\JM.wT p<=20/\(p.1=4->1<=JM.n1 p/\JM.n0 p+JM.n1 p<=80):=by
 obtain⟨i,vs⟩:=p;dsimp only at h;rcases h with rfl | rfl
 ·have r:((decide (vs.getD 0 0+vs.getD 1 0<=80)&&decide (vs.getD 1 0<=18))&&decide (vs.getD 2 0+vs.getD 3 0<=132))=true:=r;simp only[Bool.and_eq_true,decide_eq_true_eq] at r;obtain⟨c,n,pp,ww,rfl,hv⟩:=ok.2;obtain⟨⟨r1,_⟩,r2⟩:=r;change pp+ww<=132 at r2;change c+n<=80 at r1;show pp+ww<=132/\2<=ww/\ww<=20/\(4=4->1<=n/\c+n<=80);omega
 ·have r:decide (vs.getD 0 0+vs.getD 1 0<=132)=true:=r;have r:=of_decide_eq_true r;obtain⟨pp,ww,rfl,hv⟩:=ok.2;change pp+ww<=132 at r;refine⟨?_,?_,?_,fun z=>absurd (show 5=4 from z) (by decide)⟩
  ·show pp+ww<=132;omega
  ·show 2<=ww;omega
  ·show ww<=20;omega
theorem rj(k:Nat):(JM.bW k).length=k+1:=by
 unfold JM.bW;rw[List.length_append,List.length_map,List.length_range,List.length_singleton]
theorem xK(k:Nat)(ts:List JM.Pt):(JM.bV k ts).length=(k+1) * ts.length:=by
 unfold JM.bV;rw[<-rj k];generalize JM.bW k=L
 induction L with
 |nil=>simp
 |cons a L ih=>rw[List.flatMap_cons,List.length_append,ih,List.length_map,List.length_cons,Nat.succ_mul];omega
theorem IA{u:cF}{H:Hp}{p:Addr}{ps:List JM.Pt}{k:Nat}{s:Int}{lg:List Int}(h:yW u H p ps k s lg)(ok:∀y∈ps,JM.eB y)(rm:∀y∈ps,JM.iJ y=true)(gA:(JM.gr ps).length<=16/\(JM.br ps).length<=3/\(JM.dn ps).length<=8/\(JM.jx ps).length<=16)(h64:lg.length=64) :
  Su u H p (JM.gy (JM.br ps) (JM.fR k) s.toNat) (JM.bV (JM.br ps).length (JM.dn ps)) (JM.dE (JM.br ps) (JM.dn ps) (JM.jx ps)) s lg:=by
 obtain⟨_,lk,lt,ls⟩:=gA;have key:∀y∈JM.br ps,JM.n0 y+JM.n1 y<=80/\JM.n2 y+JM.n1 y<=132:=fun y hy=>by
  obtain⟨m,i⟩:=List.mem_filter.mp hy;have:=JM.cz.2.1.mp i;exact og (rm y m) (by omega)
 have see:∀y∈JM.jx ps,JM.n0 y+JM.n1 y<=80/\JM.n2 y+JM.n1 y<=132:=fun y hy=>by
  obtain⟨m,i⟩:=List.mem_filter.mp hy;exact og (rm y m) (.inr (.inr (JM.cz.2.2.2.mp i)))
 have tot:∀y∈JM.dn ps,(JM.atT y+JM.wT y<=132/\2<=JM.wT y/\JM.wT y<=20/\(y.1=4->1<=JM.n1 y/\JM.n0 y+JM.n1 y<=80))/\(y.1=4\/y.1=5):=fun y hy=>by
  obtain⟨m,i⟩:=List.mem_filter.mp hy;have q:=JM.cz.2.2.1.mp i;exact⟨Hm (ok y m) (rm y m) q,q⟩
 obtain⟨dx,hd,sg,ct,th,h1,h2,h3,h4,h5⟩:=h;refine⟨⟨dx,hd,sg,ct,th,h1,h2,h3,h4,h5⟩,h64,?_,?_,fun q hq=>?_,fun q hq=>?_,?_⟩
 ·rw[xK];exact Nat.le_trans (Nat.mul_le_mul (show _<=4 by omega) lt) (by decide)
 ·unfold JM.dE;rw[List.length_append,List.length_map];have:=kD (fun l:Nat×Nat=>((JM.ft (JM.br ps) l.1).map fun k=>JM.eN k l.1)++JM.di (JM.dn ps) l.1 (l.2 * (JM.dn ps).length)) 11 (JM.bW (JM.br ps).length).zipIdx fun y _=>by
   unfold JM.di JM.ft;rw[List.length_append,List.length_map,List.length_map,List.length_zipIdx];split
   ·rw[List.length_nil];omega
   ·rw[List.length_take];omega
  rw[List.length_zipIdx,rj] at this;omega
 ·unfold JM.bV at hq;obtain⟨l,_,hq⟩:=List.mem_flatMap.mp hq;obtain⟨y,hy,rfl⟩:=List.mem_map.mp hq;unfold JM.dW;obtain⟨⟨_,_,_,z4⟩,y45⟩:=tot y hy;by_cases e:y.1=5
  ·rw[if_pos e];exact⟨l,2,0,0,rfl,.inl rfl⟩
  ·rw[if_neg e];exact⟨l,0,_,_,rfl,.inr ⟨by decide,z4 (by omega)⟩⟩
 ·unfold JM.dE at hq;rcases List.mem_append.mp hq with hq | hq
  ·obtain⟨y,hy,rfl⟩:=List.mem_map.mp hq;exact⟨0,0,_,_,_,0,rfl,.inl ⟨rfl,by decide,see y hy⟩⟩
  ·obtain⟨⟨l,i⟩,hl,hq⟩:=List.mem_flatMap.mp hq;have il:=(List.getElem?_eq_some_iff.mp (List.mem_zipIdx_iff_getElem?.mp hl)).1;dsimp only at il hq;rw[rj] at il;rcases List.mem_append.mp hq with hq | hq
   ·obtain⟨y,hy,rfl⟩:=List.mem_map.mp hq;unfold JM.ft at hy;by_cases l4:l=4
    ·rw[if_pos l4] at hy;cases hy
    ·rw[if_neg l4] at hy;exact⟨l,0,_,_,_,0,rfl,.inl ⟨rfl,l4,key y (List.mem_of_mem_take hy)⟩⟩
   ·unfold JM.di at hq;obtain⟨⟨y,j⟩,hy,rfl⟩:=List.mem_map.mp hq;have hy:=List.mem_zipIdx_iff_getElem?.mp hy;have jl:=(List.getElem?_eq_some_iff.mp hy).1;obtain⟨⟨z1,z2,z3,_⟩,_⟩:=tot y (List.mem_of_getElem? hy);dsimp only at jl;refine⟨l,1,_,0,_,_,rfl,.inr ⟨rfl,?_,z1,z2,z3⟩⟩;rw[xK];have:=Nat.mul_le_mul_right (JM.dn ps).length (show i+1<=(JM.br ps).length+1 by omega)
    rw[Nat.succ_mul i] at this;omega
 ·unfold JM.gy;rw[List.length_append,List.length_append,two_len,List.length_reverse,List.length_replicate];show _+3=9;omega
theorem GZ{ks:List JM.Pt}(h:∀y∈ks,JM.n0 y+JM.n1 y<=80):∀p∈JM.cY ks,p.1<80:=by
 intro p hp;unfold JM.cY at hp;obtain⟨k,hk,hp⟩:=List.mem_flatMap.mp hp;obtain⟨i,hi,hp⟩:=List.mem_flatMap.mp hp;obtain⟨l,_,rfl⟩:=List.mem_map.mp hp;have:=h k (List.mem_reverse.mp hk);have:=List.mem_range.mp (List.mem_reverse.mp hi);show JM.n0 k+i<80;omega
theorem Et(n:Nat)(o:Option (List (List Int))):(lN n o).2.2.length<=256:=by
 unfold lN;cases o with
 |none=>exact Nat.zero_le _
 |some L=>
  dsimp only;split
  ·exact Nat.zero_le _
  ·dsimp only;omega
theorem AS(ps:List JM.Pt)(lg:List Int)(s:Int)(d:Pu.Deck):∃o,o=JM.bR lg s (JM.bV (JM.br ps).length (JM.dn ps)) (JM.dE (JM.br ps) (JM.dn ps) (JM.jx ps)) (JM.gy (JM.br ps) (JM.fR (JM.gK ps)) s.toNat) (JM.bJ (JM.cY (JM.br ps)) (d.filter (gJ (JM.eO (JM.gr ps)))))/\
  JM.uz ps lg s d=[((lN (JM.cY (JM.br ps)).length o).1:Int),((lN (JM.cY (JM.br ps)).length o).2.1:Int)]++(lN (JM.cY (JM.br ps)).length o).2.2.flatten:=by
 refine⟨_,rfl,?_⟩;unfold JM.uz;rw[show gJ (JM.eO (JM.gr ps))=JM.o8 (JM.gr ps) from rfl]
 cases JM.bR lg s (JM.bV (JM.br ps).length (JM.dn ps)) (JM.dE (JM.br ps) (JM.dn ps) (JM.jx ps)) (JM.gy (JM.br ps) (JM.fR (JM.gK ps)) s.toNat) (JM.bJ (JM.cY (JM.br ps)) (d.filter (JM.o8 (JM.gr ps)))) with
 |none=>rfl
 |some L=>
  dsimp only;unfold lN;dsimp only;split
  ·rfl
  ·rfl
section
variable{P:Program}{w:World}{K:PySem.W.Frag}{mg:Str->Option Value}{base:Heap}{t:Adr}{u:cF}{f:Addr}{fd:FuncData}
theorem AQ(a b:V):([("parts",a),("refusal",b)]:List (Str×V)).lookup ("refusal" : Str)=some b/\([("parts",a),("refusal",b)]:List (Str×V)).lookup ("parts" : Str)=some a:=by
 have h:(("refusal" : Str)==("parts" : Str))=false:=by decide +kernel
 simp[List.lookup,h]
theorem Fo(b:Bs):(JM.bj b).length<=64:=by
 have:=JM.gD ((Pu.pieces b).take 64);rw[List.length_take] at this;show(JM.aw _).length<=64;omega
def BJ(K:PySem.W.Frag):Sp:=fun vs H Q _=>∃(x:Int) (a b c:Addr) (ns lg ds:List Int),vs=[.int x,.ref a,.ref b,.ref c]/\SqL K H a (ns.map V.int)/\ns.length<=65536/\(∀n∈ns,0<=n/\n<=255)/\SqL K H b (lg.map V.int)/\(∀n∈lg,0<=n/\n<=255)/\SqL K H c (ds.map V.int)/\ds.length<=1000/\
 ∀(H':Hp) (p:Addr),H' p=some (.lst ((PyWrpung.planned x ns lg ds).map V.int))->Q (.ref p) H'
theorem qc:au ["strange", "text", "legend", "deck", "report", "signs", "cards", "made", "room"] ["strange", "text", "legend", "deck"] (ae Dy):=⟨rfl,rfl,rfl,by decide +kernel,rfl,by decide +kernel,by decide +kernel⟩
theorem Gg(F:Fun K "planned" "planned" Dy f fd)(T:Txt K w mg t)(T2:Tx2 K w mg u)(T3:Tx3 mg)(cReport:Cal P w K mg base "read_report" 8 ["text"] (uH K t))(cSigns:Cal P w K mg base "read_signs" 6 ["strange", "legend"] (xN K u))(cRdD:Cal P w K mg base "read_deck" 2 ["told"] (F3 K))(cMake:Cal P w K mg base "make_plan" 4 ["parts", "signs"] (zU t u))
  (cRmOf:Cal P w K mg base "room_of" 3 ["plan", "cards"] (zA u)) (cRun:Cal P w K mg base "run_job" 9 ["room", "job"] (EZ u)) (cJoin:Cal P w K mg base "join_rows" 1 ["rows"] wM):aT P w K mg base CX0 10 f fd ["strange", "text", "legend", "deck"] (BJ K):=by
 refine F.ok qc (fun vs H Q E h=>?_) (fun cdv A outer s H vs Q E hr h=>?_)
 ·obtain⟨x,a,b,c,ns,lg,ds,rfl,_⟩:=h;rfl
 ·obtain⟨x,a,b,c,ns,lg,ds,rfl,hS,hl,hn,hL,hlg,hC,hd,k⟩:=h;rw[<-p8 ns hn] at hS;have jd:=JM.vp _ ns lg ds x rfl hlg hd;have len:(ReportsNeutral.text ns).length=ns.length:=by unfold ReportsNeutral.text;rw[List.length_map]
  generalize ReportsNeutral.text ns=bb at hS jd len;rw[jd] at k;unfold JM.nG at k;have big:(1000000:Nat)<sizeLine:=by decide
  refine⟨_,a4 (ax (i:=4) qc.nd rfl (Or.inl rfl) (az cReport hr (by decide) rfl (a0 (pv 1) a5)))
   (a4 (aP (dY (aI (pv 4) rfl) (fun _=>rfl)) (a8 (ai (aI (pv 4) rfl))) aD)
   (a4 (ax (i:=5) qc.nd rfl (Or.inl rfl) (az cSigns hr (by decide) rfl (a0 (pv 0) (a0 (pv 2) a5))))
   (a4 (aP (aB iV (pv 5) cG (aJ _)) (a8 (ai (b9 (a0 (bH T2.kNoS rfl) a5)))) aD)
   (a4 (ax (i:=6) qc.nd rfl (Or.inl rfl) (az cRdD hr (by decide) rfl (a0 (pv 3) a5)))
   (a4 (aP (aB iV (pv 6) cG (aJ _)) (a8 (ai (b9 (a0 (bH T3.kNoD rfl) a5)))) aD)
   (a4 (ax (i:=7) qc.nd rfl (Or.inl rfl) (az cMake hr (by decide) rfl (a0 (aI (pv 4) rfl) (a0 (pv 5) a5))))
   (a4 (ax (i:=8) qc.nd rfl (Or.inl rfl) (az cRmOf hr (by decide) rfl (a0 (pv 7) (a0 (pv 6) a5))))
   (a8 (ai (aQ mX (az cRun hr (by decide) rfl (a0 (pv 8) (a0 (aI (pv 7) rfl) a5))) (az cJoin hr (by decide) rfl (a0 (aI (pv 8) rfl) a5)))))))))))),?_⟩
  refine⟨_,rfl,a,bb,rfl,hS,by omega,fun H1 p s1 ⟨dx,pp,r,h1,h2,h3⟩=>?_⟩
  refine⟨_,rfl,p,t.cT,dx,_,_,rfl,h1,T.clT,T.nTr,(AQ _ _).1,_,.inl ⟨_,SqL.of h2,rfl⟩,?_⟩;by_cases rf:JM.g0 bb=[]
  ·rw[if_pos rf] at k;rw[rf];obtain⟨ini,y,hp,y7,y10,hi⟩:=JM.xc rf;have gA:=JM.gA rf;have ok:=JM.nj bb;have rmR:=JM.Bf rf;have l64:=Fo bb;have eP:=h3 rf;have lk:JM.gK (JM.bj bb)=y.1:=by
    unfold JM.gK;rw[hp,List.getLast?_concat];rfl
   refine aZ ⟨_,rfl,_,rfl,b,x,lg,rfl,s1.seq hL,hlg,fun no H2 s2=>?_,fun yes H2 q s2 sg=>?_⟩
   ·have no:¬(JM.kW lg=true/\0<=x/\x<=255):=fun z=>by
     unfold jJ at no;rw[z.1,decide_eq_true z.2.1,decide_eq_true z.2.2] at no;cases no
    rw[if_neg no] at k;exact⟨_,rfl,rfl,_,rfl,bh ⟨(by show 1<=sizeLine;decide),fun D hD=>k _ D a7⟩⟩
   ·have yes:JM.kW lg=true/\0<=x/\x<=255:=by
     unfold jJ at yes;rw[Bool.and_eq_true,Bool.and_eq_true,decide_eq_true_eq,decide_eq_true_eq] at yes;exact yes
    have h64:lg.length=64:=by
     have:=yes.1;unfold JM.kW at this;rw[Bool.and_eq_true,decide_eq_true_eq] at this;exact this.1
    rw[if_pos yes] at k;have s12:=s1.trans s2;refine⟨_,rfl,rfl,_,rfl,aZ ⟨_,rfl,c,ds,rfl,s12.seq hC,hd,fun no H3 s3=>?_,fun d H3 q3 yes3 s3 nq eD=>?_⟩⟩
    ·rw[no] at k;exact⟨_,rfl,rfl,_,rfl,bh ⟨(by show 1<=sizeLine;decide),fun D hD=>k _ D a7⟩⟩
    ·rw[yes3] at k;dsimp only at k;have dok:=JM.xw _ _ _ yes3;have dl:=JM.kh _ _ _ yes3;have s23:=s2.trans s3;refine⟨_,rfl,rfl,_,rfl,aZ ⟨_,rfl,p,t.cT,dx,_,_,rfl,s23 _ _ h1,T.clT,T.nTp,(AQ _ _).2,_,rfl,pp,q,ini,y,x,lg,rfl,?_,?_,?_,y7,?_,sg.same s3,yes.2.1,fun H4 z s4 e4=>?_⟩⟩
     ·rw[<-hp];exact eP.same s23 (fun a x h=>h.same s23)
     ·rw[<-hp];exact ok
     ·rw[<-hp];exact l64
     ·rw[<-hp];exact gA
     ·rw[<-hp] at e4;obtain⟨dz,pa,sa,jb,hz,ePn,eSu,eJb⟩:=e4;have su:=IA eSu ok rmR gA h64;rw[JM.DR] at eJb;rw[<-lk] at su;obtain⟨o,eo,er⟩:=AS (JM.bj bb) lg x d;rw[er] at k;obtain⟨cv,hcv,prc⟩:=eD;have key:∀y∈JM.br (JM.bj bb),JM.n0 y+JM.n1 y<=80:=fun y hy=>by
       obtain⟨m,i⟩:=List.mem_filter.mp hy;have:=JM.cz.2.1.mp i;exact(og (rmR y m) (by omega)).1
      have wok:∀w∈JM.gr (JM.bj bb),JM.eB w/\JM.isW w=true:=fun w hw=>⟨ok w (List.mem_filter.mp hw).1,(List.mem_filter.mp hw).2⟩
      refine⟨_,rfl,_,rfl,z,dz,pa,sa,jb,q3,_,rfl,hz,fun H5 r5 tr pn st pq rm5=>?_⟩
      refine⟨_,rfl,_,rfl,z,u.cL,dz,_,_,rfl,rm5.same _ _ hz,T2.clL,T2.nLj,(Bn _ _ _ _).2.2,?_⟩;refine⟨H4,r5,tr,pn,st,pq,pa,sa,jb,q3,cv,d,JM.eO (JM.gr (JM.bj bb)),JM.cY (JM.br (JM.bj bb)),_,_,_,x,lg,rfl,rm5,s4 _ _ hcv,Paired.mapP prc fun v y h=>?_,fun y hy=>dok y hy,by omega,ePn,yy wok gA.1,yk gA.1,su,eJb,GZ key,fun H6 q6 h6 p6=>?_⟩
      ·obtain⟨ca,e,_,hc⟩:=h;exact⟨ca,e,hc.same s4⟩
      ·rw[<-eo] at h6 p6;have rl:=Et (JM.cY (JM.br (JM.bj bb))).length o;generalize lN (JM.cY (JM.br (JM.bj bb))).length o=R at k h6 p6 rl;obtain⟨dx6,tr6,pn6,st6,pp6,bs6,r1,r2,r3,r4⟩:=p6;refine⟨_,rfl,r5,u.cO,dx6,_,_,rfl,r1,T2.clO,T2.nOr,(ka _ _ _ _).2.2.2,pp6,bs6,R.2.2,rfl,r2,r3,by omega,fun H7 q7 s7 h7 fl=>?_⟩
       refine⟨q6,q7,_,_,rfl,rfl,s7 _ _ h6,h7,?_,fun q8 n8=>k _ q8 ?_⟩
       ·rw[List.length_map];show 2+_<=sizeLine;omega
       ·rw[a7,List.map_append];rfl
  ·rw[if_neg rf] at k;have em:((JM.g0 bb).map V.int).isEmpty=false:=by
    cases z:JM.g0 bb with
    |nil=>exact absurd z rf
    |cons _ _=>rfl
   rw[em];exact bh ⟨_,rfl,p,t.cT,dx,_,_,rfl,h1,T.clT,T.nTr,(AQ _ _).1,k _ _ h2⟩
def cB(K:PySem.W.Frag)(C:Addr)(m qual:Str)(st:Stmt):Prop:=∃f fd,Fun K m qual st f fd/\yf K C m f
theorem f9{m qual:Str}{st:Stmt}{C f:Addr}{oc:Value}{od an:Option Addr}{osl:Array (Option Value)}{kV doc pm cdv ct:Value}(a:PySem.W.findIn K (.ref C) m=some (some (.ref f)))(i:PySem.W.isFn K (.ref f)=true)
  (l:K.lookup f=some ⟨oc,od,.func (PySem.W.fnOf m qual (f7 st) (eG st) (ae st) .none kV doc pm an cdv ct),osl⟩) (c:PySem.W.codeIn K cdv qual=true) (k:PySem.W.keepIn K (.ref f)=true):cB K C m qual st:=
 ⟨f,_,vT l c k,⟨a,i,k⟩⟩
theorem cB.cal{m qual:Str}{st:Stmt}{C:Addr}{k:Nat}{ps:List Str}{sp:Sp}(d:cB K C m qual st)(ok:∀f fd,Fun K m qual st f fd->aT P w K mg base CX0 k f fd ps sp)
  (h:∀(kV doc pm:Value) (an:Option Addr) (cdv ct:Value) (us:List Value),us.length=ps.length->bindArgs (PySem.W.fnOf m qual (f7 st) (eG st) (ae st) .none kV doc pm an cdv ct) ⟨us,[]⟩=pure (ps.zip us)):iB P w K mg base C m k ps sp:=by
 obtain⟨f,fd,F,M⟩:=d;exact⟨f,fd,ok f fd F,M,F.binds h⟩
theorem GQ{h:Heap}{p:Addr}{n:Nat}{t0 t1 t2 t3 t4 t5 t6 t7 t8 t9 u0 u1 u2 u3 u4 u5 u6 u7 u8 u9:Tok}(X:K.In h)(G:h.Ns mainGlobals mg)(a:PySem.W.nsIn K mainGlobals "FIGURES" = some (some (.ref p)))
  (l:K.lookup p=some ⟨.type "dict",none,.dict #[⟨4,.int 4 t0,.int 0 u0⟩,⟨8,.int 8 t1,.int 1 u1⟩,⟨16,.int 16 t2,.int 2 u2⟩,⟨32,.int 32 t3,.int 3 u3⟩,⟨64,.int 64 t4,.int 4 u4⟩,⟨128,.int 128 t5,.int 5 u5⟩,⟨256,.int 256 t6,.int 6 u6⟩,⟨512,.int 512 t7,.int 7 u7⟩,⟨1024,.int 1024 t8,.int 8 u8⟩,⟨2048,.int 2048 t9,.int 9 u9⟩] n,#[]⟩)
  (z:(p==sysModules)=false):∃p,mg "FIGURES" = some (.ref p)/\jA K p mr:=
 ⟨p,PySem.W.mg_of X G a,⟨⟨_,_,n,l,⟨rfl,rfl,rfl⟩,rfl,.cons ⟨⟨t0,rfl⟩,(by decide +kernel:4=hashInt 4),⟨u0,rfl⟩⟩ (.cons ⟨⟨t1,rfl⟩,(by decide +kernel:8=hashInt 8),⟨u1,rfl⟩⟩ (.cons ⟨⟨t2,rfl⟩,(by decide +kernel:16=hashInt 16),⟨u2,rfl⟩⟩ (.cons ⟨⟨t3,rfl⟩,(by decide +kernel:32=hashInt 32),⟨u3,rfl⟩⟩ (.cons ⟨⟨t4,rfl⟩,(by decide +kernel:64=hashInt 64),⟨u4,rfl⟩⟩ (.cons ⟨⟨t5,rfl⟩,(by decide +kernel:128=hashInt 128),⟨u5,rfl⟩⟩ (.cons ⟨⟨t6,rfl⟩,(by decide +kernel:256=hashInt 256),⟨u6,rfl⟩⟩ (.cons ⟨⟨t7,rfl⟩,(by decide +kernel:512=hashInt 512),⟨u7,rfl⟩⟩ (.cons ⟨⟨t8,rfl⟩,(by decide +kernel:1024=hashInt 1024),⟨u8,rfl⟩⟩ (.cons ⟨⟨t9,rfl⟩,(by decide +kernel:2048=hashInt 2048),⟨u9,rfl⟩⟩ .nil)))))))))⟩,z⟩⟩
end
theorem A5{n m:Nat}{C:List Value->Prop}(e:n=m+1)(h:∀(a:Value) (us:List Value),us.length=m->C (a::us))(us:List Value)(hl:us.length=n):C us:=by
 cases us with
 |nil=>rw[e] at hl;cases hl
 |cons a us=>exact h a us (by rw[e,List.length_cons] at hl;omega)
theorem IE{n:Nat}{C:List Value->Prop}(e:n=0)(h:C [])(us:List Value)(hl:us.length=n):C us:=by
 rw[List.length_eq_zero_iff.mp (hl.trans e)];exact h
theorem eE{n:Nat}{C:List Value->Prop}(e:n=1)(h:∀a,C [a])(us:List Value)(hl:us.length=n):C us:=A5 e (fun a=>IE rfl (h a)) us hl
theorem eF{n:Nat}{C:List Value->Prop}(e:n=2)(h:∀a b,C [a,b])(us:List Value)(hl:us.length=n):C us:=A5 e (fun a=>eE rfl fun b=>h a b) us hl
theorem kr{n:Nat}{C:List Value->Prop}(e:n=3)(h:∀a b c,C [a,b,c])(us:List Value)(hl:us.length=n):C us:=A5 e (fun a=>eF rfl fun b c=>h a b c) us hl
theorem Dd{n:Nat}{C:List Value->Prop}(e:n=4)(h:∀a b c d,C [a,b,c,d])(us:List Value)(hl:us.length=n):C us:=A5 e (fun a=>kr rfl fun b c d=>h a b c d) us hl
theorem II{n:Nat}{C:List Value->Prop}(e:n=5)(h:∀a b c d e,C [a,b,c,d,e])(us:List Value)(hl:us.length=n):C us:=A5 e (fun a=>Dd rfl fun b c d e=>h a b c d e) us hl
def ay(K:PySem.W.Frag)(mg:Str->Option Value)(x:Str)(st:Stmt):Prop:=∃f fd,Fun K x x st f fd/\mg x=some (.ref f)
theorem aK{K:PySem.W.Frag}{h:Heap}{mg:Str->Option Value}{x:Str}{st:Stmt}{f:Addr}{oc:Value}{od an:Option Addr}{osl:Array (Option Value)}{kV doc pm cdv ct:Value}(X:K.In h)(G:h.Ns mainGlobals mg)
  (a:PySem.W.nsIn K mainGlobals x=some (some (.ref f))) (l:K.lookup f=some ⟨oc,od,.func (PySem.W.fnOf x x (f7 st) (eG st) (ae st) .none kV doc pm an cdv ct),osl⟩) (c:PySem.W.codeIn K cdv x=true) (k:PySem.W.keepIn K (.ref f)=true):ay K mg x st:=
 ⟨f,_,vT l c k,PySem.W.mg_of X G a⟩
def eT(K:PySem.W.Frag)(mg:Str->Option Value)(x qual:Str)(st:Stmt)(C:Addr):Prop:=∃f fd,Fun K "__init__" qual st f fd/\Mk K C f/\mg x=some (.ref C)/\Cls K C
theorem iQ{K:PySem.W.Frag}{h:Heap}{mg:Str->Option Value}{x qual:Str}{st:Stmt}{C f:Addr}{oc:Value}{od an:Option Addr}{osl:Array (Option Value)}{kV doc pm cdv ct:Value}(X:K.In h)(G:h.Ns mainGlobals mg)
  (aC:PySem.W.nsIn K mainGlobals x=some (some (.ref C))) (a:PySem.W.findIn K (.ref C) "__init__" = some (some (.ref f))) (i:PySem.W.isFn K (.ref f)=true) (l:K.lookup f=some ⟨oc,od,.func (PySem.W.fnOf "__init__" qual (f7 st) (eG st) (ae st) .none kV doc pm an cdv ct),osl⟩) (c:PySem.W.codeIn K cdv qual=true) (k:PySem.W.keepIn K (.ref f)=true)
  (pg:PySem.W.plainGet K C Str.empty=true) (hd:PySem.W.hasDictIn K C=true) (po:PySem.W.plainOver K C=true) (sa:PySem.W.findIn K (.ref C) "__setattr__" = some (some (.builtin "object.__setattr__"))) (mk:PySem.W.makesIn K C=true) (kc:PySem.W.keepIn K (.ref C)=true):eT K mg x qual st C:=
 ⟨f,_,vT l c k,⟨mk,a,i,kc⟩,PySem.W.mg_of X G aC,⟨pg,hd,po,sa⟩⟩
theorem D0{x:V}{u:Value}(h:yS u=some x):b8 x u:=by
 cases u<;>cases h<;>first | rfl | exact⟨_,rfl⟩
theorem sO:∀{us:List Value}{xs:List V},us.map yS=xs.map some->aY xs us
 |[],[],_=>.nil
 |[],_::_,h=>by cases h
 |_::_,[],h=>by cases h
 |u::us,x::xs,h=>by
  have h1:yS u=some x:=(List.cons.inj h).1;exact .cons (D0 h1) (sO (List.cons.inj h).2)
theorem pO{K:PySem.W.Frag}{p:Addr}{d:Option Addr}{its:Array Value}{n:Nat}{sl:Array (Option Value)}{xs:List V}(l:K.lookup p=some ⟨.type "tuple",d,.seq its n,sl⟩)(v:its.toList.map yS=xs.map some)(z:its.size<=1000):∀H,SqT K H p xs:=fun H=>
 .inr ⟨_,its,n,l,rfl,rfl,Nat.le_trans z (by decide),sO v⟩
theorem zL{K:PySem.W.Frag}{h:Heap}{mg:Str->Option Value}{x:Str}{p:Addr}{d:Option Addr}{its:Array Value}{n:Nat}{sl:Array (Option Value)}{xs:List V}(X:K.In h)(G:h.Ns mainGlobals mg)
  (a:PySem.W.nsIn K mainGlobals x=some (some (.ref p))) (l:K.lookup p=some ⟨.type "tuple",d,.seq its n,sl⟩) (v:its.toList.map yS=xs.map some) (z:its.size<=1000):∃p,mg x=some (.ref p)/\∀H,SqT K H p xs:=
 ⟨p,PySem.W.mg_of X G a,pO l v z⟩
theorem aN{K:PySem.W.Frag}{h:Heap}{mg:Str->Option Value}{x:Str}{z:Int}{u:Tok}(X:K.In h)(G:h.Ns mainGlobals mg)(a:PySem.W.nsIn K mainGlobals x=some (some (.int z u))):∃u,mg x=some (.int z u):=⟨u,PySem.W.mg_of X G a⟩
theorem DU{K:PySem.W.Frag}{h:Heap}{mg:Str->Option Value}{w:World}{p:Addr}{n:Nat}{t1 t2 t3 t4 t5 t6 u1 u2 u3 u4 u5 u6:Tok}(X:K.In h)(G:h.Ns mainGlobals mg)(a:PySem.W.nsIn K mainGlobals "SORTS" = some (some (.ref p)))
  (l:K.lookup p=some ⟨.type "dict",none,.dict #[⟨hashStr w "where",.str "where" t1,.int 0 u1⟩,⟨hashStr w "key",.str "key" t2,.int 1 u2⟩,⟨hashStr w "sum",.str "sum" t3,.int 2 u3⟩,⟨hashStr w "count",.str "count" t4,.int 2 u4⟩,⟨hashStr w "see",.str "see" t5,.int 3 u5⟩,⟨hashStr w "list",.str "list" t6,.int 4 u6⟩] n,#[]⟩)
  (z:(p==sysModules)=false):∃p,mg "SORTS" = some (.ref p)/\gz K w p sW:=
 ⟨p,PySem.W.mg_of X G a,⟨_,_,n,l,⟨rfl,rfl,rfl⟩,rfl,.cons ⟨⟨t1,rfl⟩,rfl,⟨u1,rfl⟩⟩ (.cons ⟨⟨t2,rfl⟩,rfl,⟨u2,rfl⟩⟩ (.cons ⟨⟨t3,rfl⟩,rfl,⟨u3,rfl⟩⟩ (.cons ⟨⟨t4,rfl⟩,rfl,⟨u4,rfl⟩⟩ (.cons ⟨⟨t5,rfl⟩,rfl,⟨u5,rfl⟩⟩ (.cons ⟨⟨t6,rfl⟩,rfl,⟨u6,rfl⟩⟩ .nil)))))⟩,by decide +kernel,z⟩
theorem uU{K:PySem.W.Frag}{h:Heap}{mg:Str->Option Value}{w:World}{p:Addr}{n:Nat}{t1 t2 t3 u1 u2 u3:Tok}(X:K.In h)(G:h.Ns mainGlobals mg)(a:PySem.W.nsIn K mainGlobals "LISTINGS" = some (some (.ref p)))
  (l:K.lookup p=some ⟨.type "dict",none,.dict #[⟨hashStr w "none",.str "none" t1,.int 0 u1⟩,⟨hashStr w "all",.str "all" t2,.int 1 u2⟩,⟨hashStr w "first",.str "first" t3,.int 2 u3⟩] n,#[]⟩)
  (z:(p==sysModules)=false):∃p,mg "LISTINGS" = some (.ref p)/\gz K w p ([("none",.int 0),("all",.int 1),("first",.int 2)]:List (Str×V)):=
 ⟨p,PySem.W.mg_of X G a,⟨_,_,n,l,⟨rfl,rfl,rfl⟩,rfl,.cons ⟨⟨t1,rfl⟩,rfl,⟨u1,rfl⟩⟩ (.cons ⟨⟨t2,rfl⟩,rfl,⟨u2,rfl⟩⟩ (.cons ⟨⟨t3,rfl⟩,rfl,⟨u3,rfl⟩⟩ .nil))⟩,by decide +kernel,z⟩
theorem IV:(("C" : Str)=⟨#[67]⟩)/\(("R" : Str)=⟨#[82]⟩)/\(("N" : Str)=⟨#[78]⟩)/\(("P" : Str)=⟨#[80]⟩)/\(("W" : Str)=⟨#[87]⟩):=by decide +kernel
theorem nS(c d:Nat):((⟨#[c]⟩:Str)==(⟨#[d]⟩:Str))=decide (c=d):=by
 apply Bool.eq_iff_iff.mpr;rw[beq_iff_eq,decide_eq_true_eq];constructor
 ·intro z;have z2:#[c]=#[d]:=congrArg Str.cps z;simpa using z2
 ·intro z;rw[z]
theorem zt{K:PySem.W.Frag}{h:Heap}{mg:Str->Option Value}{w:World}{p p1 p2 p3 p4 p5:Addr}{n:Nat}{t1 t2 t3 t4 t5:Tok}(X:K.In h)(G:h.Ns mainGlobals mg)(a:PySem.W.nsIn K mainGlobals "RANGES" = some (some (.ref p)))
  (l:K.lookup p=some ⟨.type "dict",none,.dict #[⟨hashStr w "C",.str "C" t1,.ref p1⟩,⟨hashStr w "R",.str "R" t2,.ref p2⟩,⟨hashStr w "N",.str "N" t3,.ref p3⟩,⟨hashStr w "P",.str "P" t4,.ref p4⟩,⟨hashStr w "W",.str "W" t5,.ref p5⟩] n,#[]⟩)
  (z:(p==sysModules)=false) (s1:∀H,SqT K H p1 [.int (0:Nat),.int (79:Nat)]) (s2:∀H,SqT K H p2 [.int (0:Nat),.int (11:Nat)]) (s3:∀H,SqT K H p3 [.int (1:Nat),.int (80:Nat)]) (s4:∀H,SqT K H p4 [.int (0:Nat),.int (131:Nat)]) (s5:∀H,SqT K H p5 [.int (2:Nat),.int (20:Nat)]) :
  ∃p,mg "RANGES" = some (.ref p)/\∃kvs,gz K w p kvs/\∀c,(match JM.bz c with
  |some (lo,hi)=>∃p,kvs.lookup (⟨#[c]⟩:Str)=some (.ref p)/\∀H,SqT K H p [.int (lo:Nat),.int (hi:Nat)]
  |none=>kvs.lookup (⟨#[c]⟩:Str)=none):=by
 refine⟨p,PySem.W.mg_of X G a,[(⟨#[67]⟩,.ref p1),(⟨#[82]⟩,.ref p2),(⟨#[78]⟩,.ref p3),(⟨#[80]⟩,.ref p4),(⟨#[87]⟩,.ref p5)],⟨⟨_,_,n,l,⟨rfl,rfl,rfl⟩,rfl,?_⟩,(show([⟨#[67]⟩,⟨#[82]⟩,⟨#[78]⟩,⟨#[80]⟩,⟨#[87]⟩]:List Str).Nodup by decide +kernel),z⟩,fun c=>?_⟩
 ·obtain⟨e1,e2,e3,e4,e5⟩:=IV;rw[<-e1,<-e2,<-e3,<-e4,<-e5];exact .cons ⟨⟨t1,rfl⟩,rfl,rfl⟩ (.cons ⟨⟨t2,rfl⟩,rfl,rfl⟩ (.cons ⟨⟨t3,rfl⟩,rfl,rfl⟩ (.cons ⟨⟨t4,rfl⟩,rfl,rfl⟩ (.cons ⟨⟨t5,rfl⟩,rfl,rfl⟩ .nil))))
 ·unfold JM.bz;by_cases c1:c=67
  ·subst c1;exact⟨p1,by simp[List.lookup],s1⟩
  ·by_cases c2:c=82
   ·subst c2;exact⟨p2,by simp[List.lookup,nS],s2⟩
   ·by_cases c3:c=78
    ·subst c3;exact⟨p3,by simp[List.lookup,nS],s3⟩
    ·by_cases c4:c=80
     ·subst c4;exact⟨p4,by simp[List.lookup,nS],s4⟩
     ·by_cases c5:c=87
      ·subst c5;exact⟨p5,by simp[List.lookup,nS],s5⟩
      ·rw[if_neg c1,if_neg c2,if_neg c3,if_neg c4,if_neg c5];simp[List.lookup,nS,c1,c2,c3,c4,c5]
section
variable{P:Program}{w:World}{K:PySem.W.Frag}{mg:Str->Option Value}{base:Heap}{f:Addr}{fd:FuncData}
theorem ay.cal{x:Str}{st:Stmt}{k:Nat}{ps:List Str}{sp:Sp}(d:ay K mg x st)(ok:∀f fd,Fun K x x st f fd->aT P w K mg base CX0 k f fd ps sp)
  (h:∀(kV doc pm:Value) (an:Option Addr) (cdv ct:Value) (us:List Value),us.length=ps.length->bindArgs (PySem.W.fnOf x x (f7 st) (eG st) (ae st) .none kV doc pm an cdv ct) ⟨us,[]⟩=pure (ps.zip us)):Cal P w K mg base x k ps sp:=by
 obtain⟨f,fd,F,m⟩:=d;exact⟨f,fd,ok f fd F,m,F.kp,F.binds h⟩
theorem eT.mak{x qual:Str}{st:Stmt}{C:Addr}{k:Nat}{ps:List Str}{sp:Sp}(d:eT K mg x qual st C)(ok:∀f fd,Fun K "__init__" qual st f fd->aT P w K mg base CX0 k f fd ps sp)
  (h:∀(kV doc pm:Value) (an:Option Addr) (cdv ct:Value) (us:List Value),us.length=ps.length->bindArgs (PySem.W.fnOf "__init__" qual (f7 st) (eG st) (ae st) .none kV doc pm an cdv ct) ⟨us,[]⟩=pure (ps.zip us)):Mak P w K mg base x C k ps sp:=by
 obtain⟨f,fd,F,M,m,_⟩:=d;exact⟨f,fd,M,ok f fd F,m,F.binds h⟩
structure HW(K:PySem.W.Frag)(w:World)(mg:Str->Option Value)(t:Adr)(u:cF):Prop where
 T:Txt K w mg t
 T2:Tx2 K w mg u
 T3:Tx3 mg
 dCan:ay K mg "can_begin" Cg
 dFig:ay K mg "figures_end" DN
 dNum:ay K mg "number_of" DH
 dRight:ay K mg "right_end" qH
 dWhole:ay K mg "is_whole" qL
 dBy:ay K mg "read_by" sBy
 dLine:ay K mg "read_line" wd
 dSplit:ay K mg "split_lines" qt
 dParts:ay K mg "read_parts" qJ
 dPass:ay K mg "part_passes" wo
 dPasses:ay K mg "report_passes" kg
 dField:ay K mg "has_field" qZ
 dRoom:ay K mg "has_room" wg
 dUnfit:ay K mg "first_unfit" ou
 dWrong:ay K mg "wrong_bytes_fault" rO
 dFault:ay K mg "find_fault" qB
 dReport:ay K mg "read_report" lV
 dRowH:ay K mg "row_holes" we
 dFigH:ay K mg "figure_holes" xf
 dCode:ay K mg "code_holes" wz
 dByte:ay K mg "is_byte" wY
 dLeg:ay K mg "is_legend" zN
 dSigns:ay K mg "read_signs" qi
 dWs:ay K mg "wheres_of" sWs
 dKs:ay K mg "keys_of" sKs
 dTs:ay K mg "totals_of" sTs
 dSs:ay K mg "seens_of" sSs
 dLst:ay K mg "listing_of" Cd
 dWires:ay K mg "where_wires" qj
 dPanel:ay K mg "plan_panel" qF
 dKL:ay K mg "key_lines" j7
 dJob:ay K mg "plan_job" Eg
 dHead:ay K mg "setup_head" xo
 dLevels:ay K mg "setup_levels" md
 dCounter:ay K mg "total_counter" kb
 dCounters:ay K mg "setup_counters" gQ
 dThing:ay K mg "field_thing" qX
 dFrom:ay K mg "keys_from" xJ
 dThings:ay K mg "setup_things" j2
 dMake:ay K mg "make_plan" wk
 dHasR:ay K mg "has_row" wK
 dTopR:ay K mg "top_rank" wc
 dFldOf:ay K mg "field_of" qK
 dRdC:ay K mg "read_card" CA
 dRdD:ay K mg "read_deck" C0
 dFigV:ay K mg "figures_value" wu
 dAmt:ay K mg "amount_of" DE
 dBlk:ay K mg "blank_line" CB
 dPut:ay K mg "put_upon" Cm
 dShN:ay K mg "show_number" zI
 dAcc:ay K mg "account_cards" E8
 dInto:ay K mg "what_goes_into" wj
 dSent:ay K mg "what_is_sent" xk
 dCho:ay K mg "is_chosen" Dx
 dRmOf:ay K mg "room_of" wq
 dDoC:ay K mg "do_choose" yG
 dDoP:ay K mg "do_pass" B8
 dDoA:ay K mg "do_account" BV
 dDoL:ay K mg "do_line" Df
 dRun:ay K mg "run_job" DJ
 dJoinP:ay K mg "join_rows" xC
 dPld:ay K mg "planned" Dy
 cP:eT K mg "Part" "Part.__init__" rB t.cP
 cR:eT K mg "Reading" "Reading.__init__" qy t.cR
 cT:eT K mg "Report" "Report.__init__" qm t.cT
 cS:eT K mg "Signs" "Signs.__init__" rD u.cS
 cU:eT K mg "Setup" "Setup.__init__" qU u.cU
 cL:eT K mg "Plan" "Plan.__init__" r9 u.cL
 cM:eT K mg "Machine" "Machine.__init__" mD u.cM
 cO:eT K mg "Room" "Room.__init__" qk u.cO
 mShow:cB K u.cS "show_field" "Signs.show_field" uq
 mEndL:cB K u.cM "ended_level" "Machine.ended_level" xT
 mPrt:cB K u.cM "print_line" "Machine.print_line" Dq
 mMkT:cB K u.cM "make_total" "Machine.make_total" zq
 mCnt:cB K u.cM "count_card" "Machine.count_card" Dl
 mTak:cB K u.cM "take_card" "Machine.take_card" CF
 mMkE:cB K u.cM "make_end" "Machine.make_end" Ec
 mLook:cB K u.cO "look_into" "Room.look_into" xb
 mOut:cB K u.cO "take_out" "Room.take_out" C2
 mBeh:cB K u.cO "put_behind" "Room.put_behind" Cn
theorem Bp{t:Adr}{u:cF}(W:HW K w mg t u):∃(f:Addr) (fd:FuncData),mg "planned" = some (.ref f)/\(∀(s:Shared) (us:List Value),us.length=(["strange", "text", "legend", "deck"]:List Str).length->BindsTo s fd ⟨us,[]⟩ ((["strange", "text", "legend", "deck"]:List Str).zip us))/\∀base:Heap,aT P w K mg base CX0 10 f fd ["strange", "text", "legend", "deck"] (BJ K):=by
 obtain⟨T,T2,T3,dCan,dFig,dNum,dRight,dWhole,dBy,dLine,dSplit,dParts,dPass,dPasses,dField,dRoom,dUnfit,dWrong,dFault,dReport,dRowH,dFigH,dCode,dByte,dLeg,dSigns,dWs,dKs,dTs,dSs,dLst,dWires,dPanel,dKL,dJob,dHead,dLevels,dCounter,dCounters,dThing,dFrom,dThings,dMake,dHasR,dTopR,dFldOf,dRdC,dRdD,dFigV,dAmt,dBlk,dPut,dShN,dAcc,dInto,dSent,dCho,dRmOf,dDoC,dDoP,dDoA,dDoL,dRun,dJoinP,dPld,cP,cR,cT,cS,cU,cL,cM,cO,mShow,mEndL,mPrt,mMkT,mCnt,mTak,mMkE,mLook,mOut,mBeh⟩:=W;obtain⟨f,fd,F,m⟩:=dPld;refine⟨f,fd,m,?_,fun base=>?_⟩
 ·obtain⟨oc,od,kV,doc,pm,an,cdv,ct,osl,rfl,lk,hcd⟩:=F.ex;exact fun s us hu=>match us,hu with | [_,_,_,_],_=>.of_eq rfl
 ·have mP:=cP.mak (P:=P) (w:=w) (base:=base) (fun f fd F=>AN F T) (fun _ _ _ _ _ _=>kr rfl fun _ _ _=>rfl)
  have mR:=cR.mak (P:=P) (w:=w) (base:=base) (fun f fd F=>A0 F T) (fun _ _ _ _ _ _=>kr rfl fun _ _ _=>rfl)
  have mT:=cT.mak (P:=P) (w:=w) (base:=base) (fun f fd F=>BC F T) (fun _ _ _ _ _ _=>kr rfl fun _ _ _=>rfl)
  have mU:=cU.mak (P:=P) (w:=w) (base:=base) (fun f fd F=>zB F T2) (fun _ _ _ _ _ _=>II rfl fun _ _ _ _ _=>rfl)
  have mL:=cL.mak (P:=P) (w:=w) (base:=base) (fun f fd F=>zy F T2) (fun _ _ _ _ _ _=>II rfl fun _ _ _ _ _=>rfl)
  have mM:=cM.mak (P:=P) (w:=w) (base:=base) (fun f fd F=>A1 F T2) (fun _ _ _ _ _ _=>eF rfl fun _ _=>rfl)
  have mO:=cO.mak (P:=P) (w:=w) (base:=base) (fun f fd F=>B4 F T2) (fun _ _ _ _ _ _=>Dd rfl fun _ _ _ _=>rfl)
  have cCan:=dCan.cal (P:=P) (w:=w) (base:=base) (fun f fd F=>Fy F) (fun _ _ _ _ _ _=>kr rfl fun _ _ _=>rfl)
  have cFig:=dFig.cal (P:=P) (w:=w) (base:=base) (fun f fd F=>GG F T cCan) (fun _ _ _ _ _ _=>Dd rfl fun _ _ _ _=>rfl)
  have cNum:=dNum.cal (P:=P) (w:=w) (base:=base) (fun f fd F=>FR F T) (fun _ _ _ _ _ _=>eE rfl fun _=>rfl)
  have cRight:=dRight.cal (P:=P) (w:=w) (base:=base) (fun f fd F=>BA F T cFig) (fun _ _ _ _ _ _=>kr rfl fun _ _ _=>rfl)
  have cWhole:=dWhole.cal (P:=P) (w:=w) (base:=base) (fun f fd F=>AM F T cNum) (fun _ _ _ _ _ _=>eF rfl fun _ _=>rfl)
  have cBy:=dBy.cal (P:=P) (w:=w) (base:=base) (fun f fd F=>Io F T cRight cWhole cNum mR mP) (fun _ _ _ _ _ _=>eF rfl fun _ _=>rfl)
  have cLine:=dLine.cal (P:=P) (w:=w) (base:=base) (fun f fd F=>Em F T cBy mR) (fun _ _ _ _ _ _=>eE rfl fun _=>rfl)
  have cSplit:=dSplit.cal (P:=P) (w:=w) (base:=base) (fun f fd F=>B2 F T) (fun _ _ _ _ _ _=>eE rfl fun _=>rfl)
  have cParts:=dParts.cal (P:=P) (w:=w) (base:=base) (fun f fd F=>Bi F T cLine) (fun _ _ _ _ _ _=>eE rfl fun _=>rfl)
  have cPass:=dPass.cal (P:=P) (w:=w) (base:=base) (fun f fd F=>Cu F T) (fun _ _ _ _ _ _=>eE rfl fun _=>rfl)
  have cPasses:=dPasses.cal (P:=P) (w:=w) (base:=base) (fun f fd F=>yP F T cPass) (fun _ _ _ _ _ _=>eE rfl fun _=>rfl)
  have cField:=dField.cal (P:=P) (w:=w) (base:=base) (fun f fd F=>zF F T) (fun _ _ _ _ _ _=>eE rfl fun _=>rfl)
  have cRoom:=dRoom.cal (P:=P) (w:=w) (base:=base) (fun f fd F=>Ei F T cField) (fun _ _ _ _ _ _=>eE rfl fun _=>rfl)
  have cUnfit:=dUnfit.cal (P:=P) (w:=w) (base:=base) (fun f fd F=>BH F T cPass cRoom) (fun _ _ _ _ _ _=>eE rfl fun _=>rfl)
  have cWrong:=dWrong.cal (P:=P) (w:=w) (base:=base) (fun f fd F=>zp F T cLine) (fun _ _ _ _ _ _=>eF rfl fun _ _=>rfl)
  have cFault:=dFault.cal (P:=P) (w:=w) (base:=base) (fun f fd F=>B6 F T cWrong cUnfit) (fun _ _ _ _ _ _=>eF rfl fun _ _=>rfl)
  have cReport:=dReport.cal (P:=P) (w:=w) (base:=base) (fun f fd F=>y1 F T cSplit cParts cFault mT) (fun _ _ _ _ _ _=>eE rfl fun _=>rfl)
  have cRowH:=dRowH.cal (P:=P) (w:=w) (base:=base) (fun f fd F=>D6 F) (fun _ _ _ _ _ _=>eE rfl fun _=>rfl)
  have cFigH:=dFigH.cal (P:=P) (w:=w) (base:=base) (fun f fd F=>CW F cRowH) (fun _ _ _ _ _ _=>eE rfl fun _=>rfl)
  have cCode:=dCode.cal (P:=P) (w:=w) (base:=base) (fun f fd F=>Dk F cRowH cFigH) (fun _ _ _ _ _ _=>eE rfl fun _=>rfl)
  have cByte:=dByte.cal (P:=P) (w:=w) (base:=base) (fun f fd F=>DZ F T2) (fun _ _ _ _ _ _=>eE rfl fun _=>rfl)
  have cLeg:=dLeg.cal (P:=P) (w:=w) (base:=base) (fun f fd F=>FN F T T2 cByte) (fun _ _ _ _ _ _=>eE rfl fun _=>rfl)
  have mS:=cS.mak (P:=P) (w:=w) (base:=base) (fun f fd F=>AW F T T2 cCode) (fun _ _ _ _ _ _=>kr rfl fun _ _ _=>rfl)
  have cSigns:=dSigns.cal (P:=P) (w:=w) (base:=base) (fun f fd F=>zu F T T2 cLeg cByte mS) (fun _ _ _ _ _ _=>eF rfl fun _ _=>rfl)
  have cWs:=dWs.cal (P:=P) (w:=w) (base:=base) (fun f fd F=>Ib F T) (fun _ _ _ _ _ _=>eE rfl fun _=>rfl)
  have cKs:=dKs.cal (P:=P) (w:=w) (base:=base) (fun f fd F=>HS F T) (fun _ _ _ _ _ _=>eE rfl fun _=>rfl)
  have cTs:=dTs.cal (P:=P) (w:=w) (base:=base) (fun f fd F=>IG F T) (fun _ _ _ _ _ _=>eE rfl fun _=>rfl)
  have cSs:=dSs.cal (P:=P) (w:=w) (base:=base) (fun f fd F=>HY F T) (fun _ _ _ _ _ _=>eE rfl fun _=>rfl)
  have cLst:=dLst.cal (P:=P) (w:=w) (base:=base) (fun f fd F=>GD F T) (fun _ _ _ _ _ _=>eE rfl fun _=>rfl)
  have cWires:=dWires.cal (P:=P) (w:=w) (base:=base) (fun f fd F=>A4 F T T2) (fun _ _ _ _ _ _=>eF rfl fun _ _=>rfl)
  have cPanel:=dPanel.cal (P:=P) (w:=w) (base:=base) (fun f fd F=>Bb F T T2 cWires) (fun _ _ _ _ _ _=>eE rfl fun _=>rfl)
  have cKL:=dKL.cal (P:=P) (w:=w) (base:=base) (fun f fd F=>ym F T T2 cRowH) (fun _ _ _ _ _ _=>eE rfl fun _=>rfl)
  have cJob:=dJob.cal (P:=P) (w:=w) (base:=base) (fun f fd F=>GJ F T T2 cKL) (fun _ _ _ _ _ _=>eE rfl fun _=>rfl)
  have cHead:=dHead.cal (P:=P) (w:=w) (base:=base) (fun f fd F=>Di F T T2 cKs cLst) (fun _ _ _ _ _ _=>eF rfl fun _ _=>rfl)
  have cLevels:=dLevels.cal (P:=P) (w:=w) (base:=base) (fun f fd F=>yB F T T2) (fun _ _ _ _ _ _=>eE rfl fun _=>rfl)
  have cCounter:=dCounter.cal (P:=P) (w:=w) (base:=base) (fun f fd F=>uP F T T2) (fun _ _ _ _ _ _=>eF rfl fun _ _=>rfl)
  have cCounters:=dCounters.cal (P:=P) (w:=w) (base:=base) (fun f fd F=>tO F cLevels cCounter) (fun _ _ _ _ _ _=>eF rfl fun _ _=>rfl)
  have cThing:=dThing.cal (P:=P) (w:=w) (base:=base) (fun f fd F=>Bd F T T2) (fun _ _ _ _ _ _=>eF rfl fun _ _=>rfl)
  have cFrom:=dFrom.cal (P:=P) (w:=w) (base:=base) (fun f fd F=>Dc F T T2) (fun _ _ _ _ _ _=>eF rfl fun _ _=>rfl)
  have cThings:=dThings.cal (P:=P) (w:=w) (base:=base) (fun f fd F=>yt F T T2 cLevels cThing cFrom) (fun _ _ _ _ _ _=>kr rfl fun _ _ _=>rfl)
  have cMake:=dMake.cal (P:=P) (w:=w) (base:=base) (fun f fd F=>DG F T T2 cWs cKs cTs cSs cHead cThings cCounters cPasses cPanel cJob mU mL) (fun _ _ _ _ _ _=>eF rfl fun _ _=>rfl)
  have cHasR:=dHasR.cal (P:=P) (w:=w) (base:=base) (fun f fd F=>DO F) (fun _ _ _ _ _ _=>eF rfl fun _ _=>rfl)
  have cTopR:=dTopR.cal (P:=P) (w:=w) (base:=base) (fun f fd F=>Ct F) (fun _ _ _ _ _ _=>eE rfl fun _=>rfl)
  have cFldOf:=dFldOf.cal (P:=P) (w:=w) (base:=base) (fun f fd F=>AD F) (fun _ _ _ _ _ _=>kr rfl fun _ _ _=>rfl)
  have cRdC:=dRdC.cal (P:=P) (w:=w) (base:=base) (fun f fd F=>G2 F T T3) (fun _ _ _ _ _ _=>eE rfl fun _=>rfl)
  have cRdD:=dRdD.cal (P:=P) (w:=w) (base:=base) (fun f fd F=>Hr F T T3 cRdC) (fun _ _ _ _ _ _=>eE rfl fun _=>rfl)
  have cFigV:=dFigV.cal (P:=P) (w:=w) (base:=base) (fun f fd F=>CG F T2) (fun _ _ _ _ _ _=>eE rfl fun _=>rfl)
  have cAmt:=dAmt.cal (P:=P) (w:=w) (base:=base) (fun f fd F=>Fz F T2 cFldOf cHasR cRowH cFigV) (fun _ _ _ _ _ _=>kr rfl fun _ _ _=>rfl)
  have cBlk:=dBlk.cal (P:=P) (w:=w) (base:=base) (fun f fd F=>FX F T2) (fun _ _ _ _ _ _=>IE rfl rfl)
  have cPut:=dPut.cal (P:=P) (w:=w) (base:=base) (fun f fd F=>Fj F T) (fun _ _ _ _ _ _=>kr rfl fun _ _ _=>rfl)
  have cShow:=mShow.cal (P:=P) (w:=w) (base:=base) (mg:=mg) (fun f fd F=>Cr F T2 cFldOf) (fun _ _ _ _ _ _=>Dd rfl fun _ _ _ _=>rfl)
  have cShN:=dShN.cal (P:=P) (w:=w) (base:=base) (fun f fd F=>FA F T T2) (fun _ _ _ _ _ _=>eF rfl fun _ _=>rfl)
  have cEndL:=mEndL.cal (P:=P) (w:=w) (base:=base) (mg:=mg) (fun f fd F=>Ep F T2 cFldOf) (fun _ _ _ _ _ _=>eF rfl fun _ _=>rfl)
  have cPrt:=mPrt.cal (P:=P) (w:=w) (base:=base) (mg:=mg) (fun f fd F=>FK F T2 cBlk cPut cShow cShN) (fun _ _ _ _ _ _=>kr rfl fun _ _ _=>rfl)
  have cMkT:=mMkT.cal (P:=P) (w:=w) (base:=base) (mg:=mg) (fun f fd F=>GC F T T2 cPrt) (fun _ _ _ _ _ _=>eF rfl fun _ _=>rfl)
  have cCnt:=mCnt.cal (P:=P) (w:=w) (base:=base) (mg:=mg) (fun f fd F=>Hd F T T2 cAmt) (fun _ _ _ _ _ _=>eF rfl fun _ _=>rfl)
  have cTak:=mTak.cal (P:=P) (w:=w) (base:=base) (mg:=mg) (fun f fd F=>Gw F T2 cEndL cMkT cCnt cPrt) (fun _ _ _ _ _ _=>eF rfl fun _ _=>rfl)
  have cMkE:=mMkE.cal (P:=P) (w:=w) (base:=base) (mg:=mg) (fun f fd F=>G7 F T2 cMkT) (fun _ _ _ _ _ _=>eE rfl fun _=>rfl)
  have cAcc:=dAcc.cal (P:=P) (w:=w) (base:=base) (fun f fd F=>Hw F T2 mM cTak cMkE) (fun _ _ _ _ _ _=>eF rfl fun _ _=>rfl)
  have cInto:=dInto.cal (P:=P) (w:=w) (base:=base) (fun f fd F=>Ez F) (fun _ _ _ _ _ _=>eF rfl fun _ _=>rfl)
  have cSent:=dSent.cal (P:=P) (w:=w) (base:=base) (fun f fd F=>DL F cInto cCode cRowH) (fun _ _ _ _ _ _=>kr rfl fun _ _ _=>rfl)
  have cCho:=dCho.cal (P:=P) (w:=w) (base:=base) (fun f fd F=>FF F cInto cSent) (fun _ _ _ _ _ _=>eF rfl fun _ _=>rfl)
  have cLook:=mLook.cal (P:=P) (w:=w) (base:=base) (mg:=mg) (fun f fd F=>CQ F T2) (fun _ _ _ _ _ _=>eF rfl fun _ _=>rfl)
  have cOut:=mOut.cal (P:=P) (w:=w) (base:=base) (mg:=mg) (fun f fd F=>GF F T2 cLook) (fun _ _ _ _ _ _=>eF rfl fun _ _=>rfl)
  have cBeh:=mBeh.cal (P:=P) (w:=w) (base:=base) (mg:=mg) (fun f fd F=>Gq F T2 cLook) (fun _ _ _ _ _ _=>kr rfl fun _ _ _=>rfl)
  have cRmOf:=dRmOf.cal (P:=P) (w:=w) (base:=base) (fun f fd F=>Cw F T2 mO) (fun _ _ _ _ _ _=>eF rfl fun _ _=>rfl)
  have cDoC:=dDoC.cal (P:=P) (w:=w) (base:=base) (fun f fd F=>Gk F T2 cOut cBeh cCho) (fun _ _ _ _ _ _=>eF rfl fun _ _=>rfl)
  have cDoP:=dDoP.cal (P:=P) (w:=w) (base:=base) (fun f fd F=>Hb F T2 cOut cBeh cTopR) (fun _ _ _ _ _ _=>eF rfl fun _ _=>rfl)
  have cDoA:=dDoA.cal (P:=P) (w:=w) (base:=base) (fun f fd F=>Hn F T T2 cLook cAcc) (fun _ _ _ _ _ _=>eF rfl fun _ _=>rfl)
  have cDoL:=dDoL.cal (P:=P) (w:=w) (base:=base) (fun f fd F=>GP F cDoC cDoP cDoA) (fun _ _ _ _ _ _=>eF rfl fun _ _=>rfl)
  have cRun:=dRun.cal (P:=P) (w:=w) (base:=base) (fun f fd F=>Fl F T T2 cDoL) (fun _ _ _ _ _ _=>eF rfl fun _ _=>rfl)
  have cJoinP:=dJoinP.cal (P:=P) (w:=w) (base:=base) (fun f fd F=>Bu F) (fun _ _ _ _ _ _=>eE rfl fun _=>rfl)
  exact Gg F T T2 T3 cReport cSigns cRdD cMake cRmOf cRun cJoinP
end
end Jd
end
end
open PySem PySem.W PyProof.Rows
namespace PySem.W.Fast
def tw1311716621558427355:=()
def tw17693092107454351660:=()
def tw6434081573273840581:=()
def tw788121932552860755:=()
def tw6554273215861945967:=()
def tw7681794778006250000:=()
def tw5492146232364081166:=()
def tw13688422479814842393:=()
def tw7918563002722916525:=()
def tw1389497293229664858:=()
def tw2442471855695763091:=()
def tw18428739584966931791:=()
def tw11843831995212056653:=()
def tw11428345464282702664:=()
def tw16951526897579165207:=()
def tw4793472760974977771:=()
def tw3794715401609035215:=()
def tw18410856097849823899:=()
def tw4064671312751768866:=()
def tw15975135587212668872:=()
def tw1143359229341300109:=()
def tw17063512007453463937:=()
def tw7153141024650514520:=()
def tw16684198399105730921:=()
def tw12901414523166456002:=()
def tw290557622228664745:=()
def tw2058819452610505167:=()
def tw10535119447326805781:=()
def tw16569692714608586152:=()
def tw2438812591571988691:=()
def tw6652012728338919549:=()
def tw7113960546278815079:=()
def tw18137778099421835931:=()
def tw17366281427759985238:=()
def tw17246497357460334028:=()
def tw17968999862364303414:=()
def tw18127724722879622486:=()
def tw5387186159921947671:=()
def tw1361763707721103638:=()
def tw12356136812832923552:=()
def tw9362987433234876451:=()
def tw11332856100013027636:=()
def tw10358141285449929577:=()
def tw16607497303486004401:=()
def tw8405900130467511085:=()
def tw10534959804603323608:=()
def tw15512504428624031128:=()
def tw4985869252185067645:=()
def tw12460223244303014073:=()
def tw2504990346635920004:=()
def tw11103611682705324460:=()
def tw17788508757689824971:=()
def tw14270029313772951664:=()
def tw17747596406605542609:=()
def tw8514862024962994351:=()
def tw3296328010815213995:=()
def tw11537642047624944597:=()
def tw2509756589617106557:=()
def tw1562907509070355548:=()
def tw7398479557389666338:=()
def tw7116513837393938364:=()
def tw11399331404211593044:=()
def tw4291865708260364124:=()
def tw10013006983876594016:=()
def tw14696237868835584728:=()
def tw4820590745547918275:=()
def tw11399148768552506268:=()
def tw17781120819431040267:=()
def tw5863299033385169191:=()
def tw3973452030879507298:=()
def tw9131116306469861078:=()
def tw471759041139731123:=()
def tw8389986587186168935:=()
def tw9818026459952681924:=()
def tw4260139434245419999:=()
def tw5126874486532684205:=()
def tw17085899998934809029:=()
def tw1155844563876521021:=()
def tw6881942865555432752:=()
def tw16541484656384336591:=()
def tw478581759244625332:=()
def tw15800550944619402744:=()
def tw5981189916138322885:=()
def tw9913159600493760167:=()
def tw16657266111361303070:=()
def tw14289469587583369784:=()
def tw18336534481084126435:=()
def tw6690965389495710773:=()
def tw17470849668603421799:=()
def tw10209654809046244041:=()
def tw6812203203320376062:=()
def tw17447729722638168299:=()
def tw17967577147325881028:=()
def tw12552186155759280201:=()
def tw6703615536160044562:=()
def tw2827650873999724551:=()
def tw379891530514746940:=()
def tw12119521031109024112:=()
def tw2560386947596881336:=()
def tw5425736463772261810:=()
def tw15082043608680291296:=()
def tw11430186335721440376:=()
def tw7584458148802627653:=()
def tw17281661896107655829:=()
def tw1111085667696121988:=()
def tw3192501764332429985:=()
def tw13489009890242078967:=()
def tw6496570758181919923:=()
def tw11146383776400528440:=()
def tw14071920860297412302:=()
def tw3238802866462360085:=()
def tw6848158984474725377:=()
def tw858338583875280391:=()
def tw16978658426804267643:=()
def tw14038432195076379834:=()
def tw14705136660961801896:=()
def tw6744522692862855601:=()
def tw3213043814312369964:=()
def tw11431868352424604102:=()
def tw13493411997966583097:=()
def tw1349093129521971335:=()
def tw3516546013413668151:=()
def tw10901880652325345702:=()
def tw10393734815195468186:=()
def tw170911319503771363:=()
def tw10922203968394433467:=()
def tw10198276981384377968:=()
def tw2786301522434517861:=()
def tw6811574824338185052:=()
def tw4011017957583144924:=()
def tw18267077224292910560:=()
def tw8601976680138897318:=()
def tw1596362082626082477:=()
def tw2283606403057580870:=()
def tw13958132417750727208:=()
def tw13471792364820971765:=()
def tw10680146387819215795:=()
def tw9349242229814721533:=()
def tw4531819758186175649:=()
def tw177171037774178401:=()
def tw12612462156849829936:=()
def tw3714819159009258230:=()
def tw5517863488710034329:=()
def tw16861262474495000805:=()
def tw17217593484286187391:=()
def tw14045920039581987394:=()
def tw17039898221996866336:=()
def tw11581318615112259243:=()
def tw13190450453578663056:=()
def tw6618458674796305895:=()
def tw7229280550167125925:=()
def tw1174171166453169281:=()
def tw6174934695629235867:=()
def tw16260518410561956463:=()
def tw16267731281901500663:=()
def tw3399898788381917940:=()
def tw11002671549108917325:=()
def tw13658223872264593382:=()
def tw2571871694715741952:=()
def tw12189716126814833784:=()
def tw16682544897899277585:=()
def tw9482088645699610880:=()
def tw6166697621229625420:=()
def tw1060021633197268228:=()
def tw16487580976690522004:=()
def tw9854421331632489566:=()
def tw12554276231250542943:=()
def tw3602714828741773144:=()
def tw15023764852700826839:=()
def tw14580793580815827550:=()
def tw3267322924508851634:=()
def tw9331164113272446101:=()
def tw2626303139455746203:=()
def tw11737397720738714958:=()
def tw18409205771323691395:=()
def tw13900483691578821621:=()
def tw5959631420158978916:=()
def tw6572928877827219049:=()
def tw6161730583518131881:=()
def tw17040634955559121258:=()
def tw17031450115703322838:=()
def tw14476589898675694115:=()
def tw4778247494271371380:=()
def tw5619714423077084075:=()
def tw16039869469171942729:=()
def tw15577320421877138109:=()
def tw9278091955931776515:=()
def tw6141009921213821678:=()
def tw610584866117800608:=()
def tw11593068804524984627:=()
def tw15682819542880866853:=()
def tw14874573507427760922:=()
def tw1337679453356220690:=()
def tw11552713473007271568:=()
def tw5635902726210211761:=()
def tw8401751214120100055:=()
def tw2586321979595332887:=()
def tw17523036022329725107:=()
def tw2806219542089294087:=()
def tw14959865760543346803:=()
def tw13602857488563715961:=()
def tw14054743240195675505:=()
def tw10362494062575658566:=()
def tw6539569991294066484:=()
def tw7209325185415817029:=()
def tw13540552419503620958:=()
def tw7327632305697603745:=()
def tw10914253014667281923:=()
def tw12300148425719011800:=()
def tw13027826808477784532:=()
def tw11974886996422732107:=()
def tw11233834713621295836:=()
def tw17511107585415734171:=()
def tw13200685817356931120:=()
def tw10843573420264986459:=()
def tw17504182043916173152:=()
def tw14888087434745255929:=()
def tw6203287362015625685:=()
def tw7484471470899822941:=()
def tw15781489005581476469:=()
def tw6276172423935370100:=()
def tw7762756724617277160:=()
def tw2197511255541571655:=()
def tw5782798695075292885:=()
def tw16118328538036917704:=()
def tw6234152807894474182:=()
def tw8602417934026845783:=()
def tw2864283244316946341:=()
def tw108503681943402825:=()
def tw10534280632033477102:=()
def tw3681110928004362442:=()
def tw16826696318142475896:=()
def tw9784085102592208292:=()
def tw4325723845788384564:=()
def tw891439350067077794:=()
def tw3094919653581623469:=()
def tw11317551658572694641:=()
def tw5691782981996110401:=()
def tw2710982572816745633:=()
def tw6460389840876882174:=()
def tw7012421989323204654:=()
def tw1585525097292277576:=()
def tw13476903553867343587:=()
def tw6485615141979441611:=()
def tw7009280357518103070:=()
def tw15725735280343797391:=()
def tw12589950320918973566:=()
def tw2379040133317601506:=()
def tw3094769789324520105:=()
def tw6990031027595968123:=()
def tw2301781168885008348:=()
def tw2240093113530743048:=()
def tw5083423246241290668:=()
def tw4824433416627286595:=()
def tw2084839854853765750:=()
def tw4338161012773574040:=()
def tw6328620401585669541:=()
def tw8093397474817581911:=()
def tw16930596099430134269:=()
def tw17953770739623110644:=()
end PySem.W.Fast
set_option maxRecDepth 100000 in
set_option maxHeartbeats 0 in
theorem PySem.Challenge.cw_tabulreports_s05_planned_holds : PySem.Challenge.rw_tabulreports_s05_planned.Holds := by
 w_on;k_headS;(case hw=>exact⟨[.int 0,.list [],.list [],.list []],by decide +kernel,by decide +kernel⟩)
 k_fillS
 refine L2.vz (r:=PySem.Challenge.rw_tabulreports_s05_planned) (k:=10) (CX:=L2.CX0) (ps:=["strange", "text", "legend", "deck"]) (sp:=Jd.BJ) (by decide +kernel) rfl rfl ⟨rfl,by decide,by decide⟩ (fun w h Y=>PySem.W.kIn_of Y) ?F ?S (fun _ _ _ _ z=>z)
 case F=>
  intro w mg fa h Y KX G hmg;have dCan:Jd.ay (L2.KOf KX) mg "can_begin" Jd.Cg:=by
   dsimp only[L2.KOf];refine' Jd.aK KX G ?a ?l ?c ?k
   (case a=>k_is);(case l=>k_is);(case c=>k_is);(case k=>k_is)
  have dFig:Jd.ay (L2.KOf KX) mg "figures_end" Jd.DN:=by
   dsimp only[L2.KOf];refine' Jd.aK KX G ?a ?l ?c ?k
   (case a=>k_is);(case l=>k_is);(case c=>k_is);(case k=>k_is)
  have dNum:Jd.ay (L2.KOf KX) mg "number_of" Jd.DH:=by
   dsimp only[L2.KOf];refine' Jd.aK KX G ?a ?l ?c ?k
   (case a=>k_is);(case l=>k_is);(case c=>k_is);(case k=>k_is)
  have dRight:Jd.ay (L2.KOf KX) mg "right_end" Jd.qH:=by
   dsimp only[L2.KOf];refine' Jd.aK KX G ?a ?l ?c ?k
   (case a=>k_is);(case l=>k_is);(case c=>k_is);(case k=>k_is)
  have dWhole:Jd.ay (L2.KOf KX) mg "is_whole" Jd.qL:=by
   dsimp only[L2.KOf];refine' Jd.aK KX G ?a ?l ?c ?k
   (case a=>k_is);(case l=>k_is);(case c=>k_is);(case k=>k_is)
  have dBy:Jd.ay (L2.KOf KX) mg "read_by" Jd.sBy:=by
   dsimp only[L2.KOf];refine' Jd.aK KX G ?a ?l ?c ?k
   (case a=>k_is);(case l=>k_is);(case c=>k_is);(case k=>k_is)
  have dLine:Jd.ay (L2.KOf KX) mg "read_line" Jd.wd:=by
   dsimp only[L2.KOf];refine' Jd.aK KX G ?a ?l ?c ?k
   (case a=>k_is);(case l=>k_is);(case c=>k_is);(case k=>k_is)
  have dSplit:Jd.ay (L2.KOf KX) mg "split_lines" Jd.qt:=by
   dsimp only[L2.KOf];refine' Jd.aK KX G ?a ?l ?c ?k
   (case a=>k_is);(case l=>k_is);(case c=>k_is);(case k=>k_is)
  have dParts:Jd.ay (L2.KOf KX) mg "read_parts" Jd.qJ:=by
   dsimp only[L2.KOf];refine' Jd.aK KX G ?a ?l ?c ?k
   (case a=>k_is);(case l=>k_is);(case c=>k_is);(case k=>k_is)
  have dPass:Jd.ay (L2.KOf KX) mg "part_passes" Jd.wo:=by
   dsimp only[L2.KOf];refine' Jd.aK KX G ?a ?l ?c ?k
   (case a=>k_is);(case l=>k_is);(case c=>k_is);(case k=>k_is)
  have dPasses:Jd.ay (L2.KOf KX) mg "report_passes" Jd.kg:=by
   dsimp only[L2.KOf];refine' Jd.aK KX G ?a ?l ?c ?k
   (case a=>k_is);(case l=>k_is);(case c=>k_is);(case k=>k_is)
  have dField:Jd.ay (L2.KOf KX) mg "has_field" Jd.qZ:=by
   dsimp only[L2.KOf];refine' Jd.aK KX G ?a ?l ?c ?k
   (case a=>k_is);(case l=>k_is);(case c=>k_is);(case k=>k_is)
  have dRoom:Jd.ay (L2.KOf KX) mg "has_room" Jd.wg:=by
   dsimp only[L2.KOf];refine' Jd.aK KX G ?a ?l ?c ?k
   (case a=>k_is);(case l=>k_is);(case c=>k_is);(case k=>k_is)
  have dUnfit:Jd.ay (L2.KOf KX) mg "first_unfit" Jd.ou:=by
   dsimp only[L2.KOf];refine' Jd.aK KX G ?a ?l ?c ?k
   (case a=>k_is);(case l=>k_is);(case c=>k_is);(case k=>k_is)
  have dWrong:Jd.ay (L2.KOf KX) mg "wrong_bytes_fault" Jd.rO:=by
   dsimp only[L2.KOf];refine' Jd.aK KX G ?a ?l ?c ?k
   (case a=>k_is);(case l=>k_is);(case c=>k_is);(case k=>k_is)
  have dFault:Jd.ay (L2.KOf KX) mg "find_fault" Jd.qB:=by
   dsimp only[L2.KOf];refine' Jd.aK KX G ?a ?l ?c ?k
   (case a=>k_is);(case l=>k_is);(case c=>k_is);(case k=>k_is)
  have dReport:Jd.ay (L2.KOf KX) mg "read_report" Jd.lV:=by
   dsimp only[L2.KOf];refine' Jd.aK KX G ?a ?l ?c ?k
   (case a=>k_is);(case l=>k_is);(case c=>k_is);(case k=>k_is)
  have dRowH:Jd.ay (L2.KOf KX) mg "row_holes" Jd.we:=by
   dsimp only[L2.KOf];refine' Jd.aK KX G ?a ?l ?c ?k
   (case a=>k_is);(case l=>k_is);(case c=>k_is);(case k=>k_is)
  have dFigH:Jd.ay (L2.KOf KX) mg "figure_holes" Jd.xf:=by
   dsimp only[L2.KOf];refine' Jd.aK KX G ?a ?l ?c ?k
   (case a=>k_is);(case l=>k_is);(case c=>k_is);(case k=>k_is)
  have dCode:Jd.ay (L2.KOf KX) mg "code_holes" Jd.wz:=by
   dsimp only[L2.KOf];refine' Jd.aK KX G ?a ?l ?c ?k
   (case a=>k_is);(case l=>k_is);(case c=>k_is);(case k=>k_is)
  have dByte:Jd.ay (L2.KOf KX) mg "is_byte" Jd.wY:=by
   dsimp only[L2.KOf];refine' Jd.aK KX G ?a ?l ?c ?k
   (case a=>k_is);(case l=>k_is);(case c=>k_is);(case k=>k_is)
  have dLeg:Jd.ay (L2.KOf KX) mg "is_legend" Jd.zN:=by
   dsimp only[L2.KOf];refine' Jd.aK KX G ?a ?l ?c ?k
   (case a=>k_is);(case l=>k_is);(case c=>k_is);(case k=>k_is)
  have dSigns:Jd.ay (L2.KOf KX) mg "read_signs" Jd.qi:=by
   dsimp only[L2.KOf];refine' Jd.aK KX G ?a ?l ?c ?k
   (case a=>k_is);(case l=>k_is);(case c=>k_is);(case k=>k_is)
  have dWs:Jd.ay (L2.KOf KX) mg "wheres_of" Jd.sWs:=by
   dsimp only[L2.KOf];refine' Jd.aK KX G ?a ?l ?c ?k
   (case a=>k_is);(case l=>k_is);(case c=>k_is);(case k=>k_is)
  have dKs:Jd.ay (L2.KOf KX) mg "keys_of" Jd.sKs:=by
   dsimp only[L2.KOf];refine' Jd.aK KX G ?a ?l ?c ?k
   (case a=>k_is);(case l=>k_is);(case c=>k_is);(case k=>k_is)
  have dTs:Jd.ay (L2.KOf KX) mg "totals_of" Jd.sTs:=by
   dsimp only[L2.KOf];refine' Jd.aK KX G ?a ?l ?c ?k
   (case a=>k_is);(case l=>k_is);(case c=>k_is);(case k=>k_is)
  have dSs:Jd.ay (L2.KOf KX) mg "seens_of" Jd.sSs:=by
   dsimp only[L2.KOf];refine' Jd.aK KX G ?a ?l ?c ?k
   (case a=>k_is);(case l=>k_is);(case c=>k_is);(case k=>k_is)
  have dLst:Jd.ay (L2.KOf KX) mg "listing_of" Jd.Cd:=by
   dsimp only[L2.KOf];refine' Jd.aK KX G ?a ?l ?c ?k
   (case a=>k_is);(case l=>k_is);(case c=>k_is);(case k=>k_is)
  have dWires:Jd.ay (L2.KOf KX) mg "where_wires" Jd.qj:=by
   dsimp only[L2.KOf];refine' Jd.aK KX G ?a ?l ?c ?k
   (case a=>k_is);(case l=>k_is);(case c=>k_is);(case k=>k_is)
  have dPanel:Jd.ay (L2.KOf KX) mg "plan_panel" Jd.qF:=by
   dsimp only[L2.KOf];refine' Jd.aK KX G ?a ?l ?c ?k
   (case a=>k_is);(case l=>k_is);(case c=>k_is);(case k=>k_is)
  have dKL:Jd.ay (L2.KOf KX) mg "key_lines" Jd.j7:=by
   dsimp only[L2.KOf];refine' Jd.aK KX G ?a ?l ?c ?k
   (case a=>k_is);(case l=>k_is);(case c=>k_is);(case k=>k_is)
  have dJob:Jd.ay (L2.KOf KX) mg "plan_job" Jd.Eg:=by
   dsimp only[L2.KOf];refine' Jd.aK KX G ?a ?l ?c ?k
   (case a=>k_is);(case l=>k_is);(case c=>k_is);(case k=>k_is)
  have dHead:Jd.ay (L2.KOf KX) mg "setup_head" Jd.xo:=by
   dsimp only[L2.KOf];refine' Jd.aK KX G ?a ?l ?c ?k
   (case a=>k_is);(case l=>k_is);(case c=>k_is);(case k=>k_is)
  have dLevels:Jd.ay (L2.KOf KX) mg "setup_levels" Jd.md:=by
   dsimp only[L2.KOf];refine' Jd.aK KX G ?a ?l ?c ?k
   (case a=>k_is);(case l=>k_is);(case c=>k_is);(case k=>k_is)
  have dCounter:Jd.ay (L2.KOf KX) mg "total_counter" Jd.kb:=by
   dsimp only[L2.KOf];refine' Jd.aK KX G ?a ?l ?c ?k
   (case a=>k_is);(case l=>k_is);(case c=>k_is);(case k=>k_is)
  have dCounters:Jd.ay (L2.KOf KX) mg "setup_counters" Jd.gQ:=by
   dsimp only[L2.KOf];refine' Jd.aK KX G ?a ?l ?c ?k
   (case a=>k_is);(case l=>k_is);(case c=>k_is);(case k=>k_is)
  have dThing:Jd.ay (L2.KOf KX) mg "field_thing" Jd.qX:=by
   dsimp only[L2.KOf];refine' Jd.aK KX G ?a ?l ?c ?k
   (case a=>k_is);(case l=>k_is);(case c=>k_is);(case k=>k_is)
  have dFrom:Jd.ay (L2.KOf KX) mg "keys_from" Jd.xJ:=by
   dsimp only[L2.KOf];refine' Jd.aK KX G ?a ?l ?c ?k
   (case a=>k_is);(case l=>k_is);(case c=>k_is);(case k=>k_is)
  have dThings:Jd.ay (L2.KOf KX) mg "setup_things" Jd.j2:=by
   dsimp only[L2.KOf];refine' Jd.aK KX G ?a ?l ?c ?k
   (case a=>k_is);(case l=>k_is);(case c=>k_is);(case k=>k_is)
  have dMake:Jd.ay (L2.KOf KX) mg "make_plan" Jd.wk:=by
   dsimp only[L2.KOf];refine' Jd.aK KX G ?a ?l ?c ?k
   (case a=>k_is);(case l=>k_is);(case c=>k_is);(case k=>k_is)
  have dHasR:Jd.ay (L2.KOf KX) mg "has_row" Jd.wK:=by
   dsimp only[L2.KOf];refine' Jd.aK KX G ?a ?l ?c ?k
   (case a=>k_is);(case l=>k_is);(case c=>k_is);(case k=>k_is)
  have dTopR:Jd.ay (L2.KOf KX) mg "top_rank" Jd.wc:=by
   dsimp only[L2.KOf];refine' Jd.aK KX G ?a ?l ?c ?k
   (case a=>k_is);(case l=>k_is);(case c=>k_is);(case k=>k_is)
  have dFldOf:Jd.ay (L2.KOf KX) mg "field_of" Jd.qK:=by
   dsimp only[L2.KOf];refine' Jd.aK KX G ?a ?l ?c ?k
   (case a=>k_is);(case l=>k_is);(case c=>k_is);(case k=>k_is)
  have dRdC:Jd.ay (L2.KOf KX) mg "read_card" Jd.CA:=by
   dsimp only[L2.KOf];refine' Jd.aK KX G ?a ?l ?c ?k
   (case a=>k_is);(case l=>k_is);(case c=>k_is);(case k=>k_is)
  have dRdD:Jd.ay (L2.KOf KX) mg "read_deck" Jd.C0:=by
   dsimp only[L2.KOf];refine' Jd.aK KX G ?a ?l ?c ?k
   (case a=>k_is);(case l=>k_is);(case c=>k_is);(case k=>k_is)
  have dFigV:Jd.ay (L2.KOf KX) mg "figures_value" Jd.wu:=by
   dsimp only[L2.KOf];refine' Jd.aK KX G ?a ?l ?c ?k
   (case a=>k_is);(case l=>k_is);(case c=>k_is);(case k=>k_is)
  have dAmt:Jd.ay (L2.KOf KX) mg "amount_of" Jd.DE:=by
   dsimp only[L2.KOf];refine' Jd.aK KX G ?a ?l ?c ?k
   (case a=>k_is);(case l=>k_is);(case c=>k_is);(case k=>k_is)
  have dBlk:Jd.ay (L2.KOf KX) mg "blank_line" Jd.CB:=by
   dsimp only[L2.KOf];refine' Jd.aK KX G ?a ?l ?c ?k
   (case a=>k_is);(case l=>k_is);(case c=>k_is);(case k=>k_is)
  have dPut:Jd.ay (L2.KOf KX) mg "put_upon" Jd.Cm:=by
   dsimp only[L2.KOf];refine' Jd.aK KX G ?a ?l ?c ?k
   (case a=>k_is);(case l=>k_is);(case c=>k_is);(case k=>k_is)
  have dShN:Jd.ay (L2.KOf KX) mg "show_number" Jd.zI:=by
   dsimp only[L2.KOf];refine' Jd.aK KX G ?a ?l ?c ?k
   (case a=>k_is);(case l=>k_is);(case c=>k_is);(case k=>k_is)
  have dAcc:Jd.ay (L2.KOf KX) mg "account_cards" Jd.E8:=by
   dsimp only[L2.KOf];refine' Jd.aK KX G ?a ?l ?c ?k
   (case a=>k_is);(case l=>k_is);(case c=>k_is);(case k=>k_is)
  have dInto:Jd.ay (L2.KOf KX) mg "what_goes_into" Jd.wj:=by
   dsimp only[L2.KOf];refine' Jd.aK KX G ?a ?l ?c ?k
   (case a=>k_is);(case l=>k_is);(case c=>k_is);(case k=>k_is)
  have dSent:Jd.ay (L2.KOf KX) mg "what_is_sent" Jd.xk:=by
   dsimp only[L2.KOf];refine' Jd.aK KX G ?a ?l ?c ?k
   (case a=>k_is);(case l=>k_is);(case c=>k_is);(case k=>k_is)
  have dCho:Jd.ay (L2.KOf KX) mg "is_chosen" Jd.Dx:=by
   dsimp only[L2.KOf];refine' Jd.aK KX G ?a ?l ?c ?k
   (case a=>k_is);(case l=>k_is);(case c=>k_is);(case k=>k_is)
  have dRmOf:Jd.ay (L2.KOf KX) mg "room_of" Jd.wq:=by
   dsimp only[L2.KOf];refine' Jd.aK KX G ?a ?l ?c ?k
   (case a=>k_is);(case l=>k_is);(case c=>k_is);(case k=>k_is)
  have dDoC:Jd.ay (L2.KOf KX) mg "do_choose" Jd.yG:=by
   dsimp only[L2.KOf];refine' Jd.aK KX G ?a ?l ?c ?k
   (case a=>k_is);(case l=>k_is);(case c=>k_is);(case k=>k_is)
  have dDoP:Jd.ay (L2.KOf KX) mg "do_pass" Jd.B8:=by
   dsimp only[L2.KOf];refine' Jd.aK KX G ?a ?l ?c ?k
   (case a=>k_is);(case l=>k_is);(case c=>k_is);(case k=>k_is)
  have dDoA:Jd.ay (L2.KOf KX) mg "do_account" Jd.BV:=by
   dsimp only[L2.KOf];refine' Jd.aK KX G ?a ?l ?c ?k
   (case a=>k_is);(case l=>k_is);(case c=>k_is);(case k=>k_is)
  have dDoL:Jd.ay (L2.KOf KX) mg "do_line" Jd.Df:=by
   dsimp only[L2.KOf];refine' Jd.aK KX G ?a ?l ?c ?k
   (case a=>k_is);(case l=>k_is);(case c=>k_is);(case k=>k_is)
  have dRun:Jd.ay (L2.KOf KX) mg "run_job" Jd.DJ:=by
   dsimp only[L2.KOf];refine' Jd.aK KX G ?a ?l ?c ?k
   (case a=>k_is);(case l=>k_is);(case c=>k_is);(case k=>k_is)
  have dJoinP:Jd.ay (L2.KOf KX) mg "join_rows" Jd.xC:=by
   dsimp only[L2.KOf];refine' Jd.aK KX G ?a ?l ?c ?k
   (case a=>k_is);(case l=>k_is);(case c=>k_is);(case k=>k_is)
  have dPld:Jd.ay (L2.KOf KX) mg "planned" Jd.Dy:=by
   dsimp only[L2.KOf];refine' Jd.aK KX G ?a ?l ?c ?k
   (case a=>k_is);(case l=>k_is);(case c=>k_is);(case k=>k_is)
  obtain⟨CP,cP,nP0,nP1,nP2⟩:∃C,Jd.eT (L2.KOf KX) mg "Part" "Part.__init__" Jd.rB C/\L2.aE (L2.KOf KX) C "word" /\ L2.aE (L2.KOf KX) C "ending" /\ L2.aE (L2.KOf KX) C "numbers" := by
   dsimp only[L2.KOf];refine'⟨_,Jd.iQ KX G ?aC ?a ?i ?l ?c ?k ?pg ?hd ?po ?sa ?mk ?kc,?n0,?n1,?n2⟩
   (case aC=>k_is);(case a=>k_is);(case i=>k_is);(case l=>k_is);(case c=>k_is);(case k=>k_is);(case pg=>k_is);(case hd=>k_is);(case po=>k_is);(case sa=>k_is);(case mk=>k_is);(case kc=>k_is)
   (case n0=>(unfold L2.aE;k_is))
   (case n1=>(unfold L2.aE;k_is))
   (case n2=>(unfold L2.aE;k_is))
  obtain⟨CR,cR,nR0,nR1⟩:∃C,Jd.eT (L2.KOf KX) mg "Reading" "Reading.__init__" Jd.qy C/\L2.aE (L2.KOf KX) C "right" /\ L2.aE (L2.KOf KX) C "part" := by
   dsimp only[L2.KOf];refine'⟨_,Jd.iQ KX G ?aC ?a ?i ?l ?c ?k ?pg ?hd ?po ?sa ?mk ?kc,?n0,?n1⟩
   (case aC=>k_is);(case a=>k_is);(case i=>k_is);(case l=>k_is);(case c=>k_is);(case k=>k_is);(case pg=>k_is);(case hd=>k_is);(case po=>k_is);(case sa=>k_is);(case mk=>k_is);(case kc=>k_is)
   (case n0=>(unfold L2.aE;k_is))
   (case n1=>(unfold L2.aE;k_is))
  obtain⟨CT,cT,nT0,nT1⟩:∃C,Jd.eT (L2.KOf KX) mg "Report" "Report.__init__" Jd.qm C/\L2.aE (L2.KOf KX) C "parts" /\ L2.aE (L2.KOf KX) C "refusal" := by
   dsimp only[L2.KOf];refine'⟨_,Jd.iQ KX G ?aC ?a ?i ?l ?c ?k ?pg ?hd ?po ?sa ?mk ?kc,?n0,?n1⟩
   (case aC=>k_is);(case a=>k_is);(case i=>k_is);(case l=>k_is);(case c=>k_is);(case k=>k_is);(case pg=>k_is);(case hd=>k_is);(case po=>k_is);(case sa=>k_is);(case mk=>k_is);(case kc=>k_is)
   (case n0=>(unfold L2.aE;k_is))
   (case n1=>(unfold L2.aE;k_is))
  obtain⟨CS,cS,nS0,nS1,mShow⟩:∃C,Jd.eT (L2.KOf KX) mg "Signs" "Signs.__init__" Jd.rD C/\L2.aE (L2.KOf KX) C "strange" /\ L2.aE (L2.KOf KX) C "by_holes" /\ Jd.cB (L2.KOf KX) C "show_field" "Signs.show_field" Jd.uq:=by
   dsimp only[L2.KOf];refine'⟨_,Jd.iQ KX G ?aC ?a ?i ?l ?c ?k ?pg ?hd ?po ?sa ?mk ?kc,?n0,?n1,Jd.f9 ?maShow ?miShow ?mlShow ?mcShow ?mkShow⟩
   (case aC=>k_is);(case a=>k_is);(case i=>k_is);(case l=>k_is);(case c=>k_is);(case k=>k_is);(case pg=>k_is);(case hd=>k_is);(case po=>k_is);(case sa=>k_is);(case mk=>k_is);(case kc=>k_is)
   (case n0=>(unfold L2.aE;k_is))
   (case n1=>(unfold L2.aE;k_is))
   (case maShow=>k_is);(case miShow=>k_is);(case mlShow=>k_is);(case mcShow=>k_is);(case mkShow=>k_is)
  obtain⟨CU,cU,nU0,nU1,nU2,nU3⟩:∃C,Jd.eT (L2.KOf KX) mg "Setup" "Setup.__init__" Jd.qU C/\L2.aE (L2.KOf KX) C "head" /\ L2.aE (L2.KOf KX) C "signs" /\ L2.aE (L2.KOf KX) C "counters" /\ L2.aE (L2.KOf KX) C "things" := by
   dsimp only[L2.KOf];refine'⟨_,Jd.iQ KX G ?aC ?a ?i ?l ?c ?k ?pg ?hd ?po ?sa ?mk ?kc,?n0,?n1,?n2,?n3⟩
   (case aC=>k_is);(case a=>k_is);(case i=>k_is);(case l=>k_is);(case c=>k_is);(case k=>k_is);(case pg=>k_is);(case hd=>k_is);(case po=>k_is);(case sa=>k_is);(case mk=>k_is);(case kc=>k_is)
   (case n0=>(unfold L2.aE;k_is))
   (case n1=>(unfold L2.aE;k_is))
   (case n2=>(unfold L2.aE;k_is))
   (case n3=>(unfold L2.aE;k_is))
  obtain⟨CL,cL,nL0,nL1,nL2,nL3⟩:∃C,Jd.eT (L2.KOf KX) mg "Plan" "Plan.__init__" Jd.r9 C/\L2.aE (L2.KOf KX) C "passes" /\ L2.aE (L2.KOf KX) C "panel" /\ L2.aE (L2.KOf KX) C "setup" /\ L2.aE (L2.KOf KX) C "job" := by
   dsimp only[L2.KOf];refine'⟨_,Jd.iQ KX G ?aC ?a ?i ?l ?c ?k ?pg ?hd ?po ?sa ?mk ?kc,?n0,?n1,?n2,?n3⟩
   (case aC=>k_is);(case a=>k_is);(case i=>k_is);(case l=>k_is);(case c=>k_is);(case k=>k_is);(case pg=>k_is);(case hd=>k_is);(case po=>k_is);(case sa=>k_is);(case mk=>k_is);(case kc=>k_is)
   (case n0=>(unfold L2.aE;k_is))
   (case n1=>(unfold L2.aE;k_is))
   (case n2=>(unfold L2.aE;k_is))
   (case n3=>(unfold L2.aE;k_is))
  obtain⟨CM,cM,nM0,nM1,nM2,nM3,mEndL,mPrt,mMkT,mCnt,mTak,mMkE⟩:∃C,Jd.eT (L2.KOf KX) mg "Machine" "Machine.__init__" Jd.mD C/\L2.aE (L2.KOf KX) C "setup" /\ L2.aE (L2.KOf KX) C "counts" /\ L2.aE (L2.KOf KX) C "last_card" /\ L2.aE (L2.KOf KX) C "lines" /\ Jd.cB (L2.KOf KX) C "ended_level" "Machine.ended_level" Jd.xT/\Jd.cB (L2.KOf KX) C "print_line" "Machine.print_line" Jd.Dq/\Jd.cB (L2.KOf KX) C "make_total" "Machine.make_total" Jd.zq/\Jd.cB (L2.KOf KX) C "count_card" "Machine.count_card" Jd.Dl/\Jd.cB (L2.KOf KX) C "take_card" "Machine.take_card" Jd.CF/\Jd.cB (L2.KOf KX) C "make_end" "Machine.make_end" Jd.Ec:=by
   dsimp only[L2.KOf];refine'⟨_,Jd.iQ KX G ?aC ?a ?i ?l ?c ?k ?pg ?hd ?po ?sa ?mk ?kc,?n0,?n1,?n2,?n3,Jd.f9 ?maEndL ?miEndL ?mlEndL ?mcEndL ?mkEndL,Jd.f9 ?maPrt ?miPrt ?mlPrt ?mcPrt ?mkPrt,Jd.f9 ?maMkT ?miMkT ?mlMkT ?mcMkT ?mkMkT,Jd.f9 ?maCnt ?miCnt ?mlCnt ?mcCnt ?mkCnt,Jd.f9 ?maTak ?miTak ?mlTak ?mcTak ?mkTak,Jd.f9 ?maMkE ?miMkE ?mlMkE ?mcMkE ?mkMkE⟩
   (case aC=>k_is);(case a=>k_is);(case i=>k_is);(case l=>k_is);(case c=>k_is);(case k=>k_is);(case pg=>k_is);(case hd=>k_is);(case po=>k_is);(case sa=>k_is);(case mk=>k_is);(case kc=>k_is)
   (case n0=>(unfold L2.aE;k_is))
   (case n1=>(unfold L2.aE;k_is))
   (case n2=>(unfold L2.aE;k_is))
   (case n3=>(unfold L2.aE;k_is))
   (case maEndL=>k_is);(case miEndL=>k_is);(case mlEndL=>k_is);(case mcEndL=>k_is);(case mkEndL=>k_is)
   (case maPrt=>k_is);(case miPrt=>k_is);(case mlPrt=>k_is);(case mcPrt=>k_is);(case mkPrt=>k_is)
   (case maMkT=>k_is);(case miMkT=>k_is);(case mlMkT=>k_is);(case mcMkT=>k_is);(case mkMkT=>k_is)
   (case maCnt=>k_is);(case miCnt=>k_is);(case mlCnt=>k_is);(case mcCnt=>k_is);(case mkCnt=>k_is)
   (case maTak=>k_is);(case miTak=>k_is);(case mlTak=>k_is);(case mcTak=>k_is);(case mkTak=>k_is)
   (case maMkE=>k_is);(case miMkE=>k_is);(case mlMkE=>k_is);(case mcMkE=>k_is);(case mkMkE=>k_is)
  obtain⟨CO,cO,nO0,nO1,nO2,nO3,mLook,mOut,mBeh⟩:∃C,Jd.eT (L2.KOf KX) mg "Room" "Room.__init__" Jd.qk C/\L2.aE (L2.KOf KX) C "trays" /\ L2.aE (L2.KOf KX) C "panels" /\ L2.aE (L2.KOf KX) C "setups" /\ L2.aE (L2.KOf KX) C "paper" /\ Jd.cB (L2.KOf KX) C "look_into" "Room.look_into" Jd.xb/\Jd.cB (L2.KOf KX) C "take_out" "Room.take_out" Jd.C2/\Jd.cB (L2.KOf KX) C "put_behind" "Room.put_behind" Jd.Cn:=by
   dsimp only[L2.KOf];refine'⟨_,Jd.iQ KX G ?aC ?a ?i ?l ?c ?k ?pg ?hd ?po ?sa ?mk ?kc,?n0,?n1,?n2,?n3,Jd.f9 ?maLook ?miLook ?mlLook ?mcLook ?mkLook,Jd.f9 ?maOut ?miOut ?mlOut ?mcOut ?mkOut,Jd.f9 ?maBeh ?miBeh ?mlBeh ?mcBeh ?mkBeh⟩
   (case aC=>k_is);(case a=>k_is);(case i=>k_is);(case l=>k_is);(case c=>k_is);(case k=>k_is);(case pg=>k_is);(case hd=>k_is);(case po=>k_is);(case sa=>k_is);(case mk=>k_is);(case kc=>k_is)
   (case n0=>(unfold L2.aE;k_is))
   (case n1=>(unfold L2.aE;k_is))
   (case n2=>(unfold L2.aE;k_is))
   (case n3=>(unfold L2.aE;k_is))
   (case maLook=>k_is);(case miLook=>k_is);(case mlLook=>k_is);(case mcLook=>k_is);(case mkLook=>k_is)
   (case maOut=>k_is);(case miOut=>k_is);(case mlOut=>k_is);(case mcOut=>k_is);(case mkOut=>k_is)
   (case maBeh=>k_is);(case miBeh=>k_is);(case mlBeh=>k_is);(case mcBeh=>k_is);(case mkBeh=>k_is)
  obtain⟨aF,gF,sF⟩:∃p,mg "FORMS" = some (.ref p)/\∀H,L2.SqT (L2.KOf KX) H p ((List.range 10).map fun i=>L2.V.str (Jd.fu i)):=by
   dsimp only[L2.KOf];refine' Jd.zL KX G ?a ?l ?v ?z
   (case a=>k_is);(case l=>k_is);(case v=>rfl);(case z=>decide)
  obtain⟨aM,gM,sM⟩:∃p,mg "MOST_OF_SORT" = some (.ref p)/\∀H,L2.SqT (L2.KOf KX) H p [.int 16,.int 3,.int 8,.int 16,.int 1]:=by
   dsimp only[L2.KOf];refine' Jd.zL KX G ?a ?l ?v ?z
   (case a=>k_is);(case l=>k_is);(case v=>rfl);(case z=>decide)
  obtain⟨aS,gS,dS⟩:∃p,mg "SORTS" = some (.ref p)/\L2.gz (L2.KOf KX) w p Jd.sW:=by
   dsimp only[L2.KOf];refine' Jd.DU KX G ?a ?l ?z
   (case a=>k_is);(case l=>k_is);(case z=>decide)
  obtain⟨aR,gR,dR⟩:∃p,mg "RANGES" = some (.ref p)/\∃kvs,L2.gz (L2.KOf KX) w p kvs/\∀c,(match JM.bz c with
    |some (lo,hi)=>∃p,kvs.lookup (⟨#[c]⟩:Str)=some (.ref p)/\∀H,L2.SqT (L2.KOf KX) H p [.int (lo:Nat),.int (hi:Nat)]
    |none=>kvs.lookup (⟨#[c]⟩:Str)=none):=by
   dsimp only[L2.KOf];refine' Jd.zt KX G ?a ?l ?z (Jd.pO ?l1 ?v1 ?z1) (Jd.pO ?l2 ?v2 ?z2) (Jd.pO ?l3 ?v3 ?z3) (Jd.pO ?l4 ?v4 ?z4) (Jd.pO ?l5 ?v5 ?z5)
   (case a=>k_is);(case l=>k_is);(case z=>decide)
   (case l1=>k_is);(case v1=>rfl);(case z1=>decide)
   (case l2=>k_is);(case v2=>rfl);(case z2=>decide)
   (case l3=>k_is);(case v3=>rfl);(case z3=>decide)
   (case l4=>k_is);(case v4=>rfl);(case z4=>decide)
   (case l5=>k_is);(case v5=>rfl);(case z5=>decide)
  obtain⟨aG,gG,dG⟩:∃p,mg "FIGURES" = some (.ref p)/\L2.jA (L2.KOf KX) p Jd.mr:=by
   dsimp only[L2.KOf];refine' Jd.GQ KX G ?a ?l ?z
   (case a=>k_is);(case l=>k_is);(case z=>decide)
  obtain⟨aL,gL,dL⟩:∃p,mg "LISTINGS" = some (.ref p)/\L2.gz (L2.KOf KX) w p Jd.nV:=by
   dsimp only[L2.KOf];refine' Jd.uU KX G ?a ?l ?z
   (case a=>k_is);(case l=>k_is);(case z=>decide)
  obtain⟨kEndu,kEnd⟩:(∃u,mg "LINE_END" = some (.int 10 u)):=by
   refine' Jd.aN KX G ?a
   (case a=>k_is)
  obtain⟨kNoughtu,kNought⟩:(∃u,mg "NOUGHT" = some (.int 48 u)):=by
   refine' Jd.aN KX G ?a
   (case a=>k_is)
  obtain⟨kNineu,kNine⟩:(∃u,mg "NINE" = some (.int 57 u)):=by
   refine' Jd.aN KX G ?a
   (case a=>k_is)
  obtain⟨kBytesu,kBytes⟩:(∃u,mg "MOST_BYTES" = some (.int 4096 u)):=by
   refine' Jd.aN KX G ?a
   (case a=>k_is)
  obtain⟨kLinesu,kLines⟩:(∃u,mg "MOST_LINES" = some (.int 64 u)):=by
   refine' Jd.aN KX G ?a
   (case a=>k_is)
  obtain⟨kPassesu,kPasses⟩:(∃u,mg "MOST_PASSES" = some (.int 250 u)):=by
   refine' Jd.aN KX G ?a
   (case a=>k_is)
  obtain⟨kColsu,kCols⟩:(∃u,mg "COLUMNS" = some (.int 80 u)):=by
   refine' Jd.aN KX G ?a
   (case a=>k_is)
  obtain⟨kAmtu,kAmt⟩:(∃u,mg "MOST_AMOUNT_COLUMNS" = some (.int 18 u)):=by
   refine' Jd.aN KX G ?a
   (case a=>k_is)
  obtain⟨kPlacesu,kPlaces⟩:(∃u,mg "MOST_PLACES" = some (.int 132 u)):=by
   refine' Jd.aN KX G ?a
   (case a=>k_is)
  obtain⟨kLongu,kLong⟩:(∃u,mg "TOO_LONG" = some (.int (-1) u)):=by
   refine' Jd.aN KX G ?a
   (case a=>k_is)
  obtain⟨kFaultyu,kFaulty⟩:(∃u,mg "FAULTY" = some (.int (-6) u)):=by
   refine' Jd.aN KX G ?a
   (case a=>k_is)
  obtain⟨kCodesu,kCodes⟩:(∃u,mg "CODES" = some (.int 64 u)):=by
   refine' Jd.aN KX G ?a
   (case a=>k_is)
  obtain⟨kByteu,kByte⟩:(∃u,mg "MOST_BYTE" = some (.int 255 u)):=by
   refine' Jd.aN KX G ?a
   (case a=>k_is)
  obtain⟨kNoSu,kNoS⟩:(∃u,mg "NO_SIGNS" = some (.int (-2) u)):=by
   refine' Jd.aN KX G ?a
   (case a=>k_is)
  obtain⟨kBoxu,kBox⟩:(∃u,mg "FIRST_BOX" = some (.int 16 u)):=by
   refine' Jd.aN KX G ?a
   (case a=>k_is)
  obtain⟨kRowsu,kRows⟩:(∃u,mg "ROWS" = some (.int 12 u)):=by
   refine' Jd.aN KX G ?a
   (case a=>k_is)
  obtain⟨kAllRu,kAllR⟩:(∃u,mg "ALL_ROWS" = some (.int 4095 u)):=by
   refine' Jd.aN KX G ?a
   (case a=>k_is)
  obtain⟨kCtlu,kCtl⟩:(∃u,mg "CONTROL_NUMBERS" = some (.int 6 u)):=by
   refine' Jd.aN KX G ?a
   (case a=>k_is)
  obtain⟨kNoPu,kNoP⟩:(∃u,mg "NO_PUNCH" = some (.int 0 u)):=by
   refine' Jd.aN KX G ?a
   (case a=>k_is)
  obtain⟨kCardu,kCard⟩:(∃u,mg "CARD_LINE" = some (.int 0 u)):=by
   refine' Jd.aN KX G ?a
   (case a=>k_is)
  obtain⟨kLastu,kLast⟩:(∃u,mg "LAST_LEVEL" = some (.int 4 u)):=by
   refine' Jd.aN KX G ?a
   (case a=>k_is)
  obtain⟨kAdd0u,kAdd0⟩:(∃u,mg "ADD_AMOUNT" = some (.int 0 u)):=by
   refine' Jd.aN KX G ?a
   (case a=>k_is)
  obtain⟨kAdd1u,kAdd1⟩:(∃u,mg "ADD_ONE" = some (.int 2 u)):=by
   refine' Jd.aN KX G ?a
   (case a=>k_is)
  obtain⟨kShFu,kShF⟩:(∃u,mg "SHOW_FIELD" = some (.int 0 u)):=by
   refine' Jd.aN KX G ?a
   (case a=>k_is)
  obtain⟨kShCu,kShC⟩:(∃u,mg "SHOW_COUNTER" = some (.int 1 u)):=by
   refine' Jd.aN KX G ?a
   (case a=>k_is)
  obtain⟨kMinusu,kMinus⟩:(∃u,mg "MINUS_ROW" = some (.int 1 u)):=by
   refine' Jd.aN KX G ?a
   (case a=>k_is)
  obtain⟨kLimitu,kLimit⟩:(∃u,mg "SUM_LIMIT" = some (.int 10000000000000000 u)):=by
   refine' Jd.aN KX G ?a
   (case a=>k_is)
  obtain⟨kPlu,kPl⟩:(∃u,mg "PLACES" = some (.int 132 u)):=by
   refine' Jd.aN KX G ?a
   (case a=>k_is)
  obtain⟨kBlanku,kBlank⟩:(∃u,mg "BLANK" = some (.int 32 u)):=by
   refine' Jd.aN KX G ?a
   (case a=>k_is)
  obtain⟨kCtlLu,kCtlL⟩:(∃u,mg "CONTROL_LEVELS" = some (.int 3 u)):=by
   refine' Jd.aN KX G ?a
   (case a=>k_is)
  obtain⟨kLiAtu,kLiAt⟩:(∃u,mg "LIST_AT" = some (.int 6 u)):=by
   refine' Jd.aN KX G ?a
   (case a=>k_is)
  obtain⟨kLiAu,kLiA⟩:(∃u,mg "LIST_ALL" = some (.int 1 u)):=by
   refine' Jd.aN KX G ?a
   (case a=>k_is)
  obtain⟨kLiFu,kLiF⟩:(∃u,mg "LIST_FIRST" = some (.int 2 u)):=by
   refine' Jd.aN KX G ?a
   (case a=>k_is)
  obtain⟨kPaperu,kPaper⟩:(∃u,mg "MOST_PAPER" = some (.int 256 u)):=by
   refine' Jd.aN KX G ?a
   (case a=>k_is)
  obtain⟨kPocku,kPock⟩:(∃u,mg "POCKETS" = some (.int 13 u)):=by
   refine' Jd.aN KX G ?a
   (case a=>k_is)
  obtain⟨kFineu,kFine⟩:(∃u,mg "NOTHING_WRONG" = some (.int 0 u)):=by
   refine' Jd.aN KX G ?a
   (case a=>k_is)
  obtain⟨kW7u,kW7⟩:(∃u,mg "WRONG_CARD" = some (.int 7 u)):=by
   refine' Jd.aN KX G ?a
   (case a=>k_is)
  obtain⟨kW9u,kW9⟩:(∃u,mg "TOO_MUCH_PAPER" = some (.int 9 u)):=by
   refine' Jd.aN KX G ?a
   (case a=>k_is)
  obtain⟨kHolesu,kHoles⟩:(∃u,mg "MOST_HOLES" = some (.int 4095 u)):=by
   refine' Jd.aN KX G ?a
   (case a=>k_is)
  obtain⟨kCardsu,kCards⟩:(∃u,mg "MOST_CARDS" = some (.int 1000 u)):=by
   refine' Jd.aN KX G ?a
   (case a=>k_is)
  obtain⟨kNoDu,kNoD⟩:(∃u,mg "NO_DECK" = some (.int (-8) u)):=by
   refine' Jd.aN KX G ?a
   (case a=>k_is)
  have zLen:mg "len" = none:=by
   refine' PySem.W.mg_none_of KX G ?a
   (case a=>k_is)
  have zOrd:mg "ord" = none:=by
   refine' PySem.W.mg_none_of KX G ?a
   (case a=>k_is)
  have zSum:mg "sum" = none:=by
   refine' PySem.W.mg_none_of KX G ?a
   (case a=>k_is)
  have zEnum:mg "enumerate" = none:=by
   refine' PySem.W.mg_none_of KX G ?a
   (case a=>k_is)
  have zAbs:mg "abs" = none:=by
   refine' PySem.W.mg_none_of KX G ?a
   (case a=>k_is)
  have zZip:mg "zip" = none:=by
   refine' PySem.W.mg_none_of KX G ?a
   (case a=>k_is)
  have zSet:mg "set" = none:=by
   refine' PySem.W.mg_none_of KX G ?a
   (case a=>k_is)
  have zAll:mg "all" = none:=by
   refine' PySem.W.mg_none_of KX G ?a
   (case a=>k_is)
  have zRange:mg "range" = none:=by
   refine' PySem.W.mg_none_of KX G ?a
   (case a=>k_is)
  have zRev:mg "reversed" = none:=by
   refine' PySem.W.mg_none_of KX G ?a
   (case a=>k_is)
  have zList:mg "list" = none:=by
   refine' PySem.W.mg_none_of KX G ?a
   (case a=>k_is)
  have zStr:mg "str" = none:=by
   refine' PySem.W.mg_none_of KX G ?a
   (case a=>k_is)
  have zRange:mg "range" = none:=by
   refine' PySem.W.mg_none_of KX G ?a
   (case a=>k_is)
  have zSorted:mg "sorted" = none:=by
   refine' PySem.W.mg_none_of KX G ?a
   (case a=>k_is)
  have T:Jd.Txt (L2.KOf KX) w mg ⟨CP,CR,CT,aF,aR,aS,aM⟩:=⟨⟨kEndu,kEnd⟩,⟨kNoughtu,kNought⟩,⟨kNineu,kNine⟩,⟨kBytesu,kBytes⟩,⟨kLinesu,kLines⟩,⟨kPassesu,kPasses⟩,⟨kColsu,kCols⟩,⟨kAmtu,kAmt⟩,⟨kPlacesu,kPlaces⟩,⟨kLongu,kLong⟩,⟨kFaultyu,kFaulty⟩,gF,sF,gR,dR,gS,dS,gM,sM,(by obtain⟨_,_,_,_,_,c⟩:=cP;exact c),nP0,nP1,nP2,(by obtain⟨_,_,_,_,_,c⟩:=cR;exact c),nR0,nR1,(by obtain⟨_,_,_,_,_,c⟩:=cT;exact c),nT0,nT1,zLen,zOrd,zSum,zEnum⟩
  have T2:Jd.Tx2 (L2.KOf KX) w mg ⟨CS,CU,CL,aL,aG,CM,CO⟩:=⟨⟨kCodesu,kCodes⟩,⟨kByteu,kByte⟩,⟨kNoSu,kNoS⟩,⟨kBoxu,kBox⟩,⟨kRowsu,kRows⟩,⟨kAllRu,kAllR⟩,⟨kCtlu,kCtl⟩,⟨kNoPu,kNoP⟩,⟨kCardu,kCard⟩,⟨kLastu,kLast⟩,⟨kAdd0u,kAdd0⟩,⟨kAdd1u,kAdd1⟩,⟨kShFu,kShF⟩,⟨kShCu,kShC⟩,gL,dL,(by obtain⟨_,_,_,_,_,c⟩:=cS;exact c),nS0,nS1,(by obtain⟨_,_,_,_,_,c⟩:=cU;exact c),nU0,nU1,nU2,nU3,(by obtain⟨_,_,_,_,_,c⟩:=cL;exact c),nL0,nL1,nL2,nL3,⟨kMinusu,kMinus⟩,⟨kLimitu,kLimit⟩,⟨kPlu,kPl⟩,⟨kBlanku,kBlank⟩,⟨kCtlLu,kCtlL⟩,⟨kLiAtu,kLiAt⟩,⟨kLiAu,kLiA⟩,⟨kLiFu,kLiF⟩,⟨kPaperu,kPaper⟩,⟨kPocku,kPock⟩,⟨kFineu,kFine⟩,⟨kW7u,kW7⟩,⟨kW9u,kW9⟩,gG,dG,(by obtain⟨_,_,_,_,_,c⟩:=cM;exact c),nM0,nM1,nM2,nM3,(by obtain⟨_,_,_,_,_,c⟩:=cO;exact c),nO0,nO1,nO2,nO3,zAbs,zZip,zSet,zAll,zRange,zRev,zList,zStr⟩
  have T3:Jd.Tx3 mg:=⟨⟨kHolesu,kHoles⟩,⟨kCardsu,kCards⟩,⟨kNoDu,kNoD⟩,zRange,zSorted⟩;obtain⟨f,fd,e,hb,hF⟩:=Jd.Bp (P:=PySem.Challenge.rw_tabulreports_s05_planned.prog) ⟨T,T2,T3,dCan,dFig,dNum,dRight,dWhole,dBy,dLine,dSplit,dParts,dPass,dPasses,dField,dRoom,dUnfit,dWrong,dFault,dReport,dRowH,dFigH,dCode,dByte,dLeg,dSigns,dWs,dKs,dTs,dSs,dLst,dWires,dPanel,dKL,dJob,dHead,dLevels,dCounter,dCounters,dThing,dFrom,dThings,dMake,dHasR,dTopR,dFldOf,dRdC,dRdD,dFigV,dAmt,dBlk,dPut,dShN,dAcc,dInto,dSent,dCho,dRmOf,dDoC,dDoP,dDoA,dDoL,dRun,dJoinP,dPld,cP,cR,cT,cS,cU,cL,cM,cO,mShow,mEndL,mPrt,mMkT,mCnt,mTak,mMkE,mLook,mOut,mBeh⟩;have e0:=hmg.symm.trans e;cases e0;exact⟨fd,hb,fun base _ _=>hF base⟩
 case S=>
  intro K H xs a hO hwi hask hx;cases hx with
  |cons h1 h2=>
   cases h2 with
   |cons h2 h3=>
    cases h3 with
    |cons h3 h4=>
     cases h4 with
     |cons h4 h5=>
      cases h5;cases h1;cases h2 with
      |lst hs ha=>
       cases h3 with
       |lst hs3 ha3=>
        cases h4 with
        |lst hs4 ha4=>
         have e:=L2.ml a.2.1 _ ha;subst e;have e3:=L2.ml a.2.2.1 _ ha3;subst e3;have e4:=L2.ml a.2.2.2.1 _ ha4;subst e4;have q:(Codec.inInt (-1000000000000000000) 1000000000000000000 a.1&&((Codec.inLen 0 65536 a.2.1&&a.2.1.all (Codec.inInt 0 255))&&((Codec.inLen 0 1000 a.2.2.1&&a.2.2.1.all (Codec.inInt 0 255))&&((Codec.inLen 0 400 a.2.2.2.1&&a.2.2.2.1.all (Codec.inInt (-1000000000000000000) 1000000000000000000))&&true))))=true:=hwi;simp only[Bool.and_eq_true] at q;exact⟨a.1,_,_,_,a.2.1,a.2.2.1,a.2.2.2.1,rfl,hs,(Codec.inNat_iff.mp q.2.1.1).2,fun n hn=>Codec.inInt_iff.mp (List.all_eq_true.mp q.2.1.2 n hn),hs3,fun n hn=>Codec.inInt_iff.mp (List.all_eq_true.mp q.2.2.1.2 n hn),hs4,Nat.le_trans (Codec.inNat_iff.mp q.2.2.2.1.1).2 (by decide),fun H' p hp=>.lst (L2.SqL.of hp) (L2.xS _)⟩
#print axioms PySem.Challenge.cw_tabulreports_s05_planned_holds
