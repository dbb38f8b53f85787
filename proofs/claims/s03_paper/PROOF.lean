import PyProof.Rows.All
import Wide.All
import OpenK.AllK
import Wide.FinOn
import PyProof.EqAt
import PyProof.EqKinds
import PyProof.TupleCall
import KE.BitLaws
import Open.SpecLaws
import KE.OsHead
import KE.OsGo
import PyProof.Rows.SetFrom
import PyProof.ListRange
import PyProof.Rows.SortG.SortRunsSt
import KE.KSortTup
import KE.KSortKey
import KE.KLam
import PyProof.Rows.RuleM_int
import PySem.Challenge.RW_tabulreports_s03_paper
set_option Elab.async false
set_option linter.all false
set_option maxRecDepth 100000
set_option maxHeartbeats 4000000
section
namespace L2
open PySem PySem.Spec PyProof.Rows
abbrev Key:=Sum Int Str
def keyIs:Key→Value→Bool
  | .inl k,v=>Value.isInt k v
  | .inr x,v=>Value.isStrOf x v
def keyH (w:World):Key→Int
  | .inl k=>hashInt k
  | .inr x=>hashStr w x
theorem keyIs_shape:∀ {k:Key}{v:Value},keyIs k v=true→(∃ i t,k=Sum.inl i∧v=Value.int i t)∨(∃ x t,k=Sum.inr x∧v=Value.str x t)
  | .inl i,v,h=>by
    obtain ⟨t,e⟩:=Value.isInt_shape (k:=i) (v:=v) h
    exact .inl ⟨i,t,rfl,e⟩
  | .inr x,v,h=>by
    obtain ⟨t,e⟩:=Value.isStrOf_shape (x:=x) (v:=v) h
    exact .inr ⟨x,t,rfl,e⟩
theorem keyIs_int (i:Int) (t:Tok):keyIs (.inl i) (.int i t)=true:=by simp [keyIs,Value.isInt]
theorem keyIs_str (x:Str) (t:Tok):keyIs (.inr x) (.str x t)=true:=by simp [keyIs,Value.isStrOf]
theorem key_ll (a b:Int):decide ((Sum.inl a:Key)=Sum.inl b)=(a==b):=by
  by_cases e:a=b
  · subst e; simp
  · have h:¬(Sum.inl a:Key)=Sum.inl b:=fun q=>e (Sum.inl.inj q)
    rw [decide_eq_false h]
    exact (beq_eq_false_iff_ne.mpr e).symm
theorem key_rr (a b:Str):decide ((Sum.inr a:Key)=Sum.inr b)=decide (a=b):=by
  by_cases e:a=b
  · subst e; simp
  · have h:¬(Sum.inr a:Key)=Sum.inr b:=fun q=>e (Sum.inr.inj q)
    rw [decide_eq_false h,decide_eq_false e]
theorem key_lr (a:Int) (b:Str):decide ((Sum.inl a:Key)=Sum.inr b)=false:=decide_eq_false (fun q=>nomatch q)
theorem key_rl (a:Str) (b:Int):decide ((Sum.inr a:Key)=Sum.inl b)=false:=decide_eq_false (fun q=>nomatch q)
def mixKind (prog:Program) (w:World):PySem.KeyKind prog w Key where
  is:=keyIs
  hash:=keyH w
  inj:=fun v a b ha hb=>by
    rcases keyIs_shape ha with ⟨i,t,rfl,rfl⟩ | ⟨x,t,rfl,rfl⟩
    · rcases keyIs_shape hb with ⟨j,u,rfl,e⟩ | ⟨y,u,rfl,e⟩
      · injection e with e1 _; rw [e1]
      · exact nomatch e
    · rcases keyIs_shape hb with ⟨j,u,rfl,e⟩ | ⟨y,u,rfl,e⟩
      · exact nomatch e
      · injection e with e1 _; rw [e1]
  byValue:=fun k v h=>by
    rcases keyIs_shape h with ⟨i,t,rfl,rfl⟩ | ⟨x,t,rfl,rfl⟩ <;> rfl
  pyHash:=fun hv h=>by
    rcases keyIs_shape hv with ⟨i,t,rfl,rfl⟩ | ⟨x,t,rfl,rfl⟩
    · exact wpAny_pyHash_int h
    · exact wpAny_pyHash_str h
  eqBool:=fun hu hv h=>by
    rcases keyIs_shape hu with ⟨i,t,rfl,rfl⟩ | ⟨x,t,rfl,rfl⟩
    · rcases keyIs_shape hv with ⟨j,u,rfl,rfl⟩ | ⟨y,u,rfl,rfl⟩
      · rw [key_ll] at h; exact wpAny_eqBool_int h
      · rw [key_lr] at h; exact SeqAt.EqAt.int_str i t y u _ _ _ _ h
    · rcases keyIs_shape hv with ⟨j,u,rfl,rfl⟩ | ⟨y,u,rfl,rfl⟩
      · rw [key_rl] at h; exact SeqAt.EqAt.str_int x t j u _ _ _ _ h
      · rw [key_rr] at h; exact wpAny_eqBool_str h
  «strs»:=fun k x t v h=>by
    rcases keyIs_shape h with ⟨i,u,rfl,e⟩ | ⟨y,u,rfl,e⟩
    · exact nomatch e
    · injection e with e1 _
      subst e1
      cases v <;> rfl
theorem mixKind_int (prog:Program) (w:World) (i:Int) (t:Tok):(mixKind prog w).is (.inl i) (.int i t)=true:=keyIs_int i t
theorem mixKind_str (prog:Program) (w:World) (x:Str) (t:Tok):(mixKind prog w).is (.inr x) (.str x t)=true:=keyIs_str x t
end L2
namespace L2
open PySem PySem.Spec PyProof.Rows
inductive V where
  | non | bl (b:Bool) | int (i:Int) | str (x:Str) | byt (b:Array UInt8) | flt (b:UInt64) | ref (a:Addr) | ty (n:String)
  deriving DecidableEq
def RelV:V→Value→Prop
  | .non,u=>u=Value.none
  | .bl b,u=>u=Value.bool b
  | .int i,u=>∃ t,u=Value.int i t
  | .str x,u=>∃ t,u=Value.str x t
  | .byt b,u=>∃ t,u=Value.bytes b t
  | .flt b,u=>∃ t,u=Value.float b t
  | .ref a,u=>u=Value.ref a
  | .ty n,u=>u=Value.type n
abbrev Vals:List V→List Value→Prop:=Paired RelV
theorem Vals.length {xs:List V}{us:List Value}(r:Vals xs us):xs.length=us.length:=Paired.length r
theorem Vals.get:∀ {xs:List V}{us:List Value}{i:Nat}{x:V},Vals xs us→xs[i]?=some x→∃ u,us[i]?=some u∧RelV x u
  | _,_,_,_,.nil,e=>by simp at e
  | _,_,0,_,.cons r _,e=>by simp at e; subst e; exact ⟨_,rfl,r⟩
  | _,_,i+1,x,.cons _ t,e=>by
    obtain ⟨u,h1,h2⟩:=Vals.get (i:=i) (x:=x) t (by simpa using e)
    exact ⟨u,by simpa using h1,h2⟩
theorem Vals.set {x:V}{u:Value}(r:RelV x u):∀ {xs:List V}{us:List Value}(i:Nat),Vals xs us→Vals (xs.set i x) (us.set i u)
  | _,_,_,.nil=>.nil
  | _,_,0,.cons _ t=>.cons r t
  | _,_,i+1,.cons q t=>.cons q (Vals.set r i t)
theorem Vals.append:∀ {xs ys:List V}{us ws:List Value},Vals xs us→Vals ys ws→Vals (xs++ys) (us++ws)
  | _,_,_,_,.nil,s=>s
  | _,_,_,_,.cons r t,s=>.cons r (Vals.append t s)
theorem Vals.take:∀ {xs:List V}{us:List Value}(n:Nat),Vals xs us→Vals (xs.take n) (us.take n)
  | _,_,0,_=>.nil
  | _,_,_+1,.nil=>.nil
  | _,_,n+1,.cons r t=>.cons r (Vals.take n t)
theorem Vals.drop:∀ {xs:List V}{us:List Value}(n:Nat),Vals xs us→Vals (xs.drop n) (us.drop n)
  | _,_,0,r=>r
  | _,_,_+1,.nil=>.nil
  | _,_,n+1,.cons _ t=>Vals.drop n t
def RelO:Option V→Option Value→Prop
  | some v,some u=>RelV v u
  | none,none=>True
  | _,_=>False
def KV {κ:Type}:List (κ×V)→List (κ×Value)→Prop:=Paired fun (p:κ×V) (q:κ×Value)=>p.1=q.1∧RelV p.2 q.2
def kV:Key→V
  | .inl i=>.int i
  | .inr x=>.str x
inductive HO where
  | lst (xs:List V)
  | tup (xs:List V)
  | dK (kvs:List (Key×V)) | dT (kvs:List (List Key×V))
  | set (S:Int→Bool) (n:Nat)
  | ins (C dx:Addr) (fs:List (Str×V))
  | own (x:Addr)
  | xd (fs:List (Str×V))
  | met (f x:Addr)
  | rng (lo hi:Int)
  | frz (o:Obj) (u:HO)
  | tbl (ps:Array Value)
  | ext (φ:Heap→Prop)
abbrev Hp:=Addr→Option HO
def upd (H:Hp) (a:Addr) (o:HO):Hp:=fun b=>if b=a then some o else H b
theorem upd_same {H:Hp}{a:Addr}{o:HO}:upd H a o a=some o:=by unfold upd; rw [if_pos rfl]
theorem upd_ne {H:Hp}{a b:Addr}{o:HO}(h:b≠a):upd H a o b=H b:=by unfold upd; rw [if_neg h]
theorem ne_of {H:Hp}{a b:Addr}{o u:HO}(h:H a=some o) (h':H b=some u) (d:o≠u):a≠b:=by
  intro e; subst e; rw [h] at h'; exact d (Option.some.inj h')
theorem ne_of_none {H:Hp}{a b:Addr}{o:HO}(h:H a=some o) (h':H b=none):a≠b:=by
  intro e; subst e; rw [h] at h'; cases h'
section
variable (P:Program)(w:World)
def ObjOk (H:Hp) (h:Heap) (a:Addr):HO→Prop
  | .lst xs=>xs.length≤sizeLine∧∃ (its:List Value) (n:Nat),Vals xs its∧h.get? a=some { cls:=.type "list",data:=.seq its.toArray n }
  | .tup xs=>xs.length≤sizeLine∧∃ its:List Value,Vals xs its∧IsTup h a its.toArray
  | .dK kvs=>kvs.length≤sizeLine∧(a==sysModules)=false∧∃ vs,KV kvs vs∧h.DictOf (mixKind P w) a vs
  | .dT kvs=>kvs.length≤sizeLine∧(a==sysModules)=false∧∃ xs:List (List Key×Addr×Value),
      Paired (fun (p:List Key×V) (q:List Key×Addr×Value)=>p.1=q.1∧H q.2.1=some (.tup (p.1.map kV))∧RelV p.2 q.2.2) kvs xs∧
      ∃ o es ep,h.get? a=some o∧o.ExactDict∧o.data=.dict es ep∧es.toList=xs.map (entryOfKey (tupleKind (mixKind P w)))∧(xs.map (·.1)).Nodup
  | .set S n=>h.SetOf (intKind P w) a S n
  | .ins C dx fs=>H dx=some (.own a)∧fs.length≤1000∧dx≠a∧h.get? a=some (PySem.W.instObj C dx)∧
      ∃ mA,h.Ns1 dx mA∧(∀ f,RelO (fs.lookup f) (mA f))∧PySem.Within mA (fs.map (·.1))
  | .own _=>∃ o,h.get? a=some o
  | .xd fs=>∃ mA,h.Ns1 a mA∧∀ f,RelO (fs.lookup f) (mA f)
  | .rng lo hi=>∃ t u v,h.get? a=some { cls:=.type "range",data:=.fields #[.int lo t,.int hi u,.int 1 v] }
  | .frz o u=>h.get? a=some o∧ObjOk H h a u
  | .tbl ps=>h.get? a=some { cls:=.none,data:=.fields ps }
  | .met f x=>h.get? a=some (PySem.W.methodObj (.ref f) (.ref x))
  | .ext φ=>φ h∧(∃ o,h.get? a=some o)∧∀ h1 h2:Heap,φ h1→(∀ o,h1.get? a=some o→h2.get? a=some o)→φ h2
def HOk (H:Hp) (h:Heap):Prop:=∀ a o,H a=some o→ObjOk P w H h a o
end
section
variable {P:Program}{w:World}{H H':Hp}{h h':Heap}{a:Addr}{o:HO}
theorem ObjOk.lt (x:ObjOk P w H h a o):a<h.objs.size:=by
  cases o with
  | lst xs=>obtain ⟨_,_,_,_,e⟩:=x; exact Heap.lt_size e
  | tup xs=>obtain ⟨_,_,_,p⟩:=x; exact p.lt
  | dK kvs=>obtain ⟨_,_,_,_,o,_,_,e,_⟩:=x; exact Heap.lt_size e
  | dT kvs=>obtain ⟨_,_,_,_,o,_,_,e,_⟩:=x; exact Heap.lt_size e
  | set S n=>obtain ⟨o,_,_,_,e,_⟩:=x; exact Heap.lt_size e
  | ins C dx fs=>obtain ⟨_,_,_,e,_⟩:=x; exact Heap.lt_size e
  | own y=>obtain ⟨_,e⟩:=x; exact Heap.lt_size e
  | xd fs=>obtain ⟨_,⟨_,_,_,e,_⟩,_⟩:=x; exact Heap.lt_size e
  | rng lo hi=>obtain ⟨_,_,_,e⟩:=x; exact Heap.lt_size e
  | frz ob u=>obtain ⟨e,_⟩:=x; exact Heap.lt_size e
  | tbl ps=>exact Heap.lt_size (show h.get? a=some _ from x)
  | met f y=>exact Heap.lt_size (show h.get? a=some _ from x)
  | ext φ=>obtain ⟨_,⟨_,e⟩,_⟩:=x; exact Heap.lt_size e
theorem Paired.mapP {α β:Type}{F G:α→β→Prop}:∀ {l₁:List α}{l₂:List β},Paired F l₁ l₂→(∀ a b,F a b→G a b)→Paired G l₁ l₂
  | _,_,.nil,_=>.nil
  | _,_,.cons r t,f=>.cons (f _ _ r) (Paired.mapP t f)
theorem ObjOk.stay (x:ObjOk P w H h a o) (k:∀ b u,(b=a∨H b=some (.own a))→h.get? b=some u→h'.get? b=some u)
    (ho:∀ b,H b=some (.own a)→H' b=some (.own a)) (ht:∀ b xs,H b=some (.tup xs)→H' b=some (.tup xs)):ObjOk P w H' h' a o:=by
  induction o with
  | lst xs=>obtain ⟨z,its,n,r,e⟩:=x; exact ⟨z,its,n,r,k _ _ (.inl rfl) e⟩
  | tup xs=>obtain ⟨z,its,r,ob,e,c⟩:=x; exact ⟨z,its,r,ob,k _ _ (.inl rfl) e,c⟩
  | dK kvs=>obtain ⟨z,y,vs,r,ob,es,ep,e,c⟩:=x; exact ⟨z,y,vs,r,ob,es,ep,k _ _ (.inl rfl) e,c⟩
  | dT kvs=>
    obtain ⟨z,y,xs,r,ob,es,ep,e,c⟩:=x
    exact ⟨z,y,xs,Paired.mapP r fun p q z=>⟨z.1,ht _ _ z.2.1,z.2.2⟩,ob,es,ep,k _ _ (.inl rfl) e,c⟩
  | set S n=>obtain ⟨ob,es,ep,t,e,c⟩:=x; exact ⟨ob,es,ep,t,k _ _ (.inl rfl) e,c⟩
  | ins C dx fs=>
    obtain ⟨d,z,ne,e,mA,⟨od,es,ep,e2,c⟩,r⟩:=x
    exact ⟨ho _ d,z,ne,k _ _ (.inl rfl) e,mA,⟨od,es,ep,k _ _ (.inr d) e2,c⟩,r⟩
  | own y=>obtain ⟨ob,e⟩:=x; exact ⟨ob,k _ _ (.inl rfl) e⟩
  | xd fs=>obtain ⟨mA,⟨od,es,ep,e,c⟩,r⟩:=x; exact ⟨mA,⟨od,es,ep,k _ _ (.inl rfl) e,c⟩,r⟩
  | rng lo hi=>obtain ⟨t,u,v,e⟩:=x; exact ⟨t,u,v,k _ _ (.inl rfl) e⟩
  | frz ob u ih=>obtain ⟨e,q⟩:=x; exact ⟨k _ _ (.inl rfl) e,ih q⟩
  | tbl ps=>
    have e:h.get? a=some { cls:=.none,data:=.fields ps }:=x
    show h'.get? a=some { cls:=.none,data:=.fields ps }
    exact k a _ (.inl rfl) e
  | met f y=>
    have e:h.get? a=some (PySem.W.methodObj (.ref f) (.ref y)):=x
    show h'.get? a=some (PySem.W.methodObj (.ref f) (.ref y))
    exact k a _ (.inl rfl) e
  | ext φ=>obtain ⟨p,⟨o,e⟩,st⟩:=x; exact ⟨st _ _ p fun o q=>k _ _ (.inl rfl) q,⟨o,k _ _ (.inl rfl) e⟩,st⟩
theorem HOk.lt (x:HOk P w H h) (e:H a=some o):a<h.objs.size:=(x a o e).lt
theorem HOk.fresh (x:HOk P w H h) (e:h.objs.size≤a):H a=none:=by
  cases q:H a with
  | none=>rfl
  | some u=>exact absurd (Nat.lt_of_lt_of_le (x.lt q) e) (Nat.lt_irrefl _)
theorem HOk.kept (x:HOk P w H h) (k:∀ b u,h.get? b=some u→h'.get? b=some u):HOk P w H h':=fun a o e=>
  (x a o e).stay (fun b u _ q=>k b u q) (fun _ q=>q) fun _ _ q=>q
theorem HOk.laid (x:HOk P w H h) (k:∀ b u,h.get? b=some u→h'.get? b=some u) (hp:h.objs.size≤a) (new:ObjOk P w (upd H a o) h' a o):HOk P w (upd H a o) h':=fun b u e=>by
  have hn:=x.fresh hp
  by_cases hb:b=a
  · subst hb; rw [upd_same] at e; cases e; exact new
  · rw [upd_ne hb] at e
    exact (x b u e).stay (fun c v _ q=>k c v q) (fun c q=>by rw [upd_ne (ne_of_none q hn)]; exact q) fun c xs q=>by rw [upd_ne (ne_of_none q hn)]; exact q
end
def Rd (H:Hp) (a:Addr) (u:HO):Prop:=H a=some u∨∃ o,H a=some (.frz o u)
theorem Rd.ok {P:Program}{w:World}{H:Hp}{h:Heap}{a:Addr}{u:HO}(r:Rd H a u) (x:HOk P w H h):ObjOk P w H h a u:=by
  rcases r with r | ⟨o,r⟩
  · exact x a u r
  · obtain ⟨_,q⟩:=x a _ r
    exact q
def Mut:Option HO→Prop
  | some (.lst _)=>True
  | some (.dK _)=>True
  | some (.dT _)=>True
  | some (.set _ _)=>True
  | some (.ins _ _ _)=>True
  | some (.ext _)=>True
  | _=>False
section
variable {P:Program}{w:World}{H:Hp}{h h':Heap}{x e:Addr}{o':HO}
theorem HOk.write (ok:HOk P w H h) (mu:Mut (H x)) (he:e=x∨H e=some (.own x)) (k:∀ b u,b≠e→h.get? b=some u→h'.get? b=some u) (heo:∃ u,h'.get? e=some u)
    (new:ObjOk P w (upd H x o') h' x o'):HOk P w (upd H x o') h':=fun b u q=>by
  have nown:∀ c y,H c=some (.own y)→c≠x:=fun c y r z=>by subst z; rw [r] at mu; exact mu
  have ntup:∀ c xs,H c=some (.tup xs)→c≠x:=fun c xs r z=>by subst z; rw [r] at mu; exact mu
  by_cases hb:b=x
  · subst hb; rw [upd_same] at q; cases q; exact new
  · rw [upd_ne hb] at q
    by_cases hbe:b=e
    · have q':H b=some (.own x):=by
        rcases he with z | z
        · exact absurd (hbe.trans z) hb
        · rw [hbe]; exact z
      rw [q] at q'; cases q'
      obtain ⟨v,hv⟩:=heo
      exact ⟨v,by rw [hbe]; exact hv⟩
    · refine (ok b u q).stay (fun c v hc r=>k c v ?_ r) (fun c r=>by rw [upd_ne (nown c b r)]; exact r) fun c xs r=>by rw [upd_ne (ntup c xs r)]; exact r
      rcases hc with rfl | hc
      · exact hbe
      · rintro rfl
        rcases he with z | z
        · exact nown c b hc z
        · rw [hc] at z; cases z; exact hb rfl
end
structure Un (fs ex:List Addr) (H H':Hp) (h h':Heap):Prop where
  keep:∀ b o,h.get? b=some o→H b=none→b ∉ fs→b ∉ ex→h'.get? b=some o
  slot:∀ b o,h.get? b=some o→H b=none→b∈fs→b ∉ ex→∃ sl,h'.get? b=some { o with slots:=sl }
  free:∀ b o,h.get? b=some o→H b=none→b ∉ ex→H' b=none
  there:∀ b o,h.get? b=some o→b ∉ ex→∃ o',h'.get? b=some o'
  tups:∀ b xs,H b=some (.tup xs)→H' b=some (.tup xs)
  frzs:∀ b o u,H b=some (.frz o u)→H' b=some (.frz o u)
  tbls:∀ b ps,H b=some (.tbl ps)→∃ more,H' b=some (.tbl (ps++more))
section
variable {fs fs' ex ex':List Addr}{H H1 H2:Hp}{h h1 h2 h':Heap}{a x e:Addr}{o:HO}
theorem Un.any (u:Un fs ex H H1 h h1) {b:Addr}{ob:Obj}(q:h.get? b=some ob) (n:H b=none) (hx:b ∉ ex):∃ sl,h1.get? b=some { ob with slots:=sl }:=by
  by_cases hb:b∈fs
  · exact u.slot b ob q n hb hx
  · exact ⟨ob.slots,u.keep b ob q n hb hx⟩
theorem Un.kept (k:∀ b u,h.get? b=some u→h'.get? b=some u):Un fs ex H H h h':=
  ⟨fun b ob q _ _ _=>k b ob q,fun b ob q _ _ _=>⟨ob.slots,k b ob q⟩,fun _ _ _ n _=>n,fun b ob q _=>⟨ob,k b ob q⟩,fun _ _ q=>q,fun _ _ _ q=>q,fun _ ps q=>⟨#[],by rw [q]; simp⟩⟩
theorem Un.refl:Un fs ex H H h h:=Un.kept fun _ _ q=>q
theorem Un.laid (k:∀ b u,h.get? b=some u→h'.get? b=some u) (hp:h.objs.size≤a) (hn:H a=none):Un fs ex H (upd H a o) h h' where
  keep:=fun b u q _ _ _=>k b u q
  slot:=fun b u q _ _ _=>⟨u.slots,k b u q⟩
  free:=fun b u q n _=>by rw [upd_ne (Nat.ne_of_lt (Nat.lt_of_lt_of_le (Heap.lt_size q) hp))]; exact n
  there:=fun b u q _=>⟨u,k b u q⟩
  tups:=fun b xs q=>by rw [upd_ne (ne_of_none q hn)]; exact q
  frzs:=fun b u xs q=>by rw [upd_ne (ne_of_none q hn)]; exact q
  tbls:=fun b ps q=>⟨#[],by rw [upd_ne (ne_of_none q hn),q]; simp⟩
theorem Un.write (mu:Mut (H x)) (he:e=x∨H e=some (.own x)) (k:∀ b u,b≠e→h.get? b=some u→h'.get? b=some u) (heo:∃ u,h'.get? e=some u):Un fs ex H (upd H x o) h h':=by
  have hx:∀ b,H b=none→b≠x:=fun b n z=>by subst z; rw [n] at mu; exact mu
  have hb:∀ b,H b=none→b≠e:=fun b n z=>by
    subst z
    rcases he with r | r
    · exact hx b n r
    · rw [n] at r; cases r
  have hm:∀ b u,H b=some u→¬Mut (some u)→b≠x:=fun b u q nm z=>by subst z; rw [q] at mu; exact nm mu
  refine ⟨fun b u q n _ _=>k b u (hb b n) q,fun b u q n _ _=>⟨u.slots,k b u (hb b n) q⟩,fun b u q n _=>by rw [upd_ne (hx b n)]; exact n,fun b u q _=>?_,
    fun b xs q=>by rw [upd_ne (hm b _ q fun z=>z)]; exact q,fun b u xs q=>by rw [upd_ne (hm b _ q fun z=>z)]; exact q,fun b ps q=>⟨#[],by rw [upd_ne (hm b _ q fun z=>z),q]; simp⟩⟩
  by_cases hbe:b=e
  · subst hbe; exact heo
  · exact ⟨u,k b u hbe q⟩
end
def trk (h:Heap) (H:Hp):List Addr:=(List.range h.objs.size).filter fun a=>(H a).isSome
def hidT (h:Heap) (H:Hp):Heap:=PySem.W.hideAll h (trk h H)
theorem hidT_size (h:Heap) (H:Hp):(hidT h H).objs.size=h.objs.size:=PySem.W.hideAll_size _ _
theorem hidT_get {h:Heap}{H:Hp}{b:Addr}{o:Obj}(e:h.get? b=some o) (n:H b=none):(hidT h H).get? b=some o:=
  PySem.W.hideAll_get _ e fun hm=>by
    have q:(H b).isSome=true:=(List.mem_filter.mp hm).2
    rw [n] at q; simp at q
theorem of_hidT {h:Heap}{H:Hp}{b:Addr}{o:Obj}(e:(hidT h H).get? b=some o):h.get? b=some o∧H b=none:=by
  have e':h.get? b=some o:=PySem.W.of_hideAll (trk h H) e
  refine ⟨e',?_⟩
  cases q:H b with
  | none=>rfl
  | some x=>
    have hm:b∈trk h H:=List.mem_filter.mpr ⟨List.mem_range.mpr (Heap.lt_size e'),by simp [q]⟩
    have z:(hidT h H).get? b=none:=PySem.W.hideAll_none (trk h H) hm
    rw [z] at e; cases e
end L2
namespace L2
open PySem PySem.Spec PyProof.Rows
structure Mod (K:PySem.W.Frag) (mg:Str→Option Value) (base:Heap):Prop where
  kin:K.In base
  glob:base.Ns mainGlobals mg
  blt:∃ mb,base.Ns builtinsNs mb∧∀ x:Str,x ≠ "__name__" → mb x=bootBuiltins x
  nolimit:base.NoLimit
structure Cx where
  prog:Program
  w:World
  K:PySem.W.Frag
  mg:Str→Option Value
  base:Heap
  A:Around
  N:List Str
  s_0:Shared
  H_0:Hp
  env:Env
  outer:List Env
  stack:List Env
  ex:List Addr
  fn:Str→Bool
  calm:Bool
  pn:List (Addr×Obj)
  xe:Value→Shared→Prop
def frs (l:List Env):List Addr:=l.filterMap (·.frame)
abbrev Cx.fs (X:Cx):List Addr:=frs X.outer
def Vis (sc:Scope) (x:Str):Prop:=sc.names.lookup x=some .local∨sc.names.lookup x=some .cell∨sc.names.lookup x=some .free
def Loc (sc:Scope) (x:Str):Prop:=sc.names.lookup x=some .local∨sc.names.lookup x=some .cell
def Look (env:Env) (h:Heap) (m:Str→Option Value) (x:Str) (u:Value):Prop:=
  (env.kindOf x=some .local∧m x=some u)∨((env.kindOf x=some .cell∨env.kindOf x=some .free)∧∃ c,env.cells.lookup x=some c∧h.IsCell c (some u))
structure Cx.Ok (X:Cx):Prop where
  mod:Mod X.K X.mg X.base
  kind:X.env.scope.kind=.function
  glob:X.env.globals=mainGlobals
  blt:X.env.builtins=builtinsNs
  above:X.s_0.heap.objs.size≤X.env.locals
  inj:∀ x y c,X.env.cells.lookup x=some c→X.env.cells.lookup y=some c→x=y
  has:∀ x,(X.env.kindOf x=some .cell∨X.env.kindOf x=some .free)→∃ c,X.env.cells.lookup x=some c
  cab:∀ x c,X.fn x=true→X.env.cells.lookup x=some c→X.s_0.heap.objs.size≤c
  hd:X.calm=true→X.A.handled=none
  frames:X.A.frames=some X.stack
  stk:X.stack=X.outer∨(X.stack=X.env::X.outer∧X.env.frame=some X.env.locals)
  exf:∀ b∈X.ex,b≠X.env.locals∧∀ x c,X.env.cells.lookup x=some c→c≠b
  bs:∀ b o,X.base.get? b=some o→X.s_0.heap.get? b=some o∧X.H_0 b=none
  bsz:X.base.objs.size≤X.s_0.heap.objs.size
  noex:∀ b o,X.base.get? b=some o→b ∉ X.ex
  exfs:∀ b∈X.ex,b ∉ X.fs
  funs:X.s_0.heap.FunFrames X.base X.outer
  frf:∀ b∈X.fs,X.H_0 b=none
structure Inv (X:Cx) (pins:List (Addr×Obj)) (σ:List (Option V)) (H:Hp) (s:Shared):Prop where
  ok:X.Ok
  os:s.os=X.s_0.os
  bare:AllBare s.gens
  base:Un X.fs X.ex X.H_0 H X.s_0.heap s.heap
  loc:∃ m,s.heap.Ns X.env.locals m∧∀ (i:Nat) (x:Str) (v:V),X.N[i]?=some x→σ[i]?=some (some v)→Vis X.env.scope x→∃ u,RelV v u∧Look X.env s.heap m x u
  cell:∀ x c,X.env.cells.lookup x=some c→∃ v,s.heap.IsCell c v
  free:H X.env.locals=none
  freeC:∀ x c,X.env.cells.lookup x=some c→H c=none
  pin:∀ p∈X.pn++pins,s.heap.get? p.1=some p.2∧H p.1=none∧p.1≠X.env.locals∧p.1 ∉ X.fs∧∀ v,p.2.data≠.cell v
  hok:HOk X.prog X.w H s.heap
  len:σ.length=X.N.length
section
variable {X:Cx}{pins:List (Addr×Obj)}{σ:List (Option V)}{H H':Hp}{s:Shared}{h':Heap}
theorem Cx.Ok.nofr (ok:X.Ok) {b:Addr}{o:Obj}(e:X.base.get? b=some o):b ∉ X.fs:=fun hb=>by
  have:=(ok.funs.mem hb).1
  rw [e] at this; cases this
theorem Inv.bs (I:Inv X pins σ H s):∀ b o,X.base.get? b=some o→s.heap.get? b=some o∧H b=none:=fun b o e=>
  ⟨I.base.keep b o (I.ok.bs b o e).1 (I.ok.bs b o e).2 (I.ok.nofr e) (I.ok.noex b o e),I.base.free b o (I.ok.bs b o e).1 (I.ok.bs b o e).2 (I.ok.noex b o e)⟩
theorem Inv.bk (I:Inv X pins σ H s):∀ b o,X.base.get? b=some o→s.heap.get? b=some o:=fun b o e=>(I.bs b o e).1
theorem Inv.mod (I:Inv X pins σ H s):Mod X.K X.mg X.base:=I.ok.mod
theorem Inv.kIn (I:Inv X pins σ H s):X.K.In s.heap:=I.ok.mod.kin.keeps I.bk
theorem Inv.nolimit (I:Inv X pins σ H s):s.heap.NoLimit:=I.ok.mod.nolimit.keeps I.bk
theorem Inv.fr (I:Inv X pins σ H s):∃ m,Fr X.base X.env.locals s.heap m:=
  let ⟨m,hn,_⟩:=I.loc
  ⟨m,hn,I.bk,Nat.le_trans I.ok.bsz I.ok.above⟩
theorem Inv.lt (I:Inv X pins σ H s):X.env.locals<s.heap.objs.size:=let ⟨_,hn,_⟩:=I.loc; hn.lt
theorem Inv.sz (I:Inv X pins σ H s):X.s_0.heap.objs.size≤s.heap.objs.size:=Nat.le_trans I.ok.above (Nat.le_of_lt I.lt)
theorem Inv.nofs (I:Inv X pins σ H s) {a:Addr}(h:s.heap.objs.size≤a):a ∉ X.fs:=fun hb=>by
  obtain ⟨_,o,ho,_⟩:=I.ok.funs.mem hb
  exact absurd (Nat.lt_of_lt_of_le (Heap.lt_size ho) (Nat.le_trans I.sz h)) (Nat.lt_irrefl _)
theorem Inv.cne (I:Inv X pins σ H s):∀ x c,X.env.cells.lookup x=some c→c≠X.env.locals:=fun x c e z=>by
  obtain ⟨v,o,ho,hd⟩:=I.cell x c e
  obtain ⟨m,⟨o',es,ep,ho',hd',_⟩,_⟩:=I.loc
  rw [z,ho'] at ho; cases ho; rw [hd'] at hd; cases hd
theorem Inv.funs (I:Inv X pins σ H s):s.heap.FunFrames X.base X.outer:=by
  have all:∀ (l:List Env),(∀ b∈frs l,b∈X.fs)→X.s_0.heap.FunFrames X.base l→s.heap.FunFrames X.base l:=by
    intro l
    induction l with
    | nil=>intro _ _; trivial
    | cons env r ih=>
      intro hs hl
      obtain ⟨hk,⟨L,o,hf,hn,ho,hd⟩,hr⟩:=hl
      have hL:L∈X.fs:=hs L (by unfold frs; rw [List.filterMap_cons,hf]; exact List.mem_cons_self)
      obtain ⟨sl,e⟩:=I.base.slot L o ho (I.ok.frf L hL) hL fun z=>I.ok.exfs L z hL
      exact ⟨hk,⟨L,_,hf,hn,e,hd⟩,ih (fun b hb=>hs b (by unfold frs; rw [List.filterMap_cons,hf]; exact List.mem_cons_of_mem _ hb)) hr⟩
  exact all X.outer (fun _ hb=>hb) I.ok.funs
theorem Inv.stack (I:Inv X pins σ H s):s.heap.FunFrames X.base X.stack:=by
  rcases I.ok.stk with e | ⟨e,hf⟩
  · rw [e]; exact I.funs
  · rw [e]
    obtain ⟨m,hn,_⟩:=I.loc
    refine .cons (by rw [I.ok.kind]; decide) hf hn ?_ I.funs
    exact Heap.get?_none_of_le (Nat.le_trans I.ok.bsz I.ok.above)
theorem Inv.stkSub (I:Inv X pins σ H s):∀ b∈frs X.stack,b∈X.env.locals::X.fs:=fun b hb=>by
  rcases I.ok.stk with e | ⟨e,hf⟩
  · rw [e] at hb; exact List.mem_cons_of_mem _ hb
  · rw [e] at hb
    unfold frs at hb
    rw [List.filterMap_cons,hf] at hb
    exact hb
theorem Inv.stkFree (I:Inv X pins σ H s):∀ b∈frs X.stack,H b=none:=fun b hb=>by
  rcases List.mem_cons.mp (I.stkSub b hb) with e | hb
  · rw [e]; exact I.free
  · obtain ⟨_,o,ho,_⟩:=I.ok.funs.mem hb
    exact I.base.free b o ho (I.ok.frf b hb) fun z=>I.ok.exfs b z hb
theorem Inv.step {g':Array GenState}{t':Nat}{d':Drawn}{ch:List Addr}(I:Inv X pins σ H s)
    (hch:∀ b∈ch,(b∈X.ex∨X.s_0.heap.objs.size≤b)∧b≠X.env.locals∧(∀ x c,X.env.cells.lookup x=some c→c≠b)∧∀ p∈X.pn++pins,p.1≠b)
    (keep:∀ b o,b≠X.env.locals→b ∉ X.fs→b ∉ ch→s.heap.get? b=some o→H b=none→h'.get? b=some o)
    (slot:∀ b o,b≠X.env.locals→b∈X.fs→b ∉ ch→s.heap.get? b=some o→H b=none→∃ sl,h'.get? b=some { o with slots:=sl }) (free:∀ b o,b ∉ ch→s.heap.get? b=some o→H b=none→H' b=none)
    (there:∀ b o,b ∉ ch→s.heap.get? b=some o→∃ o',h'.get? b=some o')
    (tups:∀ b xs,H b=some (.tup xs)→H' b=some (.tup xs)) (frzs:∀ b o u,H b=some (.frz o u)→H' b=some (.frz o u)) (tbls:∀ b ps,H b=some (.tbl ps)→∃ more,H' b=some (.tbl (ps++more)))
    (ns:∀ m,s.heap.Ns X.env.locals m→h'.Ns X.env.locals m) (hok:HOk X.prog X.w H' h') (hg:AllBare g') :
    Inv X pins σ H' { s with heap:=h',gens:=g',drawn:=d',toks:=t' }:=by
  have neL:∀ b o,X.s_0.heap.get? b=some o→b≠X.env.locals:=fun b o e=>Nat.ne_of_lt (Nat.lt_of_lt_of_le (Heap.lt_size e) I.ok.above)
  have neC:∀ b o,X.s_0.heap.get? b=some o→b ∉ X.ex→b ∉ ch:=fun b o e hx hb=>by
    rcases (hch b hb).1 with z | z
    · exact hx z
    · exact absurd (Nat.lt_of_lt_of_le (Heap.lt_size e) z) (Nat.lt_irrefl _)
  have cellK:∀ x c,X.env.cells.lookup x=some c→∀ v,s.heap.IsCell c v→h'.IsCell c v:=fun x c e v ⟨o,ho,hd⟩=>by
    have nch:c ∉ ch:=fun z=>(hch c z).2.2.1 x c e rfl
    by_cases hc:c∈X.fs
    · obtain ⟨sl,q⟩:=slot c o (I.cne x c e) hc nch ho (I.freeC x c e)
      exact ⟨_,q,hd⟩
    · exact ⟨o,keep c o (I.cne x c e) hc nch ho (I.freeC x c e),hd⟩
  refine ⟨I.ok,I.os,hg,⟨fun b o e n hb hx=>?_,fun b o e n hb hx=>?_,fun b o e n hx=>?_,fun b o e hx=>?_,fun b xs e=>tups b xs (I.base.tups b xs e),fun b o xs e=>frzs b o xs (I.base.frzs b o xs e),fun b ps e=>?_⟩,?_,fun x c e=>?_,?_,fun x c e=>?_,fun p hp=>?_,hok,I.len⟩
  · exact keep b o (neL b o e) hb (neC b o e hx) (I.base.keep b o e n hb hx) (I.base.free b o e n hx)
  · obtain ⟨sl,e1⟩:=I.base.slot b o e n hb hx
    obtain ⟨sl',e2⟩:=slot b _ (neL b o e) hb (neC b o e hx) e1 (I.base.free b o e n hx)
    exact ⟨sl',e2⟩
  · obtain ⟨o',e1⟩:=I.base.there b o e hx
    exact free b o' (neC b o e hx) e1 (I.base.free b o e n hx)
  · obtain ⟨o',e1⟩:=I.base.there b o e hx
    exact there b o' (neC b o e hx) e1
  · obtain ⟨m1,e1⟩:=I.base.tbls b ps e
    obtain ⟨m2,e2⟩:=tbls b _ e1
    exact ⟨m1++m2,by rw [e2,Array.append_assoc]⟩
  · obtain ⟨m,hn,hl⟩:=I.loc
    refine ⟨m,ns m hn,fun i x v e1 e2 e3=>?_⟩
    obtain ⟨u,r,l⟩:=hl i x v e1 e2 e3
    refine ⟨u,r,?_⟩
    rcases l with l | ⟨k,c,e,z⟩
    · exact .inl l
    · exact .inr ⟨k,c,e,cellK x c e _ z⟩
  · obtain ⟨v,z⟩:=I.cell x c e
    exact ⟨v,cellK x c e v z⟩
  · obtain ⟨m,⟨o,_,_,ho,_⟩,_⟩:=I.loc
    exact free _ o (fun z=>(hch _ z).2.1 rfl) ho I.free
  · obtain ⟨v,o,ho,hd⟩:=I.cell x c e
    exact free c o (fun z=>(hch c z).2.2.1 x c e rfl) ho (I.freeC x c e)
  · obtain ⟨e,n,ne,nf,d⟩:=I.pin p hp
    have nch:p.1 ∉ ch:=fun z=>(hch p.1 z).2.2.2 p hp rfl
    exact ⟨keep p.1 p.2 ne nf nch e n,free p.1 p.2 nch e n,ne,nf,d⟩
theorem Inv.un {t':Nat}(I:Inv X pins σ H s) (u:Un X.fs [] H H' s.heap h') (hok:HOk X.prog X.w H' h'):Inv X pins σ H' { s with heap:=h',toks:=t' }:=by
  obtain ⟨m,⟨o,es,ep,ho,r⟩,_⟩:=id I.loc
  obtain ⟨sl,hL⟩:=u.any ho I.free (by simp)
  exact I.step (g':=s.gens) (d':=s.drawn) (ch:=[]) (fun _ z=>nomatch z) (fun b o _ hb _ e n=>u.keep b o e n hb (by simp)) (fun b o _ hb _ e n=>u.slot b o e n hb (by simp)) (fun b o _ e n=>u.free b o e n (by simp)) (fun b o _ e=>u.there b o e (by simp)) u.tups u.frzs u.tbls (fun m' hm=>by
    obtain ⟨o',es',ep',ho',r'⟩:=hm
    rw [ho] at ho'; cases ho'
    exact ⟨_,es',ep',hL,r'⟩) hok I.bare
theorem Inv.call {g':Array GenState}{t':Nat}{d':Drawn}{ch:List Addr}(I:Inv X pins σ H s) (u:Un (frs X.stack) ch H H' s.heap h') (hok:HOk X.prog X.w H' h') (hg:AllBare g')
    (hch:∀ b∈ch,(b∈X.ex∨X.s_0.heap.objs.size≤b)∧b≠X.env.locals∧(∀ x c,X.env.cells.lookup x=some c→c≠b)∧∀ p∈X.pn++pins,p.1≠b) :
    Inv X pins σ H' { s with heap:=h',gens:=g',drawn:=d',toks:=t' }:=by
  obtain ⟨m,⟨o,es,ep,ho,r⟩,_⟩:=id I.loc
  obtain ⟨sl,hL⟩:=u.any ho I.free fun z=>(hch _ z).2.1 rfl
  exact I.step (ch:=ch) hch (fun b o hL hb hc e n=>u.keep b o e n (fun z=>(List.mem_cons.mp (I.stkSub b z)).elim hL hb) hc) (fun b o _ _ hc e n=>u.any e n hc) (fun b o hc e n=>u.free b o e n hc) (fun b o hc e=>u.there b o e hc) u.tups u.frzs u.tbls (fun m' hm=>by
    obtain ⟨o',es',ep',ho',r'⟩:=hm
    rw [ho] at ho'; cases ho'
    exact ⟨_,es',ep',hL,r'⟩) hok hg
theorem Inv.turned {t':Nat}{it:Addr}(I:Inv X pins σ H s) (k:∀ b o,b≠it→s.heap.get? b=some o→h'.get? b=some o) (hn:H it=none) (hL:it≠X.env.locals)
    (h1:it∈X.ex∨X.s_0.heap.objs.size≤it) (h2:∀ x c,X.env.cells.lookup x=some c→c≠it) (h3:∀ p∈X.pn++pins,p.1≠it):Inv X pins σ H { s with heap:=h',toks:=t' }:=by
  have nit:∀ b u,H b=some u→b≠it:=fun b u e z=>by rw [z,hn] at e; cases e
  refine I.step (g':=s.gens) (d':=s.drawn) (ch:=[it]) (fun b hb=>?_) (fun b o _ _ hc e _=>k b o (fun z=>hc (by simp [z])) e) (fun b o _ _ hc e _=>⟨o.slots,k b o (fun z=>hc (by simp [z])) e⟩) (fun _ _ _ _ n=>n)
    (fun b o hc e=>⟨o,k b o (fun z=>hc (by simp [z])) e⟩) (fun _ _ e=>e) (fun _ _ _ e=>e) (fun b ps e=>⟨#[],by rw [e]; simp⟩) (fun m hm=>?_) (fun b u e=>?_) I.bare
  · have e:b=it:=by simpa using hb
    subst e
    exact ⟨h1,hL,h2,h3⟩
  · obtain ⟨o,es,ep,ho,r⟩:=hm
    exact ⟨o,es,ep,k _ o (Ne.symm hL) ho,r⟩
  · refine (I.hok b u e).stay (fun c v hc q=>k c v ?_ q) (fun _ q=>q) fun _ _ q=>q
    rcases hc with z | z
    · rw [z]; exact nit b u e
    · exact nit c _ z
theorem Inv.tok (I:Inv X pins σ H s) (t:Nat):Inv X pins σ H { s with toks:=t }:=I.un (h':=s.heap) (t':=t) Un.refl I.hok
theorem Inv.kept {t':Nat}(I:Inv X pins σ H s) (k:∀ b u,s.heap.get? b=some u→h'.get? b=some u):Inv X pins σ H { s with heap:=h',toks:=t' }:=I.un (Un.kept k) (I.hok.kept k)
theorem Inv.laid {a:Addr}{o:HO}{t':Nat}(I:Inv X pins σ H s) (k:∀ b u,s.heap.get? b=some u→h'.get? b=some u) (hp:s.heap.objs.size≤a) (new:ObjOk X.prog X.w (upd H a o) h' a o) :
    Inv X pins σ (upd H a o) { s with heap:=h',toks:=t' }:=I.un (Un.laid k hp (I.hok.fresh hp)) (I.hok.laid k hp new)
theorem Inv.write {x e:Addr}{o:HO}{t':Nat}(I:Inv X pins σ H s) (mu:Mut (H x)) (he:e=x∨H e=some (.own x)) (k:∀ b u,b≠e→s.heap.get? b=some u→h'.get? b=some u) (heo:∃ u,h'.get? e=some u)
    (new:ObjOk X.prog X.w (upd H x o) h' x o):Inv X pins σ (upd H x o) { s with heap:=h',toks:=t' }:=I.un (Un.write mu he k heo) (I.hok.write mu he k heo new)
theorem Inv.weak {σ':List (Option V)}(I:Inv X pins σ H s) (hl:σ'.length=σ.length) (w:∀ (i:Nat) v,σ'[i]?=some (some v)→σ[i]?=some (some v)):Inv X pins σ' H s:=
  ⟨I.ok,I.os,I.bare,I.base,let ⟨m,hn,hl'⟩:=I.loc; ⟨m,hn,fun i x v e1 e2 e3=>hl' i x v e1 (w i v e2) e3⟩,I.cell,I.free,I.freeC,I.pin,I.hok,hl.trans I.len⟩
theorem Inv.pins_of {pins':List (Addr×Obj)}(I:Inv X pins σ H s) (h:∀ p∈pins',s.heap.get? p.1=some p.2∧H p.1=none∧p.1≠X.env.locals∧p.1 ∉ X.fs∧∀ v,p.2.data≠.cell v):Inv X pins' σ H s:=
  ⟨I.ok,I.os,I.bare,I.base,I.loc,I.cell,I.free,I.freeC,fun p hp=>(List.mem_append.mp hp).elim (fun z=>I.pin p (List.mem_append_left _ z)) (h p),I.hok,I.len⟩
theorem nodup_ix {N:List Str}(hN:N.Nodup) {i j:Nat}{x:Str}(a:N[i]?=some x) (b:N[j]?=some x):i=j:=by
  obtain ⟨h1,e1⟩:=List.getElem?_eq_some_iff.mp a
  obtain ⟨h2,e2⟩:=List.getElem?_eq_some_iff.mp b
  exact (List.getElem_inj hN).mp (e1.trans e2.symm)
theorem store_ok2 {M:Model}{A:Around}{E:Value→Shared→Prop}{i:Nat}{x:Str}{v:V}{u:Value}{Q:Unit→Shared→Prop}(I:Inv X pins σ H s) (hN:X.N.Nodup) (hi:X.N[i]?=some x) (hx:Loc X.env.scope x) (r:RelV v u)
    (h:∀ s',Inv X pins (σ.set i (some v)) H s'→(∃ a,Heap.SameBut a s.heap s'.heap∧(a=X.env.locals∨X.env.cells.lookup x=some a))→Q () s') (hf:X.fn x=true∨X.env.scope.names.lookup x=some .local:=by first | exact .inl rfl | exact .inr rfl | assumption):wpAny M A (storeName X.env x u) Q E s:=by
  obtain ⟨m,hn,hl⟩:=id I.loc
  have hcls:(X.env.scope.kind==.class || (X.env.scope.kind==.module&&X.env.locals != X.env.globals))=false:=by rw [I.ok.kind]; rfl
  have hiσ:i<σ.length:=by rw [I.len]; exact (List.getElem?_eq_some_iff.mp hi).1
  have cne:=I.cne
  have tracked:∀ {a:Addr} {h':Heap},(∃ o,s.heap.get? a=some o∧H a=none)→Heap.SameBut a s.heap h'→HOk X.prog X.w H h':=fun {a h'} ha hs b ob e=>by
    obtain ⟨_,_,hfree⟩:=ha
    refine (I.hok b ob e).stay (fun c w' hc q=>(hs.2 c ?_).trans q) (fun _ q=>q) fun _ _ q=>q
    rintro rfl
    rcases hc with rfl | hc
    · rw [hfree] at e; cases e
    · rw [hfree] at hc; cases hc
  rcases hx with hk | hk
  · refine wpAny_storeName_local hk hn (fun h' hn' hs=>?_) hcls
    obtain ⟨oL,_,_,hoL,_⟩:=id hn
    refine h _ ⟨I.ok,I.os,I.bare,⟨fun b o e n hb hx=>?_,fun b o e n hb hx=>?_,I.base.free,fun b o e hx=>?_,I.base.tups,I.base.frzs,I.base.tbls⟩,⟨_,hn',fun j y v' e1 e2 e3=>?_⟩,fun y c e=>?_,I.free,I.freeC,fun p hp=>?_,tracked ⟨oL,hoL,I.free⟩ hs,by simpa using I.len⟩ ⟨_,hs,.inl rfl⟩
    · exact (hs.2 b (Nat.ne_of_lt (Nat.lt_of_lt_of_le (Heap.lt_size e) I.ok.above))).trans (I.base.keep b o e n hb hx)
    · obtain ⟨sl,e1⟩:=I.base.slot b o e n hb hx
      exact ⟨sl,(hs.2 b (Nat.ne_of_lt (Nat.lt_of_lt_of_le (Heap.lt_size e) I.ok.above))).trans e1⟩
    · obtain ⟨o',e1⟩:=I.base.there b o e hx
      exact ⟨o',(hs.2 b (Nat.ne_of_lt (Nat.lt_of_lt_of_le (Heap.lt_size e) I.ok.above))).trans e1⟩
    · by_cases hj:j=i
      · subst hj
        rw [hi] at e1; cases e1
        rw [List.getElem?_set_self hiσ] at e2
        cases e2
        exact ⟨u,r,.inl ⟨hk,by simp⟩⟩
      · rw [List.getElem?_set_ne (Ne.symm hj)] at e2
        obtain ⟨u',r',q⟩:=hl j y v' e1 e2 e3
        refine ⟨u',r',?_⟩
        rcases q with ⟨k,e⟩ | ⟨k,c,e,z⟩
        · refine .inl ⟨k,?_⟩
          have:y≠x:=fun e=>hj (nodup_ix hN e1 (e ▸ hi))
          simp [this,e]
        · exact .inr ⟨k,c,e,z.sameBut hs (cne y c e)⟩
    · obtain ⟨w',z⟩:=I.cell y c e
      exact ⟨w',z.sameBut hs (cne y c e)⟩
    · obtain ⟨e,n,ne,nf,d⟩:=I.pin p hp
      exact ⟨(hs.2 p.1 ne).trans e,n,ne,nf,d⟩
  · have hfn:X.fn x=true:=by
      rcases hf with z | z
      · exact z
      · rw [z] at hk; cases hk
    obtain ⟨c,hc⟩:=I.ok.has x (.inl hk)
    obtain ⟨w',z⟩:=I.cell x c hc
    refine wpAny_storeName_cell I.ok.kind hk hc z (fun h' hc' hs=>?_)
    obtain ⟨oc,hoc,hocd⟩:=id z
    refine h { s with heap:=h' } ⟨I.ok,I.os,I.bare,⟨fun b o e n hb hx=>?_,fun b o e n hb hx=>?_,I.base.free,fun b o e hx=>?_,I.base.tups,I.base.frzs,I.base.tbls⟩,⟨m,hn.sameBut hs (Ne.symm (cne x c hc)),fun j y v' e1 e2 e3=>?_⟩,fun y c' e=>?_,I.free,I.freeC,fun p hp=>?_,tracked ⟨oc,hoc,I.freeC x c hc⟩ hs,by simpa using I.len⟩ ⟨c,hs,.inr hc⟩
    · exact (hs.2 b (Nat.ne_of_lt (Nat.lt_of_lt_of_le (Heap.lt_size e) (I.ok.cab x c hfn hc)))).trans (I.base.keep b o e n hb hx)
    · obtain ⟨sl,e1⟩:=I.base.slot b o e n hb hx
      exact ⟨sl,(hs.2 b (Nat.ne_of_lt (Nat.lt_of_lt_of_le (Heap.lt_size e) (I.ok.cab x c hfn hc)))).trans e1⟩
    · obtain ⟨o',e1⟩:=I.base.there b o e hx
      exact ⟨o',(hs.2 b (Nat.ne_of_lt (Nat.lt_of_lt_of_le (Heap.lt_size e) (I.ok.cab x c hfn hc)))).trans e1⟩
    · by_cases hj:j=i
      · subst hj
        rw [hi] at e1; cases e1
        rw [List.getElem?_set_self hiσ] at e2
        cases e2
        exact ⟨u,r,.inr ⟨.inl hk,c,hc,hc'⟩⟩
      · rw [List.getElem?_set_ne (Ne.symm hj)] at e2
        obtain ⟨u',r',q⟩:=hl j y v' e1 e2 e3
        refine ⟨u',r',?_⟩
        rcases q with q | ⟨k,c',e,z'⟩
        · exact .inl q
        · refine .inr ⟨k,c',e,z'.sameBut hs ?_⟩
          rintro rfl
          exact hj (nodup_ix hN e1 (I.ok.inj _ _ _ e hc ▸ hi))
    · by_cases hcc:c'=c
      · subst hcc; exact ⟨_,hc'⟩
      · obtain ⟨w2,z2⟩:=I.cell y c' e
        exact ⟨w2,z2.sameBut hs hcc⟩
    · obtain ⟨e,n,ne,nf,d⟩:=I.pin p hp
      refine ⟨(hs.2 p.1 ?_).trans e,n,ne,nf,d⟩
      intro q
      rw [q,hoc] at e
      have q':oc=p.2:=Option.some.inj e
      exact d w' (by rw [←q']; exact hocd)
theorem store_ok {M:Model}{A:Around}{E:Value→Shared→Prop}{i:Nat}{x:Str}{v:V}{u:Value}{Q:Unit→Shared→Prop}(I:Inv X pins σ H s) (hN:X.N.Nodup) (hi:X.N[i]?=some x) (hx:Loc X.env.scope x) (r:RelV v u)
    (h:∀ s',Inv X pins (σ.set i (some v)) H s'→Q () s') (hf:X.fn x=true∨X.env.scope.names.lookup x=some .local:=by first | exact .inl rfl | exact .inr rfl | assumption):wpAny M A (storeName X.env x u) Q E s:=
  store_ok2 I hN hi hx r (fun s' I' _=>h s' I') hf
theorem Inv.call' {s':Shared}{ch:List Addr}(I:Inv X pins σ H s) (ho:s'.os=s.os) (u:Un (frs X.stack) ch H H' s.heap s'.heap) (hok:HOk X.prog X.w H' s'.heap) (hg:AllBare s'.gens)
    (hch:∀ b∈ch,(b∈X.ex∨X.s_0.heap.objs.size≤b)∧b≠X.env.locals∧(∀ x c,X.env.cells.lookup x=some c→c≠b)∧∀ p∈X.pn++pins,p.1≠b):Inv X pins σ H' s':=by
  obtain ⟨h',g',d',t',o'⟩:=s'
  have e:o'=s.os:=ho
  subst e
  exact I.call (g':=g') (t':=t') (d':=d') u hok hg hch
end
abbrev XK:=Value→Option Addr→Hp→Prop
abbrev St:=List (Option V)
abbrev VK:=V→Hp→Prop
abbrev TE:=St→Hp→VK→Prop
abbrev TT:=St→Hp→(Bool→Hp→Prop)→Prop
abbrev TA:=St→Hp→(List V→Hp→Prop)→Prop
structure Ends where
  nx:St→Hp→Prop
  rt:VK
  bk:St→Hp→Prop:=fun _ _=>False
  ct:St→Hp→Prop:=fun _ _=>False
abbrev TS:=Ends→St→Hp→Prop
def EP (X:Cx) (pins:List (Addr×Obj)) (σ:St) (Q:VK) (u:Value) (s':Shared):Prop:=∃ v H',Inv X pins σ H' s'∧RelV v u∧Q v H'
def TP (X:Cx) (pins:List (Addr×Obj)) (σ:St) (Q:Bool→Hp→Prop) (b:Bool) (s':Shared):Prop:=∃ H',Inv X pins σ H' s'∧Q b H'
def AP (X:Cx) (pins:List (Addr×Obj)) (σ:St) (Q:List V→Hp→Prop) (us:List Value) (s':Shared):Prop:=∃ vs H',Inv X pins σ H' s'∧Vals vs us∧Q vs H'
def SP (X:Cx) (pins:List (Addr×Obj)) (D:Ends) (f:Flow) (s':Shared):Prop:=
  match f with
  | .next=>∃ σ' H',Inv X pins σ' H' s'∧D.nx σ' H'
  | .brk=>∃ σ' H',Inv X pins σ' H' s'∧D.bk σ' H'
  | .cont=>∃ σ' H',Inv X pins σ' H' s'∧D.ct σ' H'
  | .ret u=>∃ v σ' H',Inv X pins σ' H' s'∧RelV v u∧D.rt v H'
def PE (X:Cx) (e:Expr) (t:TE):Prop:=
  ∀ (pins:List (Addr×Obj)) (s:Shared) (σ:St) (H:Hp) (Q:VK),Inv X pins σ H s→t σ H Q→wpAny (model X.prog X.w) X.A (eval e X.env) (EP X pins σ Q) X.xe s
def PT (X:Cx) (e:Expr) (t:TT):Prop:=
  ∀ (pins:List (Addr×Obj)) (s:Shared) (σ:St) (H:Hp) (Q:Bool→Hp→Prop),Inv X pins σ H s→t σ H Q→wpAny (model X.prog X.w) X.A (isTrue e X.env (eval e X.env)) (TP X pins σ Q) X.xe s
def PW (X:Cx) (e:Expr) (t:TT):Prop:=
  ∀ (whole:Sem Value) (pins:List (Addr×Obj)) (s:Shared) (σ:St) (H:Hp) (Q:Bool→Hp→Prop),Inv X pins σ H s→t σ H Q→wpAny (model X.prog X.w) X.A (isTrue e X.env whole) (TP X pins σ Q) X.xe s
theorem PW.pt {X:Cx}{e:Expr}{t:TT}(h:PW X e t):PT X e t:=h _
def PA (X:Cx) (es:List Expr) (t:TA):Prop:=
  ∀ (pos:Pos) (pins:List (Addr×Obj)) (s:Shared) (σ:St) (H:Hp) (Q:List V→Hp→Prop),Inv X pins σ H s→t σ H Q→wpAny (model X.prog X.w) X.A (spliced (backTo pos (starEach es X.env))) (AP X pins σ Q) X.xe s
def PS (X:Cx) (st:Stmt) (t:TS):Prop:=
  ∀ (pins:List (Addr×Obj)) (s:Shared) (σ:St) (H:Hp) (D:Ends),Inv X pins σ H s→t D σ H→wpAny (model X.prog X.w) X.A (exec st X.env) (SP X pins D) X.xe s
def PSs (X:Cx) (st:List Stmt) (t:TS):Prop:=
  ∀ (pins:List (Addr×Obj)) (s:Shared) (σ:St) (H:Hp) (D:Ends),Inv X pins σ H s→t D σ H→wpAny (model X.prog X.w) X.A (execs st X.env) (SP X pins D) X.xe s
theorem thn {α:Type}{t:Sem α}{Q Q':α→Shared→Prop}{M:Model}{A:Around}{E:Value→Shared→Prop}{s:Shared}(h:wpAny M A t Q E s) (hQ:∀ a s,Q a s→Q' a s):wpAny M A t Q' E s:=wpAny_mono h hQ fun _ _ x=>x
end L2
namespace L2
open PySem PySem.Spec PyProof.Rows
section
variable {X:Cx}
theorem bin {a b:Expr}{ta tb:TE}(ha:PE X a ta) (hb:PE X b tb) {pins:List (Addr×Obj)}{s:Shared}{σ:St}{H:Hp}{R:V→V→Hp→Prop}(I:Inv X pins σ H s) (h:ta σ H fun x H1=>tb σ H1 fun y H2=>R x y H2)
    {α:Type} {Q:α→Shared→Prop} {f:Value→Value→Sem α}
    (hf:∀ v u s2 x y H2,Inv X pins σ H2 s2→RelV x v→RelV y u→R x y H2→wpAny (model X.prog X.w) X.A (f v u) Q X.xe s2) :
    wpAny (model X.prog X.w) X.A (eval a X.env) (fun v s₁=>wpAny (model X.prog X.w) X.A (eval b X.env) (fun u s₂=>wpAny (model X.prog X.w) X.A (f v u) Q X.xe s₂) X.xe s₁) X.xe s:=by
  refine thn (ha pins s σ H _ I h) fun v s1 ⟨x,H1,I1,r1,q1⟩=>?_
  refine thn (hb pins s1 σ H1 _ I1 q1) fun u s2 ⟨y,H2,I2,r2,q2⟩=>?_
  exact hf v u s2 x y H2 I2 r1 r2 q2
def tVar (i:Nat):TE:=fun σ H Q=>∃ v,σ[i]?=some (some v)∧Q v H
def tC (v:V):TE:=fun _ H Q=>Q v H
theorem pe_var {i:Nat}{x:Str}{pos:Pos}(hN:X.N[i]?=some x) (hv:Vis X.env.scope x) (hd:(x==("__debug__" : Str))=false:=by decide) (hcd:(x==("__classdict__" : Str))=false:=by decide):PE X (.Name x pos) (tVar i):=by
  intro pins s σ H Q I h
  obtain ⟨v,e,h⟩:=h
  obtain ⟨m,hn,hl⟩:=I.loc
  obtain ⟨u,r,l⟩:=hl i x v hN e hv
  have fin:EP X pins σ Q u s:=⟨v,H,I,r,h⟩
  rcases l with ⟨hk,hm⟩ | ⟨hk,c,hc,hcell⟩
  · exact wpAny_Name (wpAny_loadName_local I.ok.kind hk hn hm fin) hd
  · rcases hk with hk | hk
    · exact wpAny_Name (wpAny_loadName_cell I.ok.kind hk hc hcell fin) hd
    · exact wpAny_Name (wpAny_loadName_free I.ok.kind hk hc hcell fin hcd) hd
theorem pe_int {i j pos}:PE X (.Constant (.int i) j pos) (tC (.int i)):=fun _ _ _ H _ I h=>wpAny_Constant_int ⟨.int i,H,I.tok _,⟨_,rfl⟩,h⟩
theorem pe_bl {b j pos}:PE X (.Constant (.bool b) j pos) (tC (.bl b)):=fun _ _ _ H _ I h=>Constant_bool ⟨.bl b,H,I,rfl,h⟩
theorem pe_non {j pos}:PE X (.Constant .none j pos) (tC .non):=fun _ _ _ H _ I h=>Constant_none ⟨.non,H,I,rfl,h⟩
theorem pe_str {x j pos}:PE X (.Constant (.str x) j pos) (tC (.str x)):=fun _ _ _ H _ I h=>Calls.Constant_str ⟨.str x,H,I.tok _,⟨_,rfl⟩,h⟩
def Gl (X:Cx) (x:Str):Prop:=X.env.kindOf x=some .globalImplicit
theorem ld_glob {E:Value→Shared→Prop}{pins:List (Addr×Obj)}{s:Shared}{σ:St}{H:Hp}{x:Str}{u:Value}{pos:Pos}{Q:Value→Shared→Prop}(I:Inv X pins σ H s) (hg:Gl X x) (hm:X.mg x=some u) (h:Q u s)
    (hd:(x==("__debug__" : Str))=false:=by decide):wpAny (model X.prog X.w) X.A (eval (.Name x pos) X.env) Q E s:=
  Calls.Name_function_global I.ok.kind hg (Calls.loadGlobal_global (by rw [I.ok.glob]; exact I.mod.glob.keeps I.bk) hm h) hd
theorem ld_blt {E:Value→Shared→Prop}{pins:List (Addr×Obj)}{s:Shared}{σ:St}{H:Hp}{x:Str}{u:Value}{pos:Pos}{Q:Value→Shared→Prop}(I:Inv X pins σ H s) (hg:Gl X x) (hm:X.mg x=none) (hv:bootBuiltins x=some u) (h:Q u s)
    (hn:x ≠ "__name__" := by decide) (hd:(x==("__debug__" : Str))=false:=by decide):wpAny (model X.prog X.w) X.A (eval (.Name x pos) X.env) Q E s:=by
  obtain ⟨mb,h1,h2⟩:=I.mod.blt
  exact Calls.Name_function_global I.ok.kind hg (Calls.loadGlobal_builtin (by rw [I.ok.glob]; exact I.mod.glob.keeps I.bk) hm (by rw [I.ok.blt]; exact h1.keeps I.bk) ((h2 x hn).trans hv) h) hd
theorem pe_glob {x:Str}{v:V}{u:Value}{pos:Pos}(hg:Gl X x) (hm:X.mg x=some u) (r:RelV v u) (hd:(x==("__debug__" : Str))=false:=by decide):PE X (.Name x pos) (tC v):=
  fun _ _ _ H _ I h=>ld_glob I hg hm ⟨v,H,I,r,h⟩ hd
variable {a b:Expr}{ta tb:TE}{pos:Pos}
def PC (X:Cx) (op:CmpOp) (a b:Expr) (t:TE):Prop:=
  ∀ (pins:List (Addr×Obj)) (s:Shared) (σ:St) (H:Hp) (Q:VK),Inv X pins σ H s→t σ H Q→
    wpAny (model X.prog X.w) X.A (eval a X.env) (fun v s₁=>wpAny (model X.prog X.w) X.A (eval b X.env) (fun u s₂=>wpAny (model X.prog X.w) X.A (compareOp op v u) (EP X pins σ Q) X.xe s₂) X.xe s₁) X.xe s
def tB (t:TE):TT:=fun σ H Q=>t σ H fun x H1=>∃ c,x=.bl c∧Q c H1
theorem pt_cmp {op:CmpOp}{t:TE}(h:PC X op a b t) (h1:behindInMarks op b=false:=by first | exact nobehind _ (by decide) (by decide) | rfl):PT X (.Compare a [op] [b] pos) (tB t):=by
  intro pins s σ H Q I hw
  refine wpAny_isTrue_Compare1 (thn (h pins s σ H _ I hw) fun v s1 h1=>thn h1 fun u s2 h2=>thn h2 fun c s3 ⟨x,H1,I1,r1,q1⟩=>?_) h1
  obtain ⟨d,rfl,q⟩:=q1
  cases r1
  exact wpAny_truthy_bool ⟨H1,I1,q⟩
theorem pt_val {e:Expr}{t:TE}(h:PE X e t) (he:∀ whole,isTrue e X.env whole=(do let v←whole; standAt e.pos; holding [v] (truthy v)):=by intro _; rfl):PT X e (tB t):=by
  intro pins s σ H Q I hw
  refine isTrue_plain (thn (h pins s σ H _ I hw) fun v s1 ⟨x,H1,I1,r1,q1⟩=>?_) (he _)
  obtain ⟨d,rfl,q⟩:=q1
  cases r1
  exact wpAny_truthy_bool ⟨H1,I1,q⟩
variable {tA tB':TT}{rest:List Expr}
def tAnd (t u:TT):TT:=fun σ H Q=>t σ H fun c H1=>if c=true then u σ H1 Q else Q false H1
def tOr (t u:TT):TT:=fun σ H Q=>t σ H fun c H1=>if c=true then Q true H1 else u σ H1 Q
def tNot (t:TT):TT:=fun σ H Q=>t σ H fun c H1=>Q (!c) H1
theorem pw_and1 (ha:PT X a tA):PW X (.BoolOp .And [a] pos) tA:=by
  intro wh pins s σ H Q I h
  refine isTrue_and (thn (ha pins s σ H Q I h) fun c s1 e=>?_)
  cases c with
  | true=>exact isTrue_and_nil e
  | false=>exact e
theorem pw_or1 (ha:PT X a tA):PW X (.BoolOp .Or [a] pos) tA:=by
  intro wh pins s σ H Q I h
  refine isTrue_or (thn (ha pins s σ H Q I h) fun c s1 e=>?_)
  cases c with
  | false=>exact isTrue_or_nil e
  | true=>exact e
theorem pw_and (ha:PT X a tA) (hb:PW X (.BoolOp .And (b::rest) pos) tB'):PW X (.BoolOp .And (a::b::rest) pos) (tAnd tA tB'):=by
  intro wh pins s σ H Q I h
  refine isTrue_and (thn (ha pins s σ H _ I h) fun c s1 ⟨H1,I1,q1⟩=>?_)
  cases c with
  | true=>exact hb wh pins s1 σ H1 Q I1 q1
  | false=>exact ⟨H1,I1,q1⟩
theorem pw_or (ha:PT X a tA) (hb:PW X (.BoolOp .Or (b::rest) pos) tB'):PW X (.BoolOp .Or (a::b::rest) pos) (tOr tA tB'):=by
  intro wh pins s σ H Q I h
  refine isTrue_or (thn (ha pins s σ H _ I h) fun c s1 ⟨H1,I1,q1⟩=>?_)
  cases c with
  | true=>exact ⟨H1,I1,q1⟩
  | false=>exact hb wh pins s1 σ H1 Q I1 q1
theorem pt_not (ha:PT X a tA):PT X (.UnaryOp .Not a pos) (tNot tA):=by
  intro pins s σ H Q I h
  exact isTrue_not (ha pins s σ H (fun c H1=>Q (!c) H1) I h)
def tAndV (ta tb:TE):TE:=fun σ H Q=>ta σ H fun x H1=>∃ c,x=.bl c∧if c=true then tb σ H1 Q else Q (.bl false) H1
def tOrV (ta tb:TE):TE:=fun σ H Q=>ta σ H fun x H1=>∃ c,x=.bl c∧if c=true then Q (.bl true) H1 else tb σ H1 Q
theorem pe_one {op}{t:TE}(h:PE X a t):PE X (.BoolOp op [a] pos) t:=fun pins s σ H Q I hw=>BoolOp_one (h pins s σ H Q I hw)
theorem pe_and (ha:PE X a ta) (hb:PE X (.BoolOp .And (b::rest) pos) tb):PE X (.BoolOp .And (a::b::rest) pos) (tAndV ta tb):=by
  intro pins s σ H Q I h
  refine BoolOp_and (thn (ha pins s σ H _ I h) fun v s1 ⟨x,H1,I1,r1,q1⟩=>?_)
  obtain ⟨c,rfl,q1⟩:=q1
  cases r1
  refine wpAny_truthy_bool ?_
  cases c with
  | true=>exact hb pins s1 σ H1 Q I1 q1
  | false=>exact ⟨.bl false,H1,I1,rfl,q1⟩
theorem pe_or (ha:PE X a ta) (hb:PE X (.BoolOp .Or (b::rest) pos) tb):PE X (.BoolOp .Or (a::b::rest) pos) (tOrV ta tb):=by
  intro pins s σ H Q I h
  refine BoolOp_or (thn (ha pins s σ H _ I h) fun v s1 ⟨x,H1,I1,r1,q1⟩=>?_)
  obtain ⟨c,rfl,q1⟩:=q1
  cases r1
  refine wpAny_truthy_bool ?_
  cases c with
  | false=>exact hb pins s1 σ H1 Q I1 q1
  | true=>exact ⟨.bl true,H1,I1,rfl,q1⟩
end
end L2
namespace L2
open PySem PySem.Spec PyProof.Rows
def SqL (K:PySem.W.Frag) (H:Hp) (a:Addr) (xs:List V):Prop:=
  Rd H a (.lst xs)∨
    ∃ (o:Obj) (its:Array Value) (n:Nat),K.lookup a=some o∧o.cls=.type "list" ∧ o.dict=none∧o.data=.seq its n∧its.size≤sizeLine∧Vals xs its.toList
def SqT (K:PySem.W.Frag) (H:Hp) (a:Addr) (xs:List V):Prop:=
  Rd H a (.tup xs)∨
    ∃ (o:Obj) (its:Array Value) (n:Nat),K.lookup a=some o∧o.cls=.type "tuple" ∧ o.data=.seq its n∧its.size≤sizeLine∧Vals xs its.toList
def absV:Value→Option V
  | .none=>some .non
  | .bool b=>some (.bl b)
  | .int i _=>some (.int i)
  | .str x _=>some (.str x)
  | .bytes b _=>some (.byt b)
  | .float b _=>some (.flt b)
  | .ref a=>some (.ref a)
  | .type n=>some (.ty n)
  | _=>none
theorem RelV.abs {x:V}{u:Value}(r:RelV x u):absV u=some x:=by
  cases x with
  | non=>cases r; rfl
  | bl _=>cases r; rfl
  | int _=>obtain ⟨t,rfl⟩:=r; rfl
  | str _=>obtain ⟨t,rfl⟩:=r; rfl
  | byt _=>obtain ⟨t,rfl⟩:=r; rfl
  | flt _=>obtain ⟨t,rfl⟩:=r; rfl
  | ref _=>cases r; rfl
  | ty _=>cases r; rfl
theorem RelV.inj {x y:V}{u:Value}(r:RelV x u) (q:RelV y u):x=y:=Option.some.inj (r.abs.symm.trans q.abs)
theorem Vals.inj:∀ {xs ys:List V}{us:List Value},Vals xs us→Vals ys us→xs=ys
  | _,_,_,.nil,.nil=>rfl
  | _,_,_,.cons r t,.cons r' t'=>by rw [r.inj r',Vals.inj t t']
section
variable {X:Cx}{pins:List (Addr×Obj)}{σ:St}{H:Hp}{s:Shared}{a:Addr}{xs ys:List V}
theorem SqL.of {K:PySem.W.Frag}(h:H a=some (.lst xs)):SqL K H a xs:=.inl (.inl h)
theorem SqT.of {K:PySem.W.Frag}(h:H a=some (.tup xs)):SqT K H a xs:=.inl (.inl h)
theorem Inv.list (I:Inv X pins σ H s) (h:SqL X.K H a xs):∃ its:List Value,Vals xs its∧PlainL s.heap a its.toArray∧xs.length≤sizeLine:=by
  rcases h with h | ⟨o,its,n,hk,hc,hd,hs,hz,r⟩
  · obtain ⟨z,its,n,r,e⟩:=h.ok I.hok
    exact ⟨its,r,⟨_,n,e,rfl,rfl,rfl⟩,z⟩
  · refine ⟨its.toList,r,⟨o,n,I.kIn a o hk,hc,hd,by simpa using hs⟩,?_⟩
    have e:=r.length
    simp only [Array.length_toList] at e
    omega
theorem Inv.tuple (I:Inv X pins σ H s) (h:SqT X.K H a xs):∃ its:List Value,Vals xs its∧IsTup s.heap a its.toArray∧xs.length≤sizeLine:=by
  rcases h with h | ⟨o,its,n,hk,hc,hs,hz,r⟩
  · obtain ⟨z,its,r,p⟩:=h.ok I.hok
    exact ⟨its,r,p,z⟩
  · refine ⟨its.toList,r,⟨o,I.kIn a o hk,hc,n,by simpa using hs⟩,?_⟩
    have e:=r.length
    simp only [Array.length_toList] at e
    omega
theorem Inv.list_inj (I:Inv X pins σ H s) (h:SqL X.K H a xs) (h':SqL X.K H a ys):xs=ys:=by
  obtain ⟨its,r,⟨o,n,e,_,_,d⟩,_⟩:=I.list h
  obtain ⟨its',r',⟨o',n',e',_,_,d'⟩,_⟩:=I.list h'
  rw [e] at e'; cases e'
  rw [d] at d'
  injection d' with d1 _
  have:its=its':=by simpa using congrArg Array.toList d1
  subst this
  exact r.inj r'
theorem Inv.tuple_inj (I:Inv X pins σ H s) (h:SqT X.K H a xs) (h':SqT X.K H a ys):xs=ys:=by
  obtain ⟨its,r,⟨o,e,_,n,d⟩,_⟩:=I.tuple h
  obtain ⟨its',r',⟨o',e',_,n',d'⟩,_⟩:=I.tuple h'
  rw [e] at e'; cases e'
  rw [d] at d'
  injection d' with d1 _
  have:its=its':=by simpa using congrArg Array.toList d1
  subst this
  exact r.inj r'
end
abbrev Cx.wish (X:Cx) (E:Value→Shared→Prop):Cx:={ X with xe:=E }
abbrev Cx.nox (X:Cx):Cx:=X.wish fun _ _=>False
theorem Cx.Ok.wish {X:Cx}(ok:X.Ok) (E:Value→Shared→Prop):(X.wish E).Ok:=
  ⟨ok.mod,ok.kind,ok.glob,ok.blt,ok.above,ok.inj,ok.has,ok.cab,ok.hd,ok.frames,ok.stk,ok.exf,ok.bs,ok.bsz,ok.noex,ok.exfs,ok.funs,ok.frf⟩
theorem Cx.Ok.unwish {X:Cx}{E:Value→Shared→Prop}(ok:(X.wish E).Ok):X.Ok:=
  ⟨ok.mod,ok.kind,ok.glob,ok.blt,ok.above,ok.inj,ok.has,ok.cab,ok.hd,ok.frames,ok.stk,ok.exf,ok.bs,ok.bsz,ok.noex,ok.exfs,ok.funs,ok.frf⟩
section
variable {X:Cx}{pins:List (Addr×Obj)}{σ:St}{H:Hp}{s:Shared}{E:Value→Shared→Prop}
theorem Inv.wish (I:Inv X pins σ H s) (E:Value→Shared→Prop):Inv (X.wish E) pins σ H s:=⟨I.ok.wish E,I.os,I.bare,I.base,I.loc,I.cell,I.free,I.freeC,I.pin,I.hok,I.len⟩
theorem Inv.unwish (I:Inv (X.wish E) pins σ H s):Inv X pins σ H s:=⟨I.ok.unwish,I.os,I.bare,I.base,I.loc,I.cell,I.free,I.freeC,I.pin,I.hok,I.len⟩
theorem SP.unwish {D:Ends}{f:Flow}{s':Shared}(h:SP (X.wish E) pins D f s'):SP X pins D f s':=by
  cases f with
  | next=>obtain ⟨σ',H',I,q⟩:=h; exact ⟨σ',H',I.unwish,q⟩
  | brk=>obtain ⟨σ',H',I,q⟩:=h; exact ⟨σ',H',I.unwish,q⟩
  | cont=>obtain ⟨σ',H',I,q⟩:=h; exact ⟨σ',H',I.unwish,q⟩
  | ret u=>obtain ⟨v,σ',H',I,r,q⟩:=h; exact ⟨v,σ',H',I.unwish,r,q⟩
theorem PSs.nox {st:List Stmt}{t:TS}(h:PSs X.nox st t):PSs X st t:=fun pins s σ H D I hw=>
  wpAny_mono (h pins s σ H D (I.wish _) hw) (fun _ _ q=>q.unwish) fun _ _ z=>False.elim z
end
section
variable {X:Cx}{st:Stmt}{rest:List Stmt}{t u:TS}{e:Expr}{te:TE}{pos:Pos}
def tNext:TS:=fun D σ H=>D.nx σ H
def tSeq (t u:TS):TS:=fun D σ H=>t { D with nx:=u D } σ H
theorem pss_nil:PSs X [] tNext:=fun _ _ σ H _ I h=>wpAny_execs_nil ⟨σ,H,I,h⟩
theorem pss_cons (h1:PS X st t) (h2:PSs X rest u):PSs X (st::rest) (tSeq t u):=by
  intro pins s σ H D I h
  refine wpAny_execs_cons (thn (h1 pins s σ H { D with nx:=u D } I h) fun f s1 q=>?_)
  cases f with
  | next=>
    obtain ⟨σ',H',I',q⟩:=q
    exact h2 pins s1 σ' H' D I' q
  | ret v=>exact q
  | brk=>exact q
  | cont=>exact q
theorem pss_one (h1:PS X st t):PSs X [st] t:=by
  intro pins s σ H D I h
  refine wpAny_execs_cons (thn (h1 pins s σ H D I h) fun f s1 q=>?_)
  cases f with
  | next=>exact wpAny_execs_nil q
  | ret v=>exact q
  | brk=>exact q
  | cont=>exact q
theorem Inv.quiet {pins:List (Addr×Obj)}{σ:St}{H:Hp}{s:Shared}(I:Inv X pins σ H s):interactive X.env=false:=by simp [interactive,I.ok.kind]
def tDrop (te:TE):TS:=fun D σ H=>te σ H fun _ H1=>D.nx σ H1
theorem ps_expr (he:PE X e te) (hs:swapsWith e none pos.line X.env=pure false:=by rfl):PS X (.Expr e pos) (tDrop te):=by
  intro pins s σ H D I h
  exact wpAny_Expr_any (thn (he pins s σ H _ I h) fun v s1 ⟨x,H1,I1,r1,q1⟩=>⟨σ,H1,I1,q1⟩) I.quiet hs
def tRet (te:TE):TS:=fun D σ H=>te σ H D.rt
theorem ps_ret (he:PE X e te):PS X (.Return (some e) pos) (tRet te):=by
  intro pins s σ H D I h
  exact wpAny_Return_some (thn (he pins s σ H _ I h) fun v s1 ⟨x,H1,I1,r1,q1⟩=>⟨x,σ,H1,I1,r1,q1⟩)
def tIfS (c:TT) (t u:TS):TS:=fun D σ H=>c σ H fun b H1=>if b=true then t D σ H1 else u D σ H1
theorem ps_if {c:Expr}{a b:List Stmt}{tc:TT}(hc:PT X c tc) (ha:PSs X a t) (hb:PSs X b u):PS X (.If c a b pos) (tIfS tc t u):=by
  intro pins s σ H D I h
  refine wpAny_If (thn (hc pins s σ H _ I h) fun d s1 ⟨H1,I1,q1⟩=>?_)
  cases d with
  | true=>exact ha pins s1 σ H1 D I1 q1
  | false=>exact hb pins s1 σ H1 D I1 q1
end
abbrev TG:=V→St→Hp→(St→Hp→Prop)→Prop
abbrev TGs:=List V→St→Hp→(St→Hp→Prop)→Prop
def PG (X:Cx) (target:Expr) (t:TG):Prop:=
  ∀ (pins:List (Addr×Obj)) (s:Shared) (σ:St) (H:Hp) (v:V) (u:Value) (Q:St→Hp→Prop),Inv X pins σ H s→RelV v u→t v σ H Q→
    wpAny (model X.prog X.w) X.A (assign target X.env u) (fun _ s'=>∃ σ' H',Inv X pins σ' H' s'∧Q σ' H') X.xe s
def PGs (X:Cx) (ts:List Expr) (t:TGs):Prop:=
  ∀ (pins:List (Addr×Obj)) (s:Shared) (σ:St) (H:Hp) (vs:List V) (us:List Value) (Q:St→Hp→Prop),Inv X pins σ H s→Vals vs us→t vs σ H Q→
    wpAny (model X.prog X.w) X.A (assignInOrder ((assignEach ts X.env).map (·.2)) us) (fun _ s'=>∃ σ' H',Inv X pins σ' H' s'∧Q σ' H') X.xe s
abbrev TSet:=V→V→V→Hp→(Hp→Prop)→Prop
def PSet (X:Cx) (t:TSet):Prop:=
  ∀ (pins:List (Addr×Obj)) (s:Shared) (σ:St) (H:Hp) (o i v:V) (ov iv u:Value) (Q:Hp→Prop),Inv X pins σ H s→RelV o ov→RelV i iv→RelV v u→t o i v H Q→
    wpAny (model X.prog X.w) X.A (setItem ov iv u) (fun _ s'=>∃ H',Inv X pins σ H' s'∧Q H') X.xe s
abbrev TIp:=V→V→Hp→VK→Prop
def PIp (X:Cx) (op:Operator) (t:TIp):Prop:=
  ∀ (pins:List (Addr×Obj)) (s:Shared) (σ:St) (H:Hp) (x y:V) (v u:Value) (Q:VK),Inv X pins σ H s→RelV x v→RelV y u→t x y H Q→
    wpAny (model X.prog X.w) X.A (inplaceOp op v u) (EP X pins σ Q) X.xe s
section
variable {X:Cx}{pos:Pos}
def gName (i:Nat):TG:=fun v σ H Q=>Q (σ.set i (some v)) H
theorem pg_name {i:Nat}{x:Str}(hN:X.N.Nodup) (hi:X.N[i]?=some x) (hx:Loc X.env.scope x) (hf:X.fn x=true∨X.env.scope.names.lookup x=some .local:=by first | exact .inl rfl | exact .inr rfl | assumption):PG X (.Name x pos) (gName i):=by
  intro pins s σ H v u Q I r h
  exact wpAny_assign_Name (store_ok I hN hi hx r (fun s' I'=>⟨_,H,I',h⟩) hf)
def gNil:TGs:=fun vs σ H Q=>vs=[]∧Q σ H
def gCons (t:TG) (u:TGs):TGs:=fun vs σ H Q=>∃ v r,vs=v::r∧t v σ H fun σ' H'=>u r σ' H' Q
theorem pgs_nil:PGs X [] gNil:=by
  intro pins s σ H vs us Q I r h
  obtain ⟨e,h⟩:=h
  subst e
  cases r
  exact assignInOrder_nil ⟨σ,H,I,h⟩
theorem pgs_cons {e:Expr}{es:List Expr}{t:TG}{u:TGs}(h1:PG X e t) (h2:PGs X es u)
    (hs:(assignEach (e::es) X.env).map (·.2)=assign e X.env::(assignEach es X.env).map (·.2):=by rfl):PGs X (e::es) (gCons t u):=by
  intro pins s σ H vs us Q I r h
  obtain ⟨v,vr,e1,h⟩:=h
  subst e1
  cases r with
  | cons r rr=>
    rw [hs]
    refine assignInOrder_cons (thn (h1 pins s σ H _ _ _ I r h) fun _ s1 ⟨σ1,H1,I1,q1⟩=>?_)
    exact h2 pins s1 σ1 H1 _ _ Q I1 rr q1
def gTup (K:PySem.W.Frag) (n:Nat) (t:TGs):TG:=fun v σ H Q=>∃ a xs,v=.ref a∧SqT K H a xs∧xs.length=n∧t xs σ H Q
theorem pg_tup {es:List Expr}{k:Nat}{t:TGs}{n:Nat}(hc:X.calm=true) (h:PGs X es t)
    (hn:(assignEach es X.env).length=n:=by rfl) (hst:(assignEach es X.env).findIdx? (·.1)=none:=by rfl):PG X (.Tuple es k pos) (gTup X.K n t):=by
  intro pins s σ H v u Q I r hw
  obtain ⟨a,xs,e1,hq,hl,hw⟩:=hw
  subst e1
  cases r
  obtain ⟨its,rv,ht,hz⟩:=I.tuple hq
  refine assign_Tuple_tuple (I.ok.hd hc) ht (by simp [hn,←hl,rv.length]) hst fun h' hx=>?_
  have I1:Inv X pins σ H { s with heap:=h' }:=I.kept (t':=s.toks) fun b o e=>hx b o (Nat.ne_of_lt (Heap.lt_size e)) e
  exact h pins _ σ H xs _ Q I1 (by simpa using rv) hw
def gSub (to ti:TE) (t:TSet):TG:=fun v σ H Q=>to σ H fun o H1=>ti σ H1 fun i H2=>t o i v H2 fun H3=>Q σ H3
theorem pg_sub {o i:Expr}{to ti:TE}{t:TSet}(ho:PE X o to) (hi:PE X i ti) (hs:PSet X t)
    (ha:∀ v,assign (.Subscript o i pos) X.env v=(do
      let ov←holding [v] (eval o X.env)
      let iv←holding [v,ov] (eval i X.env)
      standAt pos
      holding [v,ov,iv] (setItem ov iv v)
      release [v,ov,iv] []):=by intro _; rfl):PG X (.Subscript o i pos) (gSub to ti t):=by
  intro pins s σ H v u Q I r h
  rw [ha]
  refine wpAny_bind (wpAny_holding (thn (ho pins s σ H _ I h) fun ov s1 ⟨x,H1,I1,r1,q1⟩=>?_))
  refine wpAny_bind (wpAny_holding (thn (hi pins s1 σ H1 _ I1 q1) fun iv s2 ⟨y,H2,I2,r2,q2⟩=>?_))
  refine wpAny_bind (wpAny_standAt (wpAny_bind (wpAny_holding (thn (hs pins s2 σ H2 x y v ov iv u _ I2 r1 r2 r q2) fun _ s3 ⟨H3,I3,q3⟩=>?_))))
  exact wpAny_release ⟨σ,H3,I3,q3⟩
def tAsg (te:TE) (g:TG):TS:=fun D σ H=>te σ H fun x H1=>g x σ H1 D.nx
theorem ps_asg {tg e:Expr}{te:TE}{g:TG}(he:PE X e te) (hg:PG X tg g) (hs:swapsWithSole [tg] e pos.line X.env=pure false:=by rfl) (hw:swappedStores [tg] e X.env=pure none:=by rfl)
    (h1:(assignEach [tg] X.env).map (·.2)=[assign tg X.env]:=by rfl):PS X (.Assign [tg] e pos) (tAsg te g):=by
  intro pins s σ H D I h
  refine wpAny_Assign_stores (thn (he pins s σ H _ I h) fun v s1 ⟨x,H1,I1,r1,q1⟩=>?_) hs hw
  rw [h1]
  exact thn (hg pins s1 σ H1 x v _ I1 r1 q1) fun _ s2 q=>q
theorem ps_set {i:Nat}{x:Str}{e:Expr}{te:TE}{pos':Pos}(hN:X.N.Nodup) (hi:X.N[i]?=some x) (hx:Loc X.env.scope x) (he:PE X e te) (hs:swapsWith e (some (.Name x pos')) pos.line X.env=pure false:=by rfl) (hf:X.fn x=true∨X.env.scope.names.lookup x=some .local:=by first | exact .inl rfl | exact .inr rfl | assumption) :
    PS X (.Assign [.Name x pos'] e pos) (tAsg te (gName i)):=by
  intro pins s σ H D I h
  refine wpAny_Assign_Name (thn (he pins s σ H _ I h) fun v s1 ⟨y,H1,I1,r1,q1⟩=>?_) hs
  exact store_ok I1 hN hi hx r1 (fun s2 I2=>⟨_,H1,I2,q1⟩) hf
def tAug (i:Nat) (te:TE) (ti:TIp):TS:=fun D σ H=>∃ x,σ[i]?=some (some x)∧te σ H fun y H1=>ti x y H1 fun z H2=>D.nx (σ.set i (some z)) H2
theorem ps_aug {i:Nat}{x:Str}{e:Expr}{te:TE}{op:Operator}{ti:TIp}{pos':Pos}(hN:X.N.Nodup) (hi:X.N[i]?=some x) (hx:Loc X.env.scope x) (he:PE X e te) (ho:PIp X op ti) (hf:X.fn x=true∨X.env.scope.names.lookup x=some .local:=by first | exact .inl rfl | exact .inr rfl | assumption) :
    PS X (.AugAssign (.Name x pos') op e pos) (tAug i te ti):=by
  intro pins s σ H D I h
  obtain ⟨v,e1,h⟩:=h
  obtain ⟨m,hn,hl⟩:=I.loc
  have vis:Vis X.env.scope x:=by rcases hx with k | k; exact .inl k; exact .inr (.inl k)
  obtain ⟨u,r,l⟩:=hl i x v hi e1 vis
  refine wpAny_AugAssign_Name ?_
  have go:wpAny (model X.prog X.w) X.A (eval e X.env) (fun w s₂=>wpAny (model X.prog X.w) X.A (inplaceOp op u w) (fun r s₃=>wpAny (model X.prog X.w) X.A (storeName X.env x r) (fun _=>SP X pins D .next) X.xe s₃) X.xe s₂) X.xe s:=by
    refine thn (he pins s σ H _ I h) fun w s1 ⟨y,H1,I1,r1,q1⟩=>?_
    refine thn (ho pins s1 σ H1 v y u w _ I1 r r1 q1) fun z s2 ⟨zv,H2,I2,r2,q2⟩=>?_
    exact store_ok I2 hN hi hx r2 (fun s3 I3=>⟨_,H2,I3,q2⟩) hf
  rcases l with ⟨hk,hm⟩ | ⟨hk,c,hc,hcell⟩
  · exact wpAny_loadName_local I.ok.kind hk hn hm go
  · rcases hk with hk | hk
    · exact wpAny_loadName_cell I.ok.kind hk hc hcell go
    · rcases hx with k | k
      · have:X.env.scope.names.lookup x=some .free:=hk
        rw [k] at this; cases this
      · have:X.env.scope.names.lookup x=some .free:=hk
        rw [k] at this; cases this
def tAugS (to ti te:TE) (tget:V→V→Hp→VK→Prop) (tip:TIp) (tset:TSet):TS:=fun D σ H=>to σ H fun o H1=>ti σ H1 fun i H2=>tget o i H2 fun x H3=>te σ H3 fun y H4=>tip x y H4 fun z H5=>tset o i z H5 fun H6=>D.nx σ H6
def PGet (X:Cx) (t:V→V→Hp→VK→Prop):Prop:=
  ∀ (pins:List (Addr×Obj)) (s:Shared) (σ:St) (H:Hp) (o i:V) (ov iv:Value) (Q:VK),Inv X pins σ H s→RelV o ov→RelV i iv→t o i H Q→
    wpAny (model X.prog X.w) X.A (getItem ov iv) (EP X pins σ Q) X.xe s
theorem ps_augS {o i e:Expr}{to ti te:TE}{tget:V→V→Hp→VK→Prop}{tip:TIp}{tset:TSet}{op:Operator}{tpos:Pos}(ho:PE X o to) (hi:PE X i ti) (hg:PGet X tget) (he:PE X e te) (hp:PIp X op tip) (hs:PSet X tset)
    (ha:∀ ov iv new,augStore i ov iv new=(do holding [new,ov,iv] (setItem ov iv new); release [new,ov,iv] []; pure .next):=by intros; rfl):PS X (.AugAssign (.Subscript o i tpos) op e pos) (tAugS to ti te tget tip tset):=by
  intro pins s σ H D I h
  refine wpAny_AugAssign_SubscriptAny (thn (ho pins s σ H _ I h) fun ov s1 ⟨x1,H1,I1,r1,q1⟩=>?_) ha
  refine thn (hi pins s1 σ H1 _ I1 q1) fun iv s2 ⟨x2,H2,I2,r2,q2⟩=>?_
  refine thn (hg pins s2 σ H2 x1 x2 ov iv _ I2 r1 r2 q2) fun old s3 ⟨x3,H3,I3,r3,q3⟩=>?_
  refine thn (he pins s3 σ H3 _ I3 q3) fun v s4 ⟨x4,H4,I4,r4,q4⟩=>?_
  refine thn (hp pins s4 σ H4 x3 x4 old v _ I4 r3 r4 q4) fun new s5 ⟨x5,H5,I5,r5,q5⟩=>?_
  exact thn (hs pins s5 σ H5 x1 x2 x5 ov iv new _ I5 r1 r2 r5 q5) fun _ s6 ⟨H6,I6,q6⟩=>⟨σ,H6,I6,q6⟩
def ipI (f:Int→Int→Int):TIp:=fun x y H Q=>∃ i j,x=.int i∧y=.int j∧Q (.int (f i j)) H
theorem ip_add:PIp X .Add (ipI fun i j=>i+j):=by
  intro pins s σ H x y v u Q I r1 r2 h
  obtain ⟨i,j,e1,e2,q⟩:=h
  subst e1; subst e2
  obtain ⟨t,rfl⟩:=r1
  obtain ⟨t',rfl⟩:=r2
  exact iadd_int ⟨.int _,H,I.tok _,⟨_,rfl⟩,q⟩
theorem ip_sub:PIp X .Sub (ipI fun i j=>i-j):=by
  intro pins s σ H x y v u Q I r1 r2 h
  obtain ⟨i,j,e1,e2,q⟩:=h
  subst e1; subst e2
  obtain ⟨t,rfl⟩:=r1
  obtain ⟨t',rfl⟩:=r2
  exact isub_int ⟨.int _,H,I.tok _,⟨_,rfl⟩,q⟩
def tWhile (c:TT) (tb:TS):TS:=fun D σ H=>∃ W:Nat→St→Hp→Prop,(∃ m,W m σ H)∧∀ m σ H,W m σ H→
  c σ H fun b H1=>if b=true then ∃ N:St→Hp→Prop,(∀ σ' H',N σ' H'→∃ m',m'<m∧W m' σ' H')∧tb { D with nx:=N,ct:=N,bk:=D.nx } σ H1 else D.nx σ H1
theorem ps_while {c:Expr}{body:List Stmt}{tc:TT}{tb:TS}(hp:PassesOwn (model X.prog X.w) X.A X.env X.xe) (hc:PT X c tc) (hb:PSs X body tb):PS X (.While c body [] pos) (tWhile tc tb):=by
  intro pins s σ H D I h
  obtain ⟨W,⟨m0,w0⟩,turn⟩:=h
  refine wpAny_While (codeAny_whileLoop (fun n s'=>∃ σ' H',Inv X pins σ' H' s'∧W n σ' H') ?_ m0 ⟨σ,H,I,w0⟩)
  rintro n s1 ⟨σ1,H1,I1,w1⟩
  refine wpAny_passesOwn hp (thn (hc pins s1 σ1 H1 _ I1 (turn n σ1 H1 w1)) fun b s2 ⟨H2,I2,q2⟩=>?_)
  cases b with
  | true=>
    obtain ⟨N,hN,q2⟩:=q2
    rw [if_pos rfl]
    refine wpAny_passesOwn hp (thn (hb pins s2 σ1 H2 _ I2 q2) fun f s3 q3=>?_)
    cases f with
    | next=>
      obtain ⟨σ3,H3,I3,n3⟩:=q3
      obtain ⟨m',hm,w3⟩:=hN σ3 H3 n3
      exact ⟨m',hm,σ3,H3,I3,w3⟩
    | cont=>
      obtain ⟨σ3,H3,I3,n3⟩:=q3
      obtain ⟨m',hm,w3⟩:=hN σ3 H3 n3
      exact ⟨m',hm,σ3,H3,I3,w3⟩
    | brk=>exact q3
    | ret v=>exact q3
  | false=>
    rw [if_neg Bool.false_ne_true]
    exact wpAny_execs_nil ⟨σ1,H2,I2,q2⟩
end
structure It where
  go:Nat→Hp→Prop
  yld:Nat→Hp→V→Hp→Prop
  stop:Nat→Hp→Prop
def FpOk (X:Cx) (pins:List (Addr×Obj)) (H:Hp) (b:Addr):Prop:=
  H b=none∧b≠X.env.locals∧b ∉ X.fs∧(b∈X.ex∨X.s_0.heap.objs.size≤b)∧(∀ x c,X.env.cells.lookup x=some c→c≠b)∧∀ p∈X.pn++pins,p.1≠b
theorem Inv.fpOk {X:Cx}{pins:List (Addr×Obj)}{σ:St}{H H':Hp}{s:Shared}{b:Addr}(I:Inv X pins σ H s) (hb:s.heap.objs.size≤b) (hn:H' b=none):FpOk X pins H' b:=by
  refine ⟨hn,Nat.ne_of_gt (Nat.lt_of_lt_of_le I.lt hb),I.nofs hb,.inr (Nat.le_trans I.sz hb),fun x c e z=>?_,fun p hp z=>?_⟩
  · obtain ⟨v,q⟩:=I.cell x c e
    exact absurd (Nat.lt_of_lt_of_le q.lt (by rw [z]; exact hb)) (Nat.lt_irrefl _)
  · exact absurd (Nat.lt_of_lt_of_le (Heap.lt_size (I.pin p hp).1) (by rw [z]; exact hb)) (Nat.lt_irrefl _)
structure Turn (P:Program) (w:World) (K:PySem.W.Frag) (tg:Expr) (J:It) (fp:List Addr) (it:Addr) (tn:Nat→Heap→Prop):Prop where
  mem:it∈fp
  obj:∀ i h,tn i h→∀ b∈fp,∃ o,h.get? b=some o∧∀ v,o.data≠.cell v
  keep:∀ i h h',tn i h→(∀ b∈fp,∀ o,h.get? b=some o→h'.get? b=some o)→tn i h'
  item:∀ (X:Cx),X.prog=P→X.w=w→X.K=K→X.calm=true→∀ (i:Nat) (pins:List (Addr×Obj)) (s:Shared) (σ:St) (H:Hp) (E:Value→Shared→Prop),Inv X pins σ H s→(∀ b∈fp,FpOk X pins H b)→tn i s.heap→J.go i H→
    wpAny (model P w) X.A (pyNext (.ref it)) (fun r s1=>∃ u,r=some u∧
      wpAny (model P w) X.A (letOwnedTupleGo tg (.ref it) u) (fun _ s2=>∃ x H',Inv X pins σ H' s2∧RelV x u∧J.yld i H x H'∧tn (i+1) s2.heap∧∀ b∈fp,H' b=none) E s1) E s
  done:∀ (X:Cx),X.prog=P→X.w=w→X.K=K→X.calm=true→∀ (i:Nat) (pins:List (Addr×Obj)) (s:Shared) (σ:St) (H:Hp) (E:Value→Shared→Prop),Inv X pins σ H s→(∀ b∈fp,FpOk X pins H b)→tn i s.heap→J.stop i H→
    wpAny (model P w) X.A (pyNext (.ref it)) (fun r s1=>r=none∧Inv X pins σ H s1) E s
  self:∀ (A:Around) (i:Nat) (s:Shared) (Q:Value→Shared→Prop) (E:Value→Shared→Prop),tn i s.heap→Q (.ref it) s→wpAny (model P w) A (pyIter (.ref it)) Q E s
abbrev TI:=St→Hp→(It→Hp→Prop)→Prop
def PIE (X:Cx) (pins:List (Addr×Obj)) (σ:St) (tg:Expr) (R:It→Hp→Prop) (itv:Value) (s2:Shared):Prop:=
  ∃ (it:Addr) (fp:List Addr) (tn:Nat→Heap→Prop) (J:It) (H':Hp),itv=.ref it∧Inv X pins σ H' s2∧Turn X.prog X.w X.K tg J fp it tn∧tn 0 s2.heap∧(∀ b∈fp,FpOk X pins H' b)∧R J H'
def PI (X:Cx) (tg iter:Expr) (wi:TI):Prop:=
  ∀ (pins:List (Addr×Obj)) (s:Shared) (σ:St) (H:Hp) (R:It→Hp→Prop),Inv X pins σ H s→wi σ H R→
    wpAny (model X.prog X.w) X.A (eval iter X.env) (fun v s1=>wpAny (model X.prog X.w) X.A (pyIter v) (PIE X pins σ tg R) X.xe s1) X.xe s
theorem go_of {M:Model}{A:Around}{E:Value→Shared→Prop}{s:Shared}{tg:Expr}{it:Addr}{u:Value}{o:Obj}{n:String}{vs:Array Value}{Q:Unit→Shared→Prop}(ho:s.heap.get? it=some o) (hc:o.cls=.type n) (hd:o.data=.fields vs)
    (hn:["enumerate", "zip", "dict_itemiterator", "dict_reverseitemiterator", "odict_iterator", "itertools.zip_longest", "itertools.pairwise"].contains n=false) (hQ:Q () s):wpAny M A (letOwnedTupleGo tg (.ref it) u) Q E s:=by
  unfold letOwnedTupleGo
  cases tg <;> first
    | exact wpAny_pure hQ
    | (cases u <;> first
        | exact wpAny_pure hQ
        | (refine wpAny_bind (wpAny_load ho ?_)
           rw [hc,hd]
           show wpAny M A (if (["enumerate", "zip", "dict_itemiterator", "dict_reverseitemiterator", "odict_iterator", "itertools.zip_longest", "itertools.pairwise"].contains n&&vs[0]?==some (rawInt _))=true then _ else _) Q E s
           rw [if_neg (by intro h; rw [hn,Bool.false_and] at h; cases h)]
           exact wpAny_pure hQ))
def Itl (K:PySem.W.Frag) (a:Addr):It:=
  ⟨fun i H=>∃ xs x,SqL K H a xs∧xs[i]?=some x,fun i H x H'=>H'=H∧∀ xs,SqL K H a xs→xs[i]?=some x,fun i H=>∃ xs,SqL K H a xs∧xs.length≤i⟩
def Itt (K:PySem.W.Frag) (a:Addr):It:=
  ⟨fun i H=>∃ xs x,SqT K H a xs∧xs[i]?=some x,fun i H x H'=>H'=H∧∀ xs,SqT K H a xs→xs[i]?=some x,fun i H=>∃ xs,SqT K H a xs∧xs.length≤i⟩
def Itr (lo:Int) (n:Nat):It:=⟨fun i _=>i<n,fun i H x H'=>H'=H∧x=.int (lo+i),fun i _=>n≤i⟩
theorem turn_list {P:Program}{w:World}{K:PySem.W.Frag}{tg:Expr}(a it:Addr):Turn P w K tg (Itl K a) [it] it (fun i h=>h.IsListIter it a i) where
  mem:=by simp
  obj:=fun i h st b hb=>by
    have e:b=it:=by simpa using hb
    subst e
    obtain ⟨o,e,c,d⟩:=st
    exact ⟨o,e,fun v z=>by rw [d] at z; cases z⟩
  keep:=fun i h h' st k=>st.at fun o e=>k it (by simp) o e
  item:=by
    intro X hP hw hK hc i pins s σ H E I hf st hg
    subst hP hw hK
    obtain ⟨xs,x,hq,hx⟩:=hg
    obtain ⟨its,rv,p,hz⟩:=I.list hq
    obtain ⟨u,hu,ru⟩:=rv.get hx
    obtain ⟨f0,f1,f2,f3,f4,f5⟩:=hf it (by simp)
    refine wpAny_pyNext_list_item st p.isList (x:=u) (by simpa using hu) fun h' st' sb=>?_
    have I1:Inv X pins σ H { s with heap:=h' }:=I.turned (t':=s.toks) (fun b o hb e=>(sb.2 b hb).trans e) f0 f1 f3 f4 f5
    obtain ⟨o,e,c,d⟩:=id st'
    exact ⟨u,rfl,go_of (s:={ s with heap:=h' }) e c d (by decide) ⟨x,H,I1,ru,⟨rfl,fun ys hy=>by rw [I.list_inj hy hq]; exact hx⟩,st',fun b hb=>(hf b hb).1⟩⟩
  done:=by
    intro X hP hw hK hc i pins s σ H E I hf st hg
    subst hP hw hK
    obtain ⟨xs,hq,hx⟩:=hg
    obtain ⟨its,rv,p,hz⟩:=I.list hq
    obtain ⟨f0,f1,f2,f3,f4,f5⟩:=hf it (by simp)
    have hl:=rv.length
    exact wpAny_pyNext_list_end (I.ok.hd hc) st p.isList (by simp; omega) fun h' eb=>⟨rfl,I.turned (t':=s.toks) (fun b o hb e=>eb b o hb e) f0 f1 f3 f4 f5⟩
  self:=fun _ _ _ _ _ st h=>wpAny_pyIter_listiter st h
theorem turn_tuple {P:Program}{w:World}{K:PySem.W.Frag}{tg:Expr}(a it:Addr):Turn P w K tg (Itt K a) [it] it (fun i h=>h.IsTupleIter it a i) where
  mem:=by simp
  obj:=fun i h st b hb=>by
    have e:b=it:=by simpa using hb
    subst e
    obtain ⟨o,e,c,d⟩:=st
    exact ⟨o,e,fun v z=>by rw [d] at z; cases z⟩
  keep:=fun i h h' st k=>st.at fun o e=>k it (by simp) o e
  item:=by
    intro X hP hw hK hc i pins s σ H E I hf st hg
    subst hP hw hK
    obtain ⟨xs,x,hq,hx⟩:=hg
    obtain ⟨its,rv,p,hz⟩:=I.tuple hq
    obtain ⟨u,hu,ru⟩:=rv.get hx
    obtain ⟨f0,f1,f2,f3,f4,f5⟩:=hf it (by simp)
    refine wpAny_pyNext_tuple_item st (show s.heap.IsTuple a its.toArray from p) (x:=u) (by simpa using hu) fun h' st' sb=>?_
    have I1:Inv X pins σ H { s with heap:=h' }:=I.turned (t':=s.toks) (fun b o hb e=>(sb.2 b hb).trans e) f0 f1 f3 f4 f5
    obtain ⟨o,e,c,d⟩:=id st'
    exact ⟨u,rfl,go_of (s:={ s with heap:=h' }) e c d (by decide) ⟨x,H,I1,ru,⟨rfl,fun ys hy=>by rw [I.tuple_inj hy hq]; exact hx⟩,st',fun b hb=>(hf b hb).1⟩⟩
  done:=by
    intro X hP hw hK hc i pins s σ H E I hf st hg
    subst hP hw hK
    obtain ⟨xs,hq,hx⟩:=hg
    obtain ⟨its,rv,p,hz⟩:=I.tuple hq
    obtain ⟨f0,f1,f2,f3,f4,f5⟩:=hf it (by simp)
    have hl:=rv.length
    exact wpAny_pyNext_tuple_end (I.ok.hd hc) st (show s.heap.IsTuple a its.toArray from p) (by simp; omega) fun h' eb=>⟨rfl,I.turned (t':=s.toks) (fun b o hb e=>eb b o hb e) f0 f1 f3 f4 f5⟩
  self:=fun _ _ _ _ _ st h=>wpAny_pyIter_tupleiter st h
theorem turn_range {P:Program}{w:World}{K:PySem.W.Frag}{tg:Expr}(it:Addr) (lo:Int) (n:Nat):Turn P w K tg (Itr lo n) [it] it (fun i h=>IsRangeIter h it (lo+(i:Nat) * 1) ((n:Int)-(i:Nat)) 1) where
  mem:=by simp
  obj:=fun i h st b hb=>by
    have e:b=it:=by simpa using hb
    subst e
    exact ⟨_,st,fun v z=>by
      have z':Data.fields _=Data.cell v:=z
      cases z'⟩
  keep:=fun i h h' st k=>k it (by simp) _ st
  item:=by
    intro X hP hw hK hc i pins s σ H E I hf st hg
    subst hP hw hK
    obtain ⟨f0,f1,f2,f3,f4,f5⟩:=hf it (by simp)
    have W:=Walks.range (prog:=X.prog) (w:=X.w) (I.ok.hd hc) it lo 1 n
    refine W.item i s _ _ hg st fun v h' tk hv st' kk=>?_
    obtain ⟨t,rfl⟩:=hv
    have I1:Inv X pins σ H { s with heap:=h',toks:=tk }:=I.turned (fun b o hb e=>kk b o (by simpa using hb) e) f0 f1 f3 f4 f5
    refine ⟨_,rfl,go_of (s:={ s with heap:=h',toks:=tk }) (n := "range_iterator") st' rfl rfl (by decide) ⟨.int (lo+i),H,I1,⟨t,?_⟩,⟨rfl,rfl⟩,st',fun b hb=>(hf b hb).1⟩⟩
    rw [Int.mul_one]
  done:=by
    intro X hP hw hK hc i pins s σ H E I hf st hg
    subst hP hw hK
    obtain ⟨f0,f1,f2,f3,f4,f5⟩:=hf it (by simp)
    exact wpAny_pyNext_range_end (I.ok.hd hc) st (by have:n≤i:=hg; omega) fun h' eb=>⟨rfl,I.turned (t':=s.toks) (fun b o hb e=>eb b o hb e) f0 f1 f3 f4 f5⟩
  self:=fun _ _ _ _ _ st h=>wpAny_pyIter_rangeiter st h
end L2
namespace L2
open PySem PySem.Spec PyProof.Rows
section
variable {X:Cx}{tg:Expr}
def iList (K:PySem.W.Frag) (tl:TE):TI:=fun σ H R=>tl σ H fun x H1=>∃ a,x=.ref a∧(∃ xs,SqL K H1 a xs)∧R (Itl K a) H1
def iTup (K:PySem.W.Frag) (tl:TE):TI:=fun σ H R=>tl σ H fun x H1=>∃ a,x=.ref a∧(∃ xs,SqT K H1 a xs)∧R (Itt K a) H1
theorem pi_list {l:Expr}{tl:TE}(hl:PE X l tl):PI X tg l (iList X.K tl):=by
  intro pins s σ H R I h
  refine thn (hl pins s σ H _ I h) fun v s1 ⟨x,H1,I1,r1,q1⟩=>?_
  obtain ⟨a,e,⟨xs,hq⟩,q⟩:=q1
  subst e
  cases r1
  obtain ⟨its,rv,p,hz⟩:=I1.list hq
  refine wpAny_pyIter_list p.isList ?_
  refine ⟨s1.heap.objs.size,[s1.heap.objs.size],_,_,H1,rfl,I1.kept (t':=s1.toks) fun b o e=>Heap.get?_push_of_some _ e,turn_list a _,⟨_,Heap.get?_push_size _ rfl,rfl,rfl⟩,fun b hb=>?_,q⟩
  have e:b=s1.heap.objs.size:=by simpa using hb
  subst e
  exact I1.fpOk (Nat.le_refl _) (I1.hok.fresh (Nat.le_refl _))
theorem pi_tup {l:Expr}{tl:TE}(hl:PE X l tl):PI X tg l (iTup X.K tl):=by
  intro pins s σ H R I h
  refine thn (hl pins s σ H _ I h) fun v s1 ⟨x,H1,I1,r1,q1⟩=>?_
  obtain ⟨a,e,⟨xs,hq⟩,q⟩:=q1
  subst e
  cases r1
  obtain ⟨its,rv,p,hz⟩:=I1.tuple hq
  refine wpAny_pyIter_tuple (show s1.heap.IsTuple a its.toArray from p) ?_
  refine ⟨s1.heap.objs.size,[s1.heap.objs.size],_,_,H1,rfl,I1.kept (t':=s1.toks) fun b o e=>Heap.get?_push_of_some _ e,turn_tuple a _,⟨_,Heap.get?_push_size _ rfl,rfl,rfl⟩,fun b hb=>?_,q⟩
  have e:b=s1.heap.objs.size:=by simpa using hb
  subst e
  exact I1.fpOk (Nat.le_refl _) (I1.hok.fresh (Nat.le_refl _))
theorem range_it {pins:List (Addr×Obj)}{σ:St}{H:Hp}{s:Shared}{R:It→Hp→Prop}{E:Value→Shared→Prop}{lo hi:Int}{t u v:Tok}{tk:Nat}(I:Inv X pins σ H s) (h1:-(2 ^ 62)≤lo) (h2:lo<2 ^ 62) (h3:-(2 ^ 62)≤hi) (h4:hi<2 ^ 62)
    (q:R (Itr lo (hi-lo).toNat) H):wpAny (model X.prog X.w) X.A (pyIter (.ref s.heap.objs.size)) (PIE X pins σ tg R) E { s with heap:=s.heap.push { cls:=.type "range",data:=.fields #[.int lo t,.int hi u,.int 1 v] },toks:=tk }:=by
  refine wpAny_pyIter_range (IsRange.new ..) (small_one h1 h2 h3 h4) ?_
  have I1:Inv X pins σ H { s with heap:=s.heap.push { cls:=.type "range",data:=.fields #[.int lo t,.int hi u,.int 1 v] },toks:=tk }:=I.kept fun b o e=>Heap.get?_push_of_some _ e
  refine ⟨(s.heap.push { cls:=.type "range",data:=.fields #[.int lo t,.int hi u,.int 1 v] }).objs.size,[(s.heap.push { cls:=.type "range",data:=.fields #[.int lo t,.int hi u,.int 1 v] }).objs.size],_,_,H,rfl,
    I1.kept (t':=tk) fun b o e=>Heap.get?_push_of_some _ e,turn_range _ lo (hi-lo).toNat,?_,fun b hb=>?_,q⟩
  · have e1:lo+((0:Nat):Int) * 1=lo:=by simp
    have e2:(((hi-lo).toNat:Nat):Int)-((0:Nat):Int)=Builtin.Range.rangeSize lo hi 1:=by rw [rangeSize_one]; split <;> omega
    show IsRangeIter _ _ (lo+((0:Nat):Int) * 1) ((((hi-lo).toNat:Nat):Int)-((0:Nat):Int)) 1
    rw [e1,e2]
    exact Heap.get?_push_size _ rfl
  · have e:b=(s.heap.push { cls:=.type "range",data:=.fields #[.int lo t,.int hi u,.int 1 v] }).objs.size:=by simpa using hb
    subst e
    exact I1.fpOk (Nat.le_refl _) (I1.hok.fresh (Nat.le_refl _))
def iRng2 (ta:TA):TI:=fun σ H R=>ta σ H fun vs H1=>∃ i j:Int,vs=[.int i,.int j]∧(-(2 ^ 62)≤i∧i<2 ^ 62∧-(2 ^ 62)≤j∧j<2 ^ 62)∧R (Itr i (j-i).toNat) H1
theorem pi_range2 {a b:Expr}{ta:TA}{p pos:Pos}(hg:Gl X "range") (hm:X.mg "range" = none) (ha:PA X [a,b] ta) (hs:starEach [a,b] X.env=[(false,eval a X.env),(false,eval b X.env)]:=by rfl) (hs2:starEach [b] X.env=[(false,eval b X.env)]:=by rfl) :
    PI X tg (.Call (.Name "range" p) [a,b] [] pos) (iRng2 ta):=by
  intro pins s σ H R I h
  refine Call_ (ld_blt I hg hm boot_range (PyProof.Rows.callWith_type1 (thn (ha pos pins s σ H _ I h) fun us s1 ⟨vs,H1,I1,r1,q1⟩=>?_) (by rw [hs,hs2]) (by rw [hs2]; rfl)))
  obtain ⟨i,j,e,⟨q1,q2,q3,q4⟩,q⟩:=q1
  subst e
  cases r1 with
  | cons r rr=>
    cases rr with
    | cons r' rr=>
      cases rr
      obtain ⟨t,rfl⟩:=r
      obtain ⟨t',rfl⟩:=r'
      exact call_range_2 (range_it I1 q1 q2 q3 q4 q)
def tFor (wi:TI) (g:TG) (tb:TS):TS:=fun D σ H=>wi σ H fun J H1=>∃ W:Nat→Nat→St→Hp→Prop,(∃ m,W 0 m σ H1)∧∀ i m σ H,W i m σ H→
  (J.stop i H∧D.nx σ H)∨(J.go i H∧∃ N:St→Hp→Prop,(∀ σ' H',N σ' H'→∃ m',m'<m∧W (i+1) m' σ' H')∧∀ x H',J.yld i H x H'→g x σ H' fun σ2 H2=>tb { D with nx:=N,ct:=N,bk:=D.nx } σ2 H2)
def pinsAt (fp:List Addr) (h:Heap):List (Addr×Obj):=fp.filterMap fun b=>(h.get? b).map fun o=>(b,o)
theorem mem_pinsAt {fp:List Addr}{h:Heap}{b:Addr}{o:Obj}(hb:b∈fp) (e:h.get? b=some o):(b,o)∈pinsAt fp h:=List.mem_filterMap.mpr ⟨b,hb,by rw [e]; rfl⟩
theorem of_pinsAt {fp:List Addr}{h:Heap}{p:Addr×Obj}(hp:p∈pinsAt fp h):p.1∈fp∧h.get? p.1=some p.2:=by
  obtain ⟨b,hb,e⟩:=List.mem_filterMap.mp hp
  cases q:h.get? b with
  | none=>rw [q] at e; cases e
  | some o=>
    rw [q] at e
    have e':(b,o)=p:=Option.some.inj e
    subst e'
    exact ⟨hb,q⟩
theorem Inv.pinned {pins:List (Addr×Obj)}{σ:St}{H:Hp}{s:Shared}{fp:List Addr}(I:Inv X pins σ H s) (hf:∀ b∈fp,FpOk X pins H b) (ho:∀ b∈fp,∃ o,s.heap.get? b=some o∧∀ v,o.data≠.cell v):Inv X (pins++pinsAt fp s.heap) σ H s:=
  I.pins_of fun p hp=>(List.mem_append.mp hp).elim (fun z=>I.pin p (List.mem_append_right _ z)) fun z=>by
    obtain ⟨hb,e⟩:=of_pinsAt z
    obtain ⟨f0,f1,f2,_⟩:=hf p.1 hb
    obtain ⟨o,e',d⟩:=ho p.1 hb
    rw [e] at e'; cases e'
    exact ⟨e,f0,f1,f2,d⟩
theorem Inv.unpinned {pins pl:List (Addr×Obj)}{σ:St}{H:Hp}{s:Shared}(I:Inv X (pins++pl) σ H s):Inv X pins σ H s:=I.pins_of fun p hp=>I.pin p (List.mem_append_right _ (List.mem_append_left _ hp))
theorem ps_for {iter:Expr}{body:List Stmt}{wi:TI}{g:TG}{tb:TS}{pos:Pos}(hp:PassesOwn (model X.prog X.w) X.A X.env X.xe) (hc:X.calm=true) (hi:PI X tg iter wi) (hg:PG X tg g) (hb:PSs X body tb)
    (hs:∀ x,foldedSetIterable iter X.env x=pure x:=by intro _; rfl):PS X (.For tg iter body [] pos) (tFor wi g tb):=by
  intro pins s σ H D I h
  refine wpAny_For (thn (hi pins s σ H _ I h) fun v s1 h1=>thn h1 fun itv s2 h2=>?_) hs
  obtain ⟨it,fp,tn,J,H2,e,I2,T,st2,f2,W,⟨m0,w0⟩,turn⟩:=h2
  subst e
  have stat:∀ {H':Hp},(∀ b∈fp,H' b=none)→∀ b∈fp,FpOk X pins H' b:=fun hn b hb=>⟨hn b hb,(f2 b hb).2⟩
  refine codeAny_forLoop_any (fun n s'=>∃ i σ' H',Inv X pins σ' H' s'∧tn i s'.heap∧(∀ b∈fp,H' b=none)∧W i n σ' H') ?_ m0 ⟨0,σ,H2,I2,st2,fun b hb=>(f2 b hb).1,w0⟩
  rintro n s3 ⟨i,σ3,H3,I3,st3,fr3,w3⟩
  rcases turn i n σ3 H3 w3 with ⟨stop,qn⟩ | ⟨go,N,hN,step⟩
  · refine wpAny_passesOwn hp (thn (T.done X rfl rfl rfl hc i pins s3 σ3 H3 X.xe I3 (stat fr3) st3 stop) fun r s4 ⟨hr,I4⟩=>?_)
    subst hr
    exact wpAny_execs_nil ⟨σ3,H3,I4,qn⟩
  · refine wpAny_passesOwn hp (thn (T.item X rfl rfl rfl hc i pins s3 σ3 H3 X.xe I3 (stat fr3) st3 go) fun r s4 ⟨u,hr,h4⟩=>?_)
    subst hr
    refine wpAny_passesOwn hp (thn h4 fun _ s5 ⟨x,H5,I5,r5,y5,st5,fr5⟩=>?_)
    have I5':=I5.pinned (stat fr5) (T.obj _ _ st5)
    refine wpAny_passesOwn hp (thn (hg _ s5 σ3 H5 x u _ I5' r5 (step x H5 y5)) fun _ s6 ⟨σ6,H6,I6,q6⟩=>?_)
    refine wpAny_passesOwn hp (thn (hb _ s6 σ6 H6 _ I6 q6) fun f s7 q7=>?_)
    have again:∀ {σ7:St} {H7:Hp},Inv X (pins++pinsAt fp s5.heap) σ7 H7 s7→N σ7 H7→∃ m,m<n∧∃ i σ' H',Inv X pins σ' H' s7∧tn i s7.heap∧(∀ b∈fp,H' b=none)∧W i m σ' H':=fun {σ7 H7} I7 n7=>by
      obtain ⟨m',hm,w7⟩:=hN σ7 H7 n7
      refine ⟨m',hm,i+1,σ7,H7,I7.unpinned,T.keep _ _ _ st5 fun b hb o e=>(I7.pin (b,o) (List.mem_append_right _ (List.mem_append_right _ (mem_pinsAt hb e)))).1,fun b hb=>?_,w7⟩
      obtain ⟨o,e,d⟩:=T.obj _ _ st5 b hb
      exact (I7.pin (b,o) (List.mem_append_right _ (List.mem_append_right _ (mem_pinsAt hb e)))).2.1
    cases f with
    | next=>obtain ⟨σ7,H7,I7,n7⟩:=q7; exact again I7 n7
    | cont=>obtain ⟨σ7,H7,I7,n7⟩:=q7; exact again I7 n7
    | brk=>obtain ⟨σ7,H7,I7,q7⟩:=q7; exact ⟨σ7,H7,I7.unpinned,q7⟩
    | ret v=>obtain ⟨x7,σ7,H7,I7,r7,q7⟩:=q7; exact ⟨x7,σ7,H7,I7.unpinned,r7,q7⟩
end
theorem for_list {K:PySem.W.Frag}{a:Addr}{xs:List V}{g:TG}{tb:TS}{D:Ends}{σ:St}{H:Hp}(Pv:Nat→St→Hp→Prop) (h0:Pv 0 σ H) (hl:∀ i σ H,i≤xs.length→Pv i σ H→SqL K H a xs)
    (hs:∀ i x σ H,xs[i]?=some x→Pv i σ H→g x σ H fun σ2 H2=>tb { D with nx:=Pv (i+1),ct:=Pv (i+1),bk:=D.nx } σ2 H2) (hd:∀ σ H,Pv xs.length σ H→D.nx σ H) :
    ∃ W:Nat→Nat→St→Hp→Prop,(∃ m,W 0 m σ H)∧∀ i m σ H,W i m σ H→
      ((Itl K a).stop i H∧D.nx σ H)∨((Itl K a).go i H∧∃ N:St→Hp→Prop,(∀ σ' H',N σ' H'→∃ m',m'<m∧W (i+1) m' σ' H')∧∀ x H',(Itl K a).yld i H x H'→g x σ H' fun σ2 H2=>tb { D with nx:=N,ct:=N,bk:=D.nx } σ2 H2):=by
  refine ⟨fun i m σ H=>m=xs.length-i∧i≤xs.length∧Pv i σ H,⟨xs.length,by simp,Nat.zero_le _,h0⟩,?_⟩
  rintro i m σ H ⟨rfl,hi,p⟩
  have q:=hl i σ H hi p
  by_cases hlt:i<xs.length
  · refine .inr ⟨⟨xs,xs[i],q,by simp [hlt]⟩,Pv (i+1),fun σ' H' p'=>⟨xs.length-(i+1),by omega,rfl,hlt,p'⟩,fun x H' y=>?_⟩
    obtain ⟨e,y⟩:=y
    subst e
    exact hs i x σ _ (y xs q) p
  · have e:i=xs.length:=by omega
    subst e
    exact .inl ⟨⟨xs,q,Nat.le_refl _⟩,hd σ H p⟩
theorem for_tup {K:PySem.W.Frag}{a:Addr}{xs:List V}{g:TG}{tb:TS}{D:Ends}{σ:St}{H:Hp}(Pv:Nat→St→Hp→Prop) (h0:Pv 0 σ H) (hl:∀ i σ H,i≤xs.length→Pv i σ H→SqT K H a xs)
    (hs:∀ i x σ H,xs[i]?=some x→Pv i σ H→g x σ H fun σ2 H2=>tb { D with nx:=Pv (i+1),ct:=Pv (i+1),bk:=D.nx } σ2 H2) (hd:∀ σ H,Pv xs.length σ H→D.nx σ H) :
    ∃ W:Nat→Nat→St→Hp→Prop,(∃ m,W 0 m σ H)∧∀ i m σ H,W i m σ H→
      ((Itt K a).stop i H∧D.nx σ H)∨((Itt K a).go i H∧∃ N:St→Hp→Prop,(∀ σ' H',N σ' H'→∃ m',m'<m∧W (i+1) m' σ' H')∧∀ x H',(Itt K a).yld i H x H'→g x σ H' fun σ2 H2=>tb { D with nx:=N,ct:=N,bk:=D.nx } σ2 H2):=by
  refine ⟨fun i m σ H=>m=xs.length-i∧i≤xs.length∧Pv i σ H,⟨xs.length,by simp,Nat.zero_le _,h0⟩,?_⟩
  rintro i m σ H ⟨rfl,hi,p⟩
  have q:=hl i σ H hi p
  by_cases hlt:i<xs.length
  · refine .inr ⟨⟨xs,xs[i],q,by simp [hlt]⟩,Pv (i+1),fun σ' H' p'=>⟨xs.length-(i+1),by omega,rfl,hlt,p'⟩,fun x H' y=>?_⟩
    obtain ⟨e,y⟩:=y
    subst e
    exact hs i x σ _ (y xs q) p
  · have e:i=xs.length:=by omega
    subst e
    exact .inl ⟨⟨xs,q,Nat.le_refl _⟩,hd σ H p⟩
theorem for_range {lo:Int}{n:Nat}{g:TG}{tb:TS}{D:Ends}{σ:St}{H:Hp}(Pv:Nat→St→Hp→Prop) (h0:Pv 0 σ H)
    (hs:∀ i σ H,i<n→Pv i σ H→g (.int (lo+i)) σ H fun σ2 H2=>tb { D with nx:=Pv (i+1),ct:=Pv (i+1),bk:=D.nx } σ2 H2) (hd:∀ σ H,Pv n σ H→D.nx σ H) :
    ∃ W:Nat→Nat→St→Hp→Prop,(∃ m,W 0 m σ H)∧∀ i m σ H,W i m σ H→
      ((Itr lo n).stop i H∧D.nx σ H)∨((Itr lo n).go i H∧∃ N:St→Hp→Prop,(∀ σ' H',N σ' H'→∃ m',m'<m∧W (i+1) m' σ' H')∧∀ x H',(Itr lo n).yld i H x H'→g x σ H' fun σ2 H2=>tb { D with nx:=N,ct:=N,bk:=D.nx } σ2 H2):=by
  refine ⟨fun i m σ H=>m=n-i∧i≤n∧Pv i σ H,⟨n,by simp,Nat.zero_le _,h0⟩,?_⟩
  rintro i m σ H ⟨rfl,hi,p⟩
  by_cases hlt:i<n
  · refine .inr ⟨hlt,Pv (i+1),fun σ' H' p'=>⟨n-(i+1),by omega,rfl,hlt,p'⟩,fun x H' y=>?_⟩
    obtain ⟨e,y⟩:=y
    subst e y
    exact hs i σ _ hlt p
  · have e:i=n:=by omega
    subst e
    exact .inl ⟨Nat.le_refl _,hd σ H p⟩
end L2
namespace L2
open PySem PySem.Spec PyProof.Rows
abbrev R2:=V→V→Hp→VK→Prop
def OpR (X:Cx) (f:Value→Value→Sem Value) (r:R2):Prop:=
  ∀ (pins:List (Addr×Obj)) (s:Shared) (σ:St) (H:Hp) (x y:V) (v u:Value) (Q:VK),Inv X pins σ H s→RelV x v→RelV y u→r x y H Q→
    wpAny (model X.prog X.w) X.A (f v u) (EP X pins σ Q) X.xe s
def UnR (X:Cx) (f:Value→Sem Value) (r:V→Hp→VK→Prop):Prop:=
  ∀ (pins:List (Addr×Obj)) (s:Shared) (σ:St) (H:Hp) (x:V) (v:Value) (Q:VK),Inv X pins σ H s→RelV x v→r x H Q→
    wpAny (model X.prog X.w) X.A (f v) (EP X pins σ Q) X.xe s
def CallR (X:Cx) (f:Value) (r:List V→Hp→VK→Prop):Prop:=
  ∀ (pins:List (Addr×Obj)) (s:Shared) (σ:St) (H:Hp) (xs:List V) (us:List Value) (Q:VK),Inv X pins σ H s→Vals xs us→r xs H Q→
    wpAny (model X.prog X.w) X.A (call f us) (EP X pins σ Q) X.xe s
def TruR (X:Cx) (r:V→Hp→(Bool→Hp→Prop)→Prop):Prop:=
  ∀ (pins:List (Addr×Obj)) (s:Shared) (σ:St) (H:Hp) (x:V) (v:Value) (Q:Bool→Hp→Prop),Inv X pins σ H s→RelV x v→r x H Q→
    wpAny (model X.prog X.w) X.A (truthy v) (TP X pins σ Q) X.xe s
def tOp (r:R2) (ta tb:TE):TE:=fun σ H Q=>ta σ H fun x H1=>tb σ H1 fun y H2=>r x y H2 Q
def tUn (r:V→Hp→VK→Prop) (ta:TE):TE:=fun σ H Q=>ta σ H fun x H1=>r x H1 Q
def rI (C:Int→Int→Prop) (g:Int→Int→V):R2:=fun x y H Q=>∃ i j,x=.int i∧y=.int j∧C i j∧Q (g i j) H
def rI0 (g:Int→Int→V):R2:=fun x y H Q=>∃ i j,x=.int i∧y=.int j∧Q (g i j) H
def rU (g:Int→V):V→Hp→VK→Prop:=fun x H Q=>∃ i,x=.int i∧Q (g i) H
section
variable {X:Cx}{a b c:Expr}{ta tb tc:TE}{pos:Pos}
theorem binT (ha:PE X a ta) (hb:PE X b tb) {pins:List (Addr×Obj)}{s:Shared}{σ:St}{H:Hp}{R:V→V→Hp→Prop}(I:Inv X pins σ H s)
    (h:ta σ H fun x H1=>tb σ H1 fun y H2=>R x y H2) {Q:Value→Shared→Prop} {f:Value→Value→Sem Value}
    (hf:∀ v u s2 x y H2,Inv X pins σ H2 s2→RelV x v→RelV y u→R x y H2→wpAny (model X.prog X.w) X.A (f v u) Q X.xe s2) :
    wpAny (model X.prog X.w) X.A (eval a X.env) (fun v s₁=>wpAny (model X.prog X.w) X.A (eval b X.env) (fun u s₂=>wpAny (model X.prog X.w) X.A (f v u) Q X.xe s₂) X.xe s₁) X.xe s:=by
  refine thn (ha pins s σ H _ I h) fun v s1 ⟨x,H1,I1,r1,q1⟩=>?_
  refine thn (hb pins s1 σ H1 _ I1 q1) fun u s2 ⟨y,H2,I2,r2,q2⟩=>?_
  exact hf v u s2 x y H2 I2 r1 r2 q2
theorem pe_op {op:Operator}{r:R2}(ho:OpR X (binaryOp op) r) (ha:PE X a ta) (hb:PE X b tb):PE X (.BinOp a op b pos) (tOp r ta tb):=by
  intro pins s σ H Q I h
  exact wpAny_BinOp (binT ha hb I h fun v u s2 x y H2 I2 rx ry q=>ho pins s2 σ H2 x y v u Q I2 rx ry q)
theorem pe_un {op:UnaryOp}{r:V→Hp→VK→Prop}(ho:UnR X (unaryOp op) r) (ha:PE X a ta):PE X (.UnaryOp op a pos) (tUn r ta):=by
  intro pins s σ H Q I h
  exact UnaryOp_ (thn (ha pins s σ H _ I h) fun v s1 ⟨x,H1,I1,r1,q1⟩=>ho pins s1 σ H1 x v Q I1 r1 q1)
theorem opI {f:Value→Value→Sem Value}{C:Int→Int→Prop}{g:Int→Int→Int}
    (rule:∀ (i j:Int) (t u:Tok) (s:Shared) (Q:Value→Shared→Prop) (E:Value→Shared→Prop),C i j→Q (.int (g i j) s.toks) { s with toks:=s.toks+1 }→wpAny (model X.prog X.w) X.A (f (.int i t) (.int j u)) Q E s) :
    OpR X f (rI C fun i j=>.int (g i j)):=by
  intro pins s σ H x y v u Q I rx ry h
  obtain ⟨i,j,rfl,rfl,hc,q⟩:=h
  obtain ⟨t,rfl⟩:=rx
  obtain ⟨t',rfl⟩:=ry
  exact rule i j t t' s _ _ hc ⟨.int (g i j),H,I.tok _,⟨_,rfl⟩,q⟩
theorem opI0 {f:Value→Value→Sem Value}{g:Int→Int→Int}
    (rule:∀ (i j:Int) (t u:Tok) (s:Shared) (Q:Value→Shared→Prop) (E:Value→Shared→Prop),Q (.int (g i j) s.toks) { s with toks:=s.toks+1 }→wpAny (model X.prog X.w) X.A (f (.int i t) (.int j u)) Q E s) :
    OpR X f (rI0 fun i j=>.int (g i j)):=by
  intro pins s σ H x y v u Q I rx ry h
  obtain ⟨i,j,rfl,rfl,q⟩:=h
  obtain ⟨t,rfl⟩:=rx
  obtain ⟨t',rfl⟩:=ry
  exact rule i j t t' s _ _ ⟨.int (g i j),H,I.tok _,⟨_,rfl⟩,q⟩
theorem opB0 {f:Value→Value→Sem Value}{g:Int→Int→Bool}
    (rule:∀ (i j:Int) (t u:Tok) (s:Shared) (Q:Value→Shared→Prop) (E:Value→Shared→Prop),Q (.bool (g i j)) s→wpAny (model X.prog X.w) X.A (f (.int i t) (.int j u)) Q E s) :
    OpR X f (rI0 fun i j=>.bl (g i j)):=by
  intro pins s σ H x y v u Q I rx ry h
  obtain ⟨i,j,rfl,rfl,q⟩:=h
  obtain ⟨t,rfl⟩:=rx
  obtain ⟨t',rfl⟩:=ry
  exact rule i j t t' s _ _ ⟨.bl (g i j),H,I,rfl,q⟩
def CDiv (i j:Int):Prop:=0<j∧j<1073741824
def CPow (i j:Int):Prop:=0≤j∧j≤1000000∧i.natAbs<2 ^ 64
def CMul (i j:Int):Prop:=(-(2 ^ 64)<i∧i<2 ^ 64)∨(-(2 ^ 64)<j∧j<2 ^ 64)
theorem CMul.ok {i j:Int}(h:CMul i j):IntMulOk i j:=by
  rcases h with ⟨h1,h2⟩ | ⟨h1,h2⟩
  · exact .of_left (intBits_le_64 h1 h2)
  · exact .of_right (intBits_le_64 h1 h2)
theorem two_pow_nn (k:Nat):(0:Int)≤2 ^ k:=by
  rw [two_pow_cast]
  exact Int.natCast_nonneg _
theorem op_add:OpR X (binaryOp .Add) (rI0 fun i j=>.int (i+j)):=opI0 fun _ _ _ _ _ _ _ q=>add_int q
theorem op_sub:OpR X (binaryOp .Sub) (rI0 fun i j=>.int (i-j)):=opI0 fun _ _ _ _ _ _ _ q=>sub_int q
theorem op_mul:OpR X (binaryOp .Mult) (rI CMul fun i j=>.int (i * j)):=opI fun _ _ _ _ _ _ _ hc q=>mul_int q hc.ok
theorem op_fdiv:OpR X (binaryOp .FloorDiv) (rI CDiv fun i j=>.int (i / j)):=opI fun i j _ _ _ _ _ hc q=>by
  have h1:(0:Int)<j:=hc.1
  have h2:j<1073741824:=hc.2
  exact floordiv_int (by omega) (by rw [Int.fdiv_eq_ediv_of_nonneg i (by omega)]; exact q) (.inl (PyProof.noPylong_small (by omega)))
theorem op_mod:OpR X (binaryOp .Mod) (rI (fun _ j=>0<j) fun i j=>.int (i % j)):=opI fun i j _ _ _ _ _ hc q=>by
  have h1:(0:Int)<j:=hc
  exact mod_int' (by omega) (by rw [Int.fmod_eq_emod_of_nonneg i (by omega)]; exact q)
theorem op_shl:OpR X (binaryOp .LShift) (rI CPow fun i j=>.int (i * 2 ^ j.toNat)):=opI fun _ _ _ _ _ _ _ hc q=>lshift_int_small hc.1 hc.2.1 hc.2.2 q
theorem op_shr:OpR X (binaryOp .RShift) (rI (fun _ j=>0≤j) fun i j=>.int (i / 2 ^ j.toNat)):=opI fun i j _ _ _ _ _ hc q=>
  rshift_int hc (by rw [Int.fdiv_eq_ediv_of_nonneg i (two_pow_nn _)]; exact q)
theorem op_and:OpR X (binaryOp .BitAnd) (rI0 fun i j=>.int (Builtin.bitAnd i j)):=opI0 fun _ _ _ _ _ _ _ q=>and_int q
theorem op_or:OpR X (binaryOp .BitOr) (rI0 fun i j=>.int (Builtin.bitOr i j)):=opI0 fun _ _ _ _ _ _ _ q=>or_int q
theorem unI {f:Value→Sem Value}{g:Int→Int}
    (rule:∀ (i:Int) (t:Tok) (s:Shared) (Q:Value→Shared→Prop) (E:Value→Shared→Prop),Q (.int (g i) s.toks) { s with toks:=s.toks+1 }→wpAny (model X.prog X.w) X.A (f (.int i t)) Q E s) :
    UnR X f (rU fun i=>.int (g i)):=by
  intro pins s σ H x v Q I rx h
  obtain ⟨i,rfl,q⟩:=h
  obtain ⟨t,rfl⟩:=rx
  exact rule i t s _ _ ⟨.int (g i),H,I.tok _,⟨_,rfl⟩,q⟩
theorem un_neg:UnR X (unaryOp .USub) (rU fun i=>.int (-i)):=unI fun _ _ _ _ _ q=>neg_int q
end
def scal:V→V→Bool
  | .non,.non=>true | .non,.int _=>true | .int _,.non=>true | .non,.bl _=>true | .bl _,.non=>true | .non,.str _=>true | .str _,.non=>true
  | .int _,.int _=>true | .bl _,.bl _=>true | .str _,.str _=>true | .byt _,.byt _=>true
  | .int _,.str _=>true | .str _,.int _=>true | .bl _,.str _=>true | .str _,.bl _=>true
  | _,_=>false
def rEq:R2:=fun x y H Q=>scal x y=true∧Q (.bl (decide (x=y))) H
def rNe:R2:=fun x y H Q=>scal x y=true∧Q (.bl (!decide (x=y))) H
theorem dec_int {i j:Int}:decide (V.int i=V.int j)=(i==j):=by
  rw [Bool.eq_iff_iff]
  simp
theorem dec_bl {i j:Bool}:decide (V.bl i=V.bl j)=(i==j):=by
  rw [Bool.eq_iff_iff]
  simp
theorem dec_str {i j:Str}:decide (V.str i=V.str j)=(i==j):=by
  rw [Bool.eq_iff_iff]
  simp
theorem dec_byt {i j:Array UInt8}:decide (V.byt i=V.byt j)=(i.toList==j.toList):=by
  rw [Bool.eq_iff_iff]
  cases i
  cases j
  simp
section
variable {X:Cx}{a b c:Expr}{ta tb tc:TE}{pos:Pos}
theorem fin_bl {pins:List (Addr×Obj)}{σ:St}{H:Hp}{s:Shared}{Q:VK}{k k':Bool}(I:Inv X pins σ H s) (q:Q (.bl k) H) (e:k=k'):EP X pins σ Q (.bool k') s:=by
  subst e
  exact ⟨.bl k,H,I,rfl,q⟩
theorem op_eq:OpR X (compareOp .Eq) rEq:=by
  intro pins s σ H x y v u Q I rx ry h
  obtain ⟨hs,q⟩:=h
  cases x with
  | non=>
    cases rx
    cases y with
    | non=>cases ry; exact PySem.EqNone.eq_none_none (fin_bl I q (by simp))
    | bl j=>cases ry; exact PySem.EqNone.eq_none_bool (fin_bl I q (by simp))
    | int j=>obtain ⟨t',rfl⟩:=ry; exact PySem.EqNone.eq_none_int (fin_bl I q (by simp))
    | str j=>obtain ⟨t',rfl⟩:=ry; exact PySem.EqNone.eq_none_str (fin_bl I q (by simp))
    | _=>exact absurd (show false=true from hs) Bool.false_ne_true
  | bl i=>
    cases rx
    cases y with
    | non=>cases ry; exact PySem.EqNone.eq_bool_none (fin_bl I q (by simp))
    | bl j=>cases ry; exact eq_bool (fin_bl I q dec_bl)
    | str j=>obtain ⟨t',rfl⟩:=ry; exact PySem.EqMixed.eq_bool_str (fin_bl I q (by simp))
    | _=>exact absurd (show false=true from hs) Bool.false_ne_true
  | int i=>
    obtain ⟨t,rfl⟩:=rx
    cases y with
    | non=>cases ry; exact PySem.EqNone.eq_int_none (fin_bl I q (by simp))
    | int j=>obtain ⟨t',rfl⟩:=ry; exact eq_int (fin_bl I q dec_int)
    | str j=>obtain ⟨t',rfl⟩:=ry; exact PySem.EqMixed.eq_int_str (fin_bl I q (by simp))
    | _=>exact absurd (show false=true from hs) Bool.false_ne_true
  | str i=>
    obtain ⟨t,rfl⟩:=rx
    cases y with
    | non=>cases ry; exact PySem.EqNone.eq_str_none (fin_bl I q (by simp))
    | bl j=>cases ry; exact PySem.EqMixed.eq_str_bool (fin_bl I q (by simp))
    | int j=>obtain ⟨t',rfl⟩:=ry; exact PySem.EqMixed.eq_str_int (fin_bl I q (by simp))
    | str j=>obtain ⟨t',rfl⟩:=ry; exact eq_str (fin_bl I q dec_str)
    | _=>exact absurd (show false=true from hs) Bool.false_ne_true
  | byt i=>
    obtain ⟨t,rfl⟩:=rx
    cases y with
    | byt j=>obtain ⟨t',rfl⟩:=ry; exact PySem.W.eq_bytes (fin_bl I q dec_byt)
    | _=>exact absurd (show false=true from hs) Bool.false_ne_true
  | _=>cases y <;> exact absurd (show false=true from hs) Bool.false_ne_true
theorem op_ne:OpR X (compareOp .NotEq) rNe:=by
  intro pins s σ H x y v u Q I rx ry h
  obtain ⟨hs,q⟩:=h
  cases x with
  | non=>
    cases rx
    cases y with
    | non=>cases ry; exact PySem.EqNone.ne_none_none (fin_bl I q (by simp))
    | bl j=>cases ry; exact PySem.EqNone.ne_none_bool (fin_bl I q (by simp))
    | int j=>obtain ⟨t',rfl⟩:=ry; exact PySem.EqNone.ne_none_int (fin_bl I q (by simp))
    | str j=>obtain ⟨t',rfl⟩:=ry; exact PySem.EqNone.ne_none_str (fin_bl I q (by simp))
    | _=>exact absurd (show false=true from hs) Bool.false_ne_true
  | bl i=>
    cases rx
    cases y with
    | non=>cases ry; exact PySem.EqNone.ne_bool_none (fin_bl I q (by simp))
    | bl j=>cases ry; exact ne_bool (fin_bl I q (congrArg not dec_bl))
    | str j=>obtain ⟨t',rfl⟩:=ry; exact PySem.EqMixed.ne_bool_str (fin_bl I q (by simp))
    | _=>exact absurd (show false=true from hs) Bool.false_ne_true
  | int i=>
    obtain ⟨t,rfl⟩:=rx
    cases y with
    | non=>cases ry; exact PySem.EqNone.ne_int_none (fin_bl I q (by simp))
    | int j=>obtain ⟨t',rfl⟩:=ry; exact ne_int (fin_bl I q (congrArg not dec_int))
    | str j=>obtain ⟨t',rfl⟩:=ry; exact PySem.EqMixed.ne_int_str (fin_bl I q (by simp))
    | _=>exact absurd (show false=true from hs) Bool.false_ne_true
  | str i=>
    obtain ⟨t,rfl⟩:=rx
    cases y with
    | non=>cases ry; exact PySem.EqNone.ne_str_none (fin_bl I q (by simp))
    | bl j=>cases ry; exact PySem.EqMixed.ne_str_bool (fin_bl I q (by simp))
    | int j=>obtain ⟨t',rfl⟩:=ry; exact PySem.EqMixed.ne_str_int (fin_bl I q (by simp))
    | str j=>obtain ⟨t',rfl⟩:=ry; exact ne_str (fin_bl I q (congrArg not dec_str))
    | _=>exact absurd (show false=true from hs) Bool.false_ne_true
  | byt i=>
    obtain ⟨t,rfl⟩:=rx
    cases y with
    | byt j=>obtain ⟨t',rfl⟩:=ry; exact PySem.W.ne_bytes (fin_bl I q (congrArg not dec_byt))
    | _=>exact absurd (show false=true from hs) Bool.false_ne_true
  | _=>cases y <;> exact absurd (show false=true from hs) Bool.false_ne_true
theorem op_lt:OpR X (compareOp .Lt) (rI0 fun i j=>.bl (decide (i<j))):=opB0 fun _ _ _ _ _ _ _ q=>lt_int q
theorem op_le:OpR X (compareOp .LtE) (rI0 fun i j=>.bl (decide (i≤j))):=opB0 fun _ _ _ _ _ _ _ q=>le_int q
theorem op_gt:OpR X (compareOp .Gt) (rI0 fun i j=>.bl (decide (j<i))):=opB0 fun _ _ _ _ _ _ _ q=>gt_int q
theorem op_ge:OpR X (compareOp .GtE) (rI0 fun i j=>.bl (decide (j≤i))):=opB0 fun _ _ _ _ _ _ _ q=>ge_int q
theorem op_isN:OpR X (compareOp .Is) (fun x y H Q=>y=.non∧Q (.bl (decide (x=.non))) H):=by
  intro pins s σ H x y v u Q I rx ry h
  obtain ⟨rfl,q⟩:=h
  cases ry
  refine is_none_gen (fin_bl I q ?_)
  cases x <;> first
    | (cases rx; rfl)
    | (obtain ⟨t,rfl⟩:=rx; rfl)
theorem op_notN:OpR X (compareOp .IsNot) (fun x y H Q=>y=.non∧Q (.bl (!decide (x=.non))) H):=by
  intro pins s σ H x y v u Q I rx ry h
  obtain ⟨rfl,q⟩:=h
  cases ry
  refine isnot_none_gen (fin_bl I q ?_)
  cases x <;> first
    | (cases rx; rfl)
    | (obtain ⟨t,rfl⟩:=rx; rfl)
theorem nomark (b:Expr) {op:CmpOp}(h:op≠.In:=by decide) (h2:op≠.NotIn:=by decide):behindInMarks op b=false:=by
  have e1:(op==CmpOp.In)=false:=by cases op <;> first | rfl | exact absurd rfl h
  have e2:(op==CmpOp.NotIn)=false:=by cases op <;> first | rfl | exact absurd rfl h2
  cases b <;> simp [behindInMarks,e1,e2]
theorem pe_cmpR {op:CmpOp}{r:R2}(ho:OpR X (compareOp op) r) (ha:PE X a ta) (hb:PE X b tb) (hm:behindInMarks op b=false):PE X (.Compare a [op] [b] pos) (tOp r ta tb):=by
  intro pins s σ H Q I h
  exact wpAny_Compare1 (binT ha hb I h fun v u s2 x y H2 I2 rx ry q=>ho pins s2 σ H2 x y v u Q I2 rx ry q) hm
def tTest (t:TE):TT:=fun σ H Q=>t σ H fun x H'=>∃ k,x=.bl k∧Q k H'
theorem pt_cmpR {op:CmpOp}{r:R2}(ho:OpR X (compareOp op) r) (ha:PE X a ta) (hb:PE X b tb) (hm:behindInMarks op b=false):PT X (.Compare a [op] [b] pos) (tTest (tOp r ta tb)):=by
  intro pins s σ H Q I h
  refine wpAny_isTrue_Compare1 (thn (ha pins s σ H _ I h) fun v s1 ⟨x,H1,I1,r1,q1⟩=>thn (hb pins s1 σ H1 _ I1 q1) fun u s2 ⟨y,H2,I2,r2,q2⟩=>
    thn (ho pins s2 σ H2 x y v u _ I2 r1 r2 q2) fun c s3 ⟨z,H3,I3,r3,k,e,q3⟩=>?_) hm
  subst e
  cases r3
  exact wpAny_truthy_bool ⟨H3,I3,q3⟩
def tChain (r r':R2) (ta tb tc:TE):TE:=fun σ H Q=>ta σ H fun x H1=>tb σ H1 fun y H2=>r x y H2 fun z H3=>∃ k,z=.bl k∧
  (if k=true then tc σ H3 fun w' H4=>r' y w' H4 Q else Q (.bl false) H3)
theorem pe_chain {op op':CmpOp}{r r':R2}(ho:OpR X (compareOp op) r) (ho':OpR X (compareOp op') r') (ha:PE X a ta) (hb:PE X b tb) (hc:PE X c tc)
    (hm:lastMarks [op,op'] [b,c]=false:=by with_unfolding_all rfl):PE X (.Compare a [op,op'] [b,c] pos) (tChain r r' ta tb tc):=by
  intro pins s σ H Q I h
  refine Compare_chain (thn (ha pins s σ H _ I h) fun v s1 ⟨x,H1,I1,r1,q1⟩=>chain_link (thn (hb pins s1 σ H1 _ I1 q1) fun u s2 ⟨y,H2,I2,r2,q2⟩=>
    thn (ho pins s2 σ H2 x y v u _ I2 r1 r2 q2) fun d s3 ⟨z,H3,I3,r3,k,e,q3⟩=>?_)) hm
  subst e
  cases r3
  refine wpAny_truthy_bool ?_
  cases k with
  | false=>exact ite_ff ⟨.bl false,H3,I3,rfl,q3⟩
  | true=>exact ite_tt (chain_last (thn (hc pins s3 σ H3 _ I3 q3) fun w' s4 ⟨z',H4,I4,r4,q4⟩=>ho' pins s4 σ H4 y z' u w' Q I4 r2 r4 q4))
theorem pt_chain {op op':CmpOp}{r r':R2}(ho:OpR X (compareOp op) r) (ho':OpR X (compareOp op') r') (ha:PE X a ta) (hb:PE X b tb) (hc:PE X c tc)
    (hm:lastMarks [op,op'] [b,c]=false:=by with_unfolding_all rfl):PT X (.Compare a [op,op'] [b,c] pos) (tTest (tChain r r' ta tb tc)):=by
  intro pins s σ H Q I h
  refine isTrue_chain (thn (ha pins s σ H _ I h) fun v s1 ⟨x,H1,I1,r1,q1⟩=>test_link (thn (hb pins s1 σ H1 _ I1 q1) fun u s2 ⟨y,H2,I2,r2,q2⟩=>
    thn (ho pins s2 σ H2 x y v u _ I2 r1 r2 q2) fun d s3 ⟨z,H3,I3,r3,k,e,q3⟩=>?_)) hm
  subst e
  cases r3
  refine wpAny_truthy_bool ?_
  cases k with
  | false=>
    obtain ⟨k',e',q'⟩:=q3
    cases e'
    exact ite_ff ⟨H3,I3,q'⟩
  | true=>
    refine ite_tt (test_last (thn (hc pins s3 σ H3 _ I3 q3) fun w' s4 ⟨z',H4,I4,r4,q4⟩=>thn (ho' pins s4 σ H4 y z' u w' _ I4 r2 r4 q4) fun d' s5 ⟨z2,H5,I5,r5,k2,e2,q5⟩=>?_))
    subst e2
    cases r5
    exact wpAny_truthy_bool ⟨H5,I5,q5⟩
def TruV (K:PySem.W.Frag) (x:V) (H:Hp) (k:Bool):Prop:=
  match x with
  | .non=>k=false
  | .bl b=>k=b
  | .int i=>k=(i != 0)
  | .str y=>y.length≤sizeLine∧k=((y.length:Int) != 0)
  | .byt y=>y.size≤sizeLine∧k=((y.size:Int) != 0)
  | .ref p=>(∃ xs,SqL K H p xs∧k=!xs.isEmpty)∨(∃ xs,SqT K H p xs∧k=!xs.isEmpty)∨∃ kvs,H p=some (.dK kvs)∧k=!kvs.isEmpty
  | _=>False
theorem isEmpty_kv {κ:Type}{kvs:List (κ×V)}{vs:List (κ×Value)}(r:KV kvs vs):(!vs.isEmpty)=!kvs.isEmpty:=by
  cases r <;> rfl
theorem isEmpty_of {xs:List V}{its:List Value}(r:Vals xs its):(!its.toArray.isEmpty)=!xs.isEmpty:=by
  cases r <;> simp
theorem line63:(sizeLine:Nat)<2 ^ 63:=by rw [sizeLine_eq]; decide
theorem tru_ok:TruR X (fun x H Q=>∃ k,TruV X.K x H k∧Q k H):=by
  intro pins s σ H x v Q I rx h
  obtain ⟨k,e,q⟩:=h
  have hl:=line63
  have hs:sizeLine=16777216:=sizeLine_eq
  cases x with
  | non=>
    cases rx
    have e':k=false:=e
    subst e'
    exact truthy_none ⟨H,I,q⟩
  | bl b=>
    cases rx
    have e':k=b:=e
    subst e'
    exact wpAny_truthy_bool ⟨H,I,q⟩
  | int i=>
    obtain ⟨t,rfl⟩:=rx
    have e':k=(i != 0):=e
    subst e'
    exact PySem.P.truthy_int ⟨H,I,q⟩
  | str y=>
    obtain ⟨t,rfl⟩:=rx
    obtain ⟨hy,e'⟩:y.length≤sizeLine∧k=((y.length:Int) != 0):=e
    subst e'
    exact PySem.P.truthy_str (by omega) ⟨H,I.tok _,q⟩
  | byt y=>
    obtain ⟨t,rfl⟩:=rx
    obtain ⟨hy,e'⟩:y.size≤sizeLine∧k=((y.size:Int) != 0):=e
    subst e'
    exact PySem.W.truthy_bytes (by omega) ⟨H,I.tok _,q⟩
  | ref p=>
    cases rx
    have e':(∃ xs,SqL X.K H p xs∧k=!xs.isEmpty)∨(∃ xs,SqT X.K H p xs∧k=!xs.isEmpty)∨∃ kvs,H p=some (.dK kvs)∧k=!kvs.isEmpty:=e
    rcases e' with ⟨xs,hx,e'⟩ | ⟨xs,hx,e'⟩ | ⟨kvs,hx,e'⟩
    · subst e'
      obtain ⟨its,r,pl,hz⟩:=I.list hx
      have hlen:=r.length
      exact wpAny_truthy_list pl.isList (by simp only [List.size_toArray]; omega) ⟨H,I.tok _,by rw [isEmpty_of r]; exact q⟩
    · subst e'
      obtain ⟨its,r,pl,hz⟩:=I.tuple hx
      have hlen:=r.length
      exact truthy_tuple pl (by simp only [List.size_toArray]; omega) ⟨H,I.tok _,by rw [isEmpty_of r]; exact q⟩
    · subst e'
      obtain ⟨hz,hS,vs,r,m⟩:kvs.length≤sizeLine∧(p==sysModules)=false∧∃ vs,KV kvs vs∧s.heap.DictOf (mixKind X.prog X.w) p vs:=I.hok p _ hx
      have hlen:kvs.length=vs.length:=Paired.length r
      exact wpAny_truthy_dict hS m (by omega) ⟨H,I.tok _,by rw [isEmpty_kv r]; exact q⟩
  | _=>exact (show False from e).elim
theorem pt_truth (ha:PE X a ta) (he:∀ whole,isTrue a X.env whole=(do let v←whole; standAt a.pos; holding [v] (truthy v))) :
    PT X a (fun σ H Q=>ta σ H fun x H'=>∃ k,TruV X.K x H' k∧Q k H'):=by
  intro pins s σ H Q I h
  exact isTrue_plain (thn (ha pins s σ H _ I h) fun v s1 ⟨x,H1,I1,r1,q1⟩=>tru_ok pins s1 σ H1 x v Q I1 r1 q1) (he _)
theorem op_add_str:OpR X (binaryOp .Add) (fun x y H Q=>∃ i j,x=.str i∧y=.str j∧i.length+j.length≤sizeLine∧Q (.str (i++j)) H):=by
  intro pins s σ H x y v u Q I rx ry h
  obtain ⟨i,j,rfl,rfl,hz,q⟩:=h
  obtain ⟨t,rfl⟩:=rx
  obtain ⟨t',rfl⟩:=ry
  exact add_str (fun t' tk=>⟨.str (i++j),H,I.tok _,⟨_,rfl⟩,q⟩) hz
theorem vals1 {x:V}{us:List Value}(r:Vals [x] us):∃ u,us=[u]∧RelV x u:=by
  cases r with
  | cons r1 r2=>cases r2; exact ⟨_,rfl,r1⟩
theorem call_abs:CallR X (.builtin "abs") (fun xs H Q=>∃ i,xs=[.int i]∧Q (.int (if i<0 then -i else i)) H):=by
  intro pins s σ H xs us Q I r h
  obtain ⟨i,rfl,q⟩:=h
  obtain ⟨u,rfl,t,rfl⟩:=vals1 r
  exact call_abs_int fun u tk=>⟨.int (if i<0 then -i else i),H,I.tok _,⟨_,rfl⟩,q⟩
theorem call_str_int:CallR X (.type "str") (fun xs H Q=>∃ i,xs=[.int i]∧i.natAbs.log2<1920∧Q (.str (toString i)) H):=by
  intro pins s σ H xs us Q I r h
  obtain ⟨i,rfl,hz,q⟩:=h
  obtain ⟨u,rfl,t,rfl⟩:=vals1 r
  exact PySem.P.str_of_int hz ⟨.str _,H,I.tok _,⟨_,rfl⟩,q⟩
theorem call_ord:CallR X (.builtin "ord") (fun xs H Q=>∃ x,xs=[.str x]∧x.length=1∧Q (.int (x.cps.getD 0 0:Nat)) H):=by
  intro pins s σ H xs us Q I r h
  obtain ⟨x,rfl,hz,q⟩:=h
  obtain ⟨u,rfl,t,rfl⟩:=vals1 r
  exact ord_of_one hz ⟨.int _,H,I.tok _,⟨_,rfl⟩,q⟩
end
end L2
namespace L2
open PySem PySem.Spec PyProof.Rows
structure ObjM (h:Heap) (x dx C:Addr) (mA:Str→Option Value):Prop where
  obj:h.get? x=some (PySem.W.instObj C dx)
  ns:h.Ns1 dx mA
  ne:dx≠x
theorem lookIn_ns {h:Heap}{dx:Addr}{mA:Str→Option Value}(n:h.Ns1 dx mA):∃ od,h.get? dx=some od∧∀ name,PySem.W.lookIn name od=some (mA name):=by
  obtain ⟨o,es,ep,ho,hd,hk,_,hm⟩:=n
  refine ⟨o,ho,fun name=>?_⟩
  have e:=hm name
  unfold nsFind findBy at e
  rw [←Array.find?_toList] at e
  unfold PySem.W.lookIn
  rw [hd]
  dsimp only
  split
  · rename_i y q
    rw [q] at e
    exact congrArg some e
  · rename_i q
    rw [q] at e
    have a:es.toList.any (·.refKey)=false:=by
      rw [List.any_eq_false]
      intro y hy
      obtain ⟨z,t,hkey⟩:=hk y (Array.mem_toList_iff.mp hy)
      simp [DictEntry.refKey,hkey]
    have a':¬es.toList.any (·.refKey)=true:=by rw [a]; exact Bool.false_ne_true
    rw [if_neg a']
    exact congrArg some e
theorem ObjM.look {h:Heap}{x dx C:Addr}{mA:Str→Option Value}(I:ObjM h x dx C mA):∃ od,PySem.W.InstAt h x (PySem.W.instObj C dx) C (some od)∧∀ name,PySem.W.lookIn name od=some (mA name):=
  let ⟨od,ho,hl⟩:=lookIn_ns I.ns
  ⟨od,⟨I.obj,rfl,rfl,ho⟩,hl⟩
section
variable {prog:Program}{w:World}{A:Around}{E:Value→Shared→Prop}{s:Shared}{K:PySem.W.Frag}{x dx C f:Addr}{mA:Str→Option Value}{name:Str}{v:Value}
theorem get_map {expr:Bool}{Q:Value→Shared→Prop}(X:K.In s.heap) (I:ObjM s.heap x dx C mA) (hg:PySem.W.plainGet K C name=true) (hh:PySem.W.hasDictIn K C=true)
    (ha:PySem.W.findIn K (.ref C) name=some none) (hv:mA name=some v) (hv':PySem.W.handedIn v=true) (h:Q v { s with toks:=s.toks+1 }) :
    wpAny (model prog w) A (getAttr (.ref x) name expr) Q E s:=by
  obtain ⟨od,J,hl⟩:=I.look
  exact PySem.W.get_value X J (PySem.W.plainGet_of hg).1 (PySem.W.findObj_own hh ha rfl (by rw [hl,hv])) hv' h
theorem get_meth {pl:Sem Bool}{Q:Value×List Value→Shared→Prop}(X:K.In s.heap) (I:ObjM s.heap x dx C mA) (hg:PySem.W.plainGet K C name=true)
    (hf:PySem.W.findIn K (.ref C) name=some (some (.ref f))) (ht:PySem.W.isFn K (.ref f)=true) (hv:mA name=none) (h:Q (.ref f,[.ref x]) s) :
    wpAny (model prog w) A (getMethod (.ref x) name pl) Q E s:=by
  obtain ⟨od,J,hl⟩:=I.look
  exact PySem.W.method_fn X J (PySem.W.plainGet_of hg).1 (PySem.W.plainGet_of hg).2 hf (beq_iff_eq.mp ht) (by show (PySem.W.lookIn name od).map (·.isSome)=some false; rw [hl,hv]; rfl) h
theorem set_map {ns:List Str}{Q:Unit→Shared→Prop}(X:K.In s.heap) (I:ObjM s.heap x dx C mA)
    (hs:PySem.W.findIn K (.ref C) "__setattr__" = some (some (.builtin "object.__setattr__"))) (hp:PySem.W.plainOver K C=true) (ht:PySem.W.takerIn K C name=some none) (hh:PySem.W.hasDictIn K C=true)
    (hw:PySem.Within mA ns) (hsz:ns.length≤sizeLine)
    (h:∀ h',ObjM h' x dx C (fun y=>if y=name then some v else mA y)→Heap.SameBut dx s.heap h'→Q () { s with heap:=h',toks:=s.toks+2 }) :
    wpAny (model prog w) A (setAttr (.ref x) name v) Q E s:=by
  obtain ⟨od,J,hl⟩:=I.look
  refine PySem.W.set_plain X J hs (PySem.W.osa_open (s:={ s with toks:=s.toks+1 }) (r:=none) X J hp ht fun b=>?_)
  obtain ⟨cd,hc,hd'⟩:=PySem.W.any_some hh
  have hx:s.heap.get? x=some ⟨.ref C,some dx,.plain,#[]⟩:=I.obj
  refine wpAny_bind (wpAny_pure (wpAny_bind (wpAny_bind (wpAny_loadPart hx (wpAny_bind (PySem.W.Looks.here (s:={ s with toks:=s.toks+1 }) (PySem.W.looks_clsIn X hc) ?_))))))
  rw [hd']
  refine wpAny_pure (a:=some dx) (wpAny_bind (wpAny_pure (wpAny_bind ?_)))
  refine wpAny_nsSet1 (s:={ s with toks:=s.toks+1 }) I.ns fun h' hn2 hs2=>?_
  obtain ⟨oD,esD,epD,hoD,hdD,hcD⟩:=hn2.count (PySem.Within.cons name v hw)
  refine wpAny_bind (wpAny_lookBehind hoD (by rw [hdD]; exact pastItsLine_dict (Nat.le_trans hcD (by rw [List.length_cons]; omega))) ?_)
  exact wpAny_pure (h _ ⟨(hs2.2 _ (Ne.symm I.ne)).trans I.obj,hn2,I.ne⟩ hs2)
theorem make_map {R:Result→Shared→Prop}{vs:List Value}{kw:List (Str×Value)}(X:K.In s.heap) (hm:PySem.W.makesIn K C=true)
    (hi:PySem.W.findIn K (.ref C) "__init__" = some (some (.ref f))) (hf:PySem.W.typeIn K (.ref f)=some (.type "function"))
    (h:codeAny (model prog w) (A.under (.builtin "type.__call__" ⟨.ref C::vs,kw⟩)) (.call (.ref f) ⟨.ref (s.heap.objs.size+1)::vs,kw⟩) (PySem.W.InitBack (s.heap.objs.size+1) R)
      { s with heap:=(s.heap.push PySem.W.emptyDict).push (PySem.W.instObj C s.heap.objs.size) }) :
    codeAny (model prog w) A (.call (.ref C) ⟨vs,kw⟩) R s:=by
  obtain ⟨hh,g,d,t,os⟩:=s
  exact PySem.W.make_core (PySem.W.makes_of X hm) (PySem.W.looks_findIn X hi) (fun self=>PySem.W.bind_fn X self hf) (.inl rfl) h
end
def putF (f:Str) (v:V):List (Str×V)→List (Str×V)
  | []=>[(f,v)]
  | (g,x)::r=>if g=f then (g,v)::r else (g,x)::putF f v r
theorem lookup_putF (f g:Str) (v:V):∀ fs:List (Str×V),(putF f v fs).lookup g=if g=f then some v else fs.lookup g
  | []=>by
    show List.lookup g [(f,v)]=_
    by_cases h:g=f
    · have hb:(g==f)=true:=beq_iff_eq.mpr h
      simp only [List.lookup,hb,if_pos h]
    · have hb:(g==f)=false:=beq_eq_false_iff_ne.mpr h
      simp only [List.lookup,hb,if_neg h]
  | (k,x)::r=>by
    have ih:=lookup_putF f g v r
    rw [show putF f v ((k,x)::r)=(if k=f then (k,v)::r else (k,x)::putF f v r) from rfl]
    by_cases hk:k=f
    · rw [if_pos hk]
      by_cases h:g=k
      · have hb:(g==k)=true:=beq_iff_eq.mpr h
        simp only [List.lookup,hb,if_pos (h.trans hk)]
      · have hb:(g==k)=false:=beq_eq_false_iff_ne.mpr h
        simp only [List.lookup,hb,if_neg (fun e:g=f=>h (e.trans hk.symm))]
    · rw [if_neg hk]
      by_cases h:g=k
      · have hb:(g==k)=true:=beq_iff_eq.mpr h
        simp only [List.lookup,hb,if_neg (fun e:g=f=>hk (h.symm.trans e))]
      · have hb:(g==k)=false:=beq_eq_false_iff_ne.mpr h
        simp only [List.lookup,hb]
        exact ih
theorem keys_putF (f:Str) (v:V):∀ fs:List (Str×V),f∈(putF f v fs).map (·.1)∧∀ g,g∈fs.map (·.1)→g∈(putF f v fs).map (·.1)
  | []=>⟨by simp [putF],fun g h=>by simp at h⟩
  | (k,x)::r=>by
    obtain ⟨i1,i2⟩:=keys_putF f v r
    rw [show putF f v ((k,x)::r)=(if k=f then (k,v)::r else (k,x)::putF f v r) from rfl]
    by_cases hk:k=f
    · rw [if_pos hk]
      subst hk
      exact ⟨by simp,fun g h=>by simpa using h⟩
    · rw [if_neg hk]
      refine ⟨?_,fun g h=>?_⟩
      · rw [List.map_cons]
        exact List.mem_cons_of_mem _ i1
      · rw [List.map_cons] at h ⊢
        rcases List.mem_cons.mp h with e | e
        · exact List.mem_cons.mpr (.inl e)
        · exact List.mem_cons_of_mem _ (i2 g e)
theorem length_putF (f:Str) (v:V):∀ fs:List (Str×V),(putF f v fs).length≤fs.length+1
  | []=>by simp [putF]
  | (k,x)::r=>by
    have ih:=length_putF f v r
    rw [show putF f v ((k,x)::r)=(if k=f then (k,v)::r else (k,x)::putF f v r) from rfl]
    by_cases hk:k=f
    · rw [if_pos hk,List.length_cons,List.length_cons]; omega
    · rw [if_neg hk,List.length_cons,List.length_cons]; omega
theorem RelO.some_of {v:V}{o:Option Value}(r:RelO (some v) o):∃ u,o=some u∧RelV v u:=by
  cases o with
  | none=>exact (show False from r).elim
  | some u=>exact ⟨u,rfl,r⟩
theorem RelO.none_of {o:Option Value}(r:RelO none o):o=none:=by
  cases o with
  | none=>rfl
  | some u=>exact (show False from r).elim
theorem handed_of {v:V}{u:Value}(r:RelV v u):PySem.W.handedIn u=true:=by
  cases v with
  | non=>cases (show u=Value.none from r); rfl
  | bl b=>cases (show u=Value.bool b from r); rfl
  | int i=>obtain ⟨t,e⟩:=(show ∃ t,u=Value.int i t from r); cases e; rfl
  | str x=>obtain ⟨t,e⟩:=(show ∃ t,u=Value.str x t from r); cases e; rfl
  | byt b=>obtain ⟨t,e⟩:=(show ∃ t,u=Value.bytes b t from r); cases e; rfl
  | flt b=>obtain ⟨t,e⟩:=(show ∃ t,u=Value.float b t from r); cases e; rfl
  | ref a=>cases (show u=Value.ref a from r); rfl
  | ty n=>cases (show u=Value.type n from r); rfl
section
variable {P:Program}{w:World}{H H':Hp}{h h':Heap}{a C dx:Addr}{fs fs':List (Str×V)}
theorem ins_get (hok:HOk P w H h) (e:H a=some (.ins C dx fs)):∃ mA,ObjM h a dx C mA∧(∀ f,RelO (fs.lookup f) (mA f))∧PySem.Within mA (fs.map (·.1))∧fs.length≤1000∧H dx=some (.own a):=by
  obtain ⟨d,z,ne,ob,mA,n,r,q⟩:=(show ObjOk P w H h a (.ins C dx fs) from hok a _ e)
  exact ⟨mA,⟨ob,n,ne⟩,r,q,z,d⟩
end
structure Cls (K:PySem.W.Frag) (C:Addr):Prop where
  pg:PySem.W.plainGet K C Str.empty=true
  hd:PySem.W.hasDictIn K C=true
  po:PySem.W.plainOver K C=true
  sa:PySem.W.findIn K (.ref C) "__setattr__" = some (some (.builtin "object.__setattr__"))
theorem Cls.get {K:PySem.W.Frag}{C:Addr}(c:Cls K C) (f:Str):PySem.W.plainGet K C f=true:=c.pg
def NoAttr (K:PySem.W.Frag) (C:Addr) (f:Str):Prop:=PySem.W.findIn K (.ref C) f=some none
theorem NoAttr.taker {K:PySem.W.Frag}{C:Addr}{f:Str}(n:NoAttr K C f):PySem.W.takerIn K C f=some none:=by
  unfold PySem.W.takerIn
  rw [show PySem.W.findIn K (.ref C) f=some none from n]
  rfl
structure Meth (K:PySem.W.Frag) (C:Addr) (m:Str) (f:Addr):Prop where
  at_:PySem.W.findIn K (.ref C) m=some (some (.ref f))
  fn:PySem.W.isFn K (.ref f)=true
  kp:PySem.W.keepIn K (.ref f)=true
section
variable {X:Cx}{pins:List (Addr×Obj)}{σ:St}{H:Hp}{s:Shared}{a C dx:Addr}{fs:List (Str×V)}{f:Str}{v:V}{A:Around}{E:Value→Shared→Prop}
theorem getattr_ok {b:Bool}{Q:Value→Shared→Prop}(I:Inv X pins σ H s) (e:H a=some (.ins C dx fs)) (c:Cls X.K C) (n:NoAttr X.K C f) (l:fs.lookup f=some v)
    (h:∀ u s',Inv X pins σ H s'→RelV v u→Q u s'):wpAny (model X.prog X.w) A (getAttr (.ref a) f b) Q E s:=by
  obtain ⟨mA,O,r,_,_,_⟩:=ins_get I.hok e
  obtain ⟨u,hu,ru⟩:=RelO.some_of (v:=v) (o:=mA f) (by rw [←l]; exact r f)
  exact get_map I.kIn O (c.get f) c.hd n hu (handed_of ru) (h u _ (I.tok _) ru)
theorem getmeth_ok {m:Str}{g:Addr}{pl:Sem Bool}{Q:Value×List Value→Shared→Prop}(I:Inv X pins σ H s) (e:H a=some (.ins C dx fs)) (c:Cls X.K C) (k:Meth X.K C m g) (l:fs.lookup m=none)
    (h:Q (.ref g,[.ref a]) s):wpAny (model X.prog X.w) A (getMethod (.ref a) m pl) Q E s:=by
  obtain ⟨mA,O,r,_,_,_⟩:=ins_get I.hok e
  have hn:mA m=none:=RelO.none_of (by rw [←l]; exact r m)
  exact get_meth I.kIn O (c.get m) k.at_ k.fn hn h
theorem setattr_ok {y:V}{u:Value}{Q:Unit→Shared→Prop}(I:Inv X pins σ H s) (e:H a=some (.ins C dx fs)) (c:Cls X.K C) (n:NoAttr X.K C f) (hl:fs.length<1000) (ry:RelV y u)
    (h:∀ s',Inv X pins σ (upd H a (.ins C dx (putF f y fs))) s'→Q () s'):wpAny (model X.prog X.w) A (setAttr (.ref a) f u) Q E s:=by
  obtain ⟨mA,O,r,wi,_,ho⟩:=ins_get I.hok e
  have hz:(fs.map (·.1)).length≤sizeLine:=by rw [List.length_map,sizeLine_eq]; omega
  refine set_map I.kIn O c.sa c.po n.taker c.hd wi hz fun h' O' sb=>h _ ?_
  have hd:∃ o,h'.get? dx=some o:=let ⟨o,_,_,e',_⟩:=O'.ns; ⟨o,e'⟩
  refine I.write (x:=a) (e:=dx) (by rw [e]; exact True.intro) (.inr ho) (fun b q hb z=>(sb.2 b hb).trans z) hd ?_
  refine ⟨by rw [upd_ne O.ne]; exact ho,?_,O.ne,O'.obj,_,O'.ns,fun g=>?_,fun g hg=>?_⟩
  · have:=length_putF f y fs; omega
  · show RelO ((putF f y fs).lookup g) (if g=f then some u else mA g)
    rw [lookup_putF]
    by_cases q:g=f
    · rw [if_pos q,if_pos q]; exact ry
    · rw [if_neg q,if_neg q]; exact r g
  · by_cases q:g=f
    · rw [q]; exact (keys_putF f y fs).1
    · refine (keys_putF f y fs).2 g (wi g fun z=>hg ?_)
      show (if g=f then some u else mA g)=none
      rw [if_neg q]; exact z
theorem Inv.made (I:Inv X pins σ H s):Inv X pins σ (upd (upd H s.heap.objs.size (.own (s.heap.objs.size+1))) (s.heap.objs.size+1) (.ins C s.heap.objs.size []))
    { s with heap:=(s.heap.push PySem.W.emptyDict).push (PySem.W.instObj C s.heap.objs.size) }:=by
  have e1:(s.heap.push PySem.W.emptyDict).get? s.heap.objs.size=some PySem.W.emptyDict:=Heap.get?_push_size s.heap rfl
  have e2:((s.heap.push PySem.W.emptyDict).push (PySem.W.instObj C s.heap.objs.size)).get? (s.heap.objs.size+1)=some (PySem.W.instObj C s.heap.objs.size):=by
    have:=Heap.get?_push_size (s.heap.push PySem.W.emptyDict) (o:=PySem.W.instObj C s.heap.objs.size) rfl
    rwa [Heap.size_push] at this
  have e3:(s.heap.push PySem.W.emptyDict).Ns s.heap.objs.size (fun _=>none):=⟨PySem.W.emptyDict,#[],_,e1,rfl,(fun e he=>absurd he (by simp)),fun _=>rfl⟩
  have I1:=I.laid (a:=s.heap.objs.size) (o:=.own (s.heap.objs.size+1)) (h':=s.heap.push PySem.W.emptyDict) (t':=s.toks) (fun b u q=>Heap.get?_push_of_some _ q) (Nat.le_refl _) ⟨_,e1⟩
  refine I1.laid (a:=s.heap.objs.size+1) (o:=.ins C s.heap.objs.size []) (t':=s.toks) (fun b u q=>Heap.get?_push_of_some _ q) (Nat.le_of_eq (Heap.size_push _ _)) ?_
  have ne:s.heap.objs.size≠s.heap.objs.size+1:=Nat.ne_of_lt (Nat.lt_succ_self _)
  refine ⟨by rw [upd_ne ne,upd_same],Nat.zero_le _,ne,e2,fun _=>none,(Heap.Ns1.of_empty e3).at fun o q=>Heap.get?_push_of_some _ q,fun _=>True.intro,fun y hy=>absurd rfl hy⟩
theorem attr_of {prog:Program}{w:World}{env:Env}{e:Expr}{f:Str}{pos:Pos}{s:Shared}{Q:Value→Shared→Prop}(hb:attributeBase e f env (eval e env)=eval e env)
    (h:wpAny (model prog w) A (eval e env) (fun o s₁=>wpAny (model prog w) A (getAttr o f true) Q E s₁) E s):wpAny (model prog w) A (eval (.Attribute e f pos) env) Q E s:=
  Attribute_any_ h (by rw [arm_eval_Attribute,hb])
end
def tFld (K:PySem.W.Frag) (ta:TE) (f:Str):TE:=fun σ H Q=>ta σ H fun x H1=>∃ a C dx fs v,x=.ref a∧H1 a=some (.ins C dx fs)∧Cls K C∧NoAttr K C f∧fs.lookup f=some v∧Q v H1
def sFld (K:PySem.W.Frag) (ta tv:TE) (f:Str):TS:=fun D σ H=>tv σ H fun y H1=>ta σ H1 fun x H2=>∃ a C dx fs,x=.ref a∧H2 a=some (.ins C dx fs)∧Cls K C∧NoAttr K C f∧fs.length<1000∧
  D.nx σ (upd H2 a (.ins C dx (putF f y fs)))
section
variable {X:Cx}{o e value:Expr}{f:Str}{pos pos' tpos:Pos}{ta tv:TE}
theorem pe_fld (he:PE X e ta) (hb:attributeBase e f X.env (eval e X.env)=eval e X.env):PE X (.Attribute e f pos) (tFld X.K ta f):=by
  intro pins s σ H Q I h
  refine attr_of hb (thn (he pins s σ H _ I h) fun u s1 ⟨x,H1,I1,rx,a,C,dx,fs,v,ex,ea,c,n,l,q⟩=>?_)
  subst ex
  obtain rfl:u=Value.ref a:=rx
  exact getattr_ok I1 ea c n l fun u' s2 I2 ru=>⟨v,H1,I2,ru,q⟩
theorem ps_fld (ha:PE X o ta) (hv:PE X value tv) (hs:swapsWith value (some (.Attribute o f pos')) pos.line X.env=pure false):PS X (.Assign [.Attribute o f pos'] value pos) (sFld X.K ta tv f):=by
  intro pins s σ H D I h
  refine plainObj_wpAny_Assign_Attribute (thn (hv pins s σ H _ I h) fun u s1 ⟨y,H1,I1,ry,q⟩=>thn (ha pins s1 σ H1 _ I1 q) fun ov s2 ⟨x,H2,I2,rx,a,C,dx,fs,ex,ea,c,n,l,q2⟩=>?_) hs
  subst ex
  obtain rfl:ov=Value.ref a:=rx
  exact setattr_ok I2 ea c n l ry fun s3 I3=>⟨σ,_,I3,q2⟩
theorem methcall_of {pl:Sem Bool}{m:Str}{apos:Pos}{args:List Expr}{pins:List (Addr×Obj)}{s:Shared}{σ:St}{H:Hp}{Q:Value→Shared→Prop}{te:TE}(he:PE X e te) (I:Inv X pins σ H s)
    (h:te σ H fun x H1=>∃ a C dx fs g,x=.ref a∧H1 a=some (.ins C dx fs)∧Cls X.K C∧Meth X.K C m g∧fs.lookup m=none∧
      ∀ s1,Inv X pins σ H1 s1→wpAny (model X.prog X.w) X.A (callWith pos (.ref g) [.ref a] (backTo pos (starEach args X.env)) (backToKw pos (keywordEach [] X.env))) Q X.xe s1)
    (ht:eval (.Call (.Attribute e m apos) args [] pos) X.env=(do
      let ov←eval e X.env
      standAt apos.atName
      let (f,first)←holding [ov] (getMethod ov m pl)
      callWith pos f first (backTo pos (starEach args X.env)) (backToKw pos (keywordEach [] X.env)))) :
    wpAny (model X.prog X.w) X.A (eval (.Call (.Attribute e m apos) args [] pos) X.env) Q X.xe s:=by
  refine PySem.W.methodCall_KW (pl:=pl) (thn (he pins s σ H _ I h) fun u s1 ⟨x,H1,I1,rx,a,C,dx,fs,g,ex,ea,c,k,l,q⟩=>?_) ht
  subst ex
  obtain rfl:u=Value.ref a:=rx
  exact getmeth_ok I1 ea c k l (q s1 I1)
end
end L2
namespace L2
open PySem PySem.Spec PyProof.Rows
structure Room (k:Nat) (A:Around):Prop where
  hd:A.handled=none
  dp:A.depth+3 * k+5<recursionLimit
  un:A.units+16 * k+200<cLine
theorem Room.mono {j k:Nat}{A:Around}(r:Room k A) (h:j≤k):Room j A:=⟨r.hd,by have:=r.dp; omega,by have:=r.un; omega⟩
theorem Room.deeper {k:Nat}{A:Around}(r:Room (k+1) A) (env:Env):Room k (A.deeper env):=
  ⟨r.hd,by have:=r.dp; show A.depth+1+3 * k+5<_; omega,by have:=r.un; show A.units+3+16 * k+200<_; omega⟩
theorem make_depth {A:Around}{C:Addr}{us:List Value}{kw:List (Str×Value)}:(A.under (.builtin "type.__call__" ⟨.ref C::us,kw⟩)).depth=A.depth+1:=by
  first | rfl | simp [Around.under,Code.weight,Code.isCreation,Code.isGuard,Code.isCaller,Code.frames,Code.isFrame,guardIds]
theorem make_units {A:Around}{C:Addr}{us:List Value}{kw:List (Str×Value)}:(A.under (.builtin "type.__call__" ⟨.ref C::us,kw⟩)).units=A.units+1:=by
  first | rfl | simp [Around.under,Code.cUnits,Code.frames,Code.isFrame]
theorem Room.make {k:Nat}{A:Around}(r:Room (k+1) A) (C:Addr) (us:List Value) (kw:List (Str×Value)):Room k (A.under (.builtin "type.__call__" ⟨.ref C::us,kw⟩)):=
  ⟨r.hd,by have:=r.dp; rw [make_depth]; omega,by have:=r.un; rw [make_units]; omega⟩
theorem Room.depth {k:Nat}{A:Around}(r:Room k A):A.depth<recursionLimit:=by have:=r.dp; omega
theorem Room.units {k:Nat}{A:Around}(r:Room k A):A.units+64<cLine:=by have:=r.un; omega
def tNil:TA:=fun _ H Q=>Q [] H
def tCons (ta:TE) (tr:TA):TA:=fun σ H Q=>ta σ H fun x H1=>tr σ H1 fun xs H2=>Q (x::xs) H2
section
variable {X:Cx}{e:Expr}{es:List Expr}{te:TE}{t:TA}{pos:Pos}
theorem pa_nil:PA X [] tNil:=fun _ _ _ _ H Q I h=>Calls.spliced_nil ⟨[],H,I,.nil,h⟩
theorem pa_cons (ha:PE X e te) (hr:PA X es t) (hs:starEach (e::es) X.env=(false,eval e X.env)::starEach es X.env:=by rfl):PA X (e::es) (tCons te t):=by
  intro pos pins s σ H Q I h
  rw [hs]
  show wpAny _ _ (spliced ((false,eval e X.env)::backTo pos (starEach es X.env))) _ _ s
  refine Calls.spliced_cons (thn (ha pins s σ H _ I h) fun u s1 ⟨x,H1,I1,r1,q1⟩=>?_)
  exact thn (hr pos pins s1 σ H1 _ I1 q1) fun us s2 ⟨xs,H2,I2,r2,q2⟩=>⟨x::xs,H2,I2,.cons r1 r2,q2⟩
def tLst (t:TA):TE:=fun σ H Q=>t σ H fun xs H1=>xs.length≤sizeLine∧∀ p,H1 p=none→Q (.ref p) (upd H1 p (.lst xs))
theorem pe_lst (h:PA X es t):PE X (.List es pos) (tLst t):=by
  intro pins s σ H Q I hq
  refine wpAny_List_spliced (thn (h pos pins s σ H _ I hq) fun us s1 ⟨xs,H1,I1,r,z,q⟩=>⟨by rw [←r.length]; exact z,?_⟩)
  have hf:H1 s1.heap.objs.size=none:=I1.hok.fresh (Nat.le_refl _)
  refine ⟨.ref s1.heap.objs.size,upd H1 s1.heap.objs.size (.lst xs),I1.laid (t':=s1.toks) (fun b u e=>Heap.get?_push_of_some _ e) (Nat.le_refl _) ?_,rfl,q _ hf⟩
  exact ⟨z,us,0,r,Heap.get?_push_size _ rfl⟩
end
abbrev Sp:=List V→Hp→VK→XK→Prop
abbrev CXT:=List Env→Hp→Shared→XK→Value→Shared→Prop
structure Env0 (P:Program) (w:World) (K:PySem.W.Frag) (mg:Str→Option Value) (base:Heap) (A:Around) (outer:List Env) (s:Shared) (H:Hp):Prop where
  frames:A.frames=some outer
  mod:Mod K mg base
  bs:∀ b o,base.get? b=some o→s.heap.get? b=some o∧H b=none
  bsz:base.objs.size≤s.heap.objs.size
  funs:s.heap.FunFrames base outer
  frf:∀ b∈frs outer,H b=none
  hok:HOk P w H s.heap
  bare:AllBare s.gens
def CE (outer:List Env) (P:Program) (w:World) (H:Hp) (s:Shared) (Q:VK) (u:Value) (s':Shared):Prop:=
  ∃ v H',s'.os=s.os∧AllBare s'.gens∧Un (frs outer) [] H H' s.heap s'.heap∧HOk P w H' s'.heap∧RelV v u∧Q v H'
def CR (CX:CXT) (outer:List Env) (P:Program) (w:World) (H:Hp) (s:Shared) (Q:VK) (E:XK) (r:Result) (s':Shared):Prop:=
  match r with
  | .ok (.ret u)=>CE outer P w H s Q u s'
  | .ok _=>False
  | .error e=>CX outer H s E e s'
structure FnOk (P:Program) (w:World) (K:PySem.W.Frag) (mg:Str→Option Value) (base:Heap) (CX:CXT) (k:Nat) (f:Addr) (fd:FuncData) (ps:List Str) (sp:Sp):Prop where
  len:∀ vs H Q E,sp vs H Q E→vs.length=ps.length
  run:∀ (A:Around) (outer:List Env) (s:Shared) (H:Hp) (args:Args) (us:List Value) (vs:List V) (Q:VK) (E:XK),Room k A→Env0 P w K mg base A outer s H→BindsTo s fd args (ps.zip us)→Vals vs us→sp vs H Q E→
    codeAny (model P w) A (.call (.ref f) args) (CR CX outer P w H s Q E) s
theorem Env0.make {P:Program}{w:World}{K:PySem.W.Frag}{mg:Str→Option Value}{base:Heap}{A:Around}{outer:List Env}{s:Shared}{H:Hp}(e:Env0 P w K mg base A outer s H) (C:Addr) (us:List Value) (kw:List (Str×Value)) :
    Env0 P w K mg base (A.under (.builtin "type.__call__" ⟨.ref C::us,kw⟩)) outer s H:=⟨by first | exact e.frames | (simpa [Around.under,Code.envs,Code.isFrame,pushEnvs] using e.frames),e.mod,e.bs,e.bsz,e.funs,e.frf,e.hok,e.bare⟩
section
variable {X:Cx}{pins:List (Addr×Obj)}{σ:St}{H:Hp}{s s':Shared}
theorem Inv.env0 (I:Inv X pins σ H s):Env0 X.prog X.w X.K X.mg X.base X.A X.stack s H:=
  ⟨I.ok.frames,I.ok.mod,I.bs,Nat.le_trans I.ok.bsz I.sz,I.stack,I.stkFree,I.hok,I.bare⟩
theorem Inv.after {Q:VK}{u:Value}(I:Inv X pins σ H s) (h:CE X.stack X.prog X.w H s Q u s'):EP X pins σ Q u s':=by
  obtain ⟨v,H',os,bare,un,hok,r,q⟩:=h
  obtain ⟨hh,g,d,t,os'⟩:=s'
  obtain rfl:os'=s.os:=os
  exact ⟨v,H',I.call (h':=hh) (g':=g) (d':=d) (t':=t) (ch:=[]) un hok bare (fun b z=>absurd z (by simp)),r,q⟩
end
def tCall (sp:Sp) (dvs:List V) (E:XK) (t:TA):TE:=fun σ H Q=>t σ H fun vs H1=>sp (vs++dvs) H1 Q E
def tMeth (C:Addr) (m:Str) (sp:Sp) (dvs:List V) (E:XK) (ta:TE) (t:TA):TE:=fun σ H Q=>ta σ H fun x H1=>∃ a dx fs,x=.ref a∧H1 a=some (.ins C dx fs)∧fs.lookup m=none∧
  t σ H1 fun vs H2=>sp (x::(vs++dvs)) H2 Q E
def tMake (C:Addr) (sp:Sp) (dvs:List V) (E:XK) (t:TA):TE:=fun σ H Q=>t σ H fun vs H1=>∀ x dx,H1 x=none→H1 dx=none→dx≠x→
  sp (.ref x::(vs++dvs)) (upd (upd H1 dx (.own x)) x (.ins C dx [])) (fun v H2=>v=.non∧Q (.ref x) H2) E
def Binds (K:PySem.W.Frag) (fd:FuncData) (ps:List Str) (ds:List Value):Prop:=
  ∀ (s:Shared) (us:List Value),K.In s.heap→(us++ds).length=ps.length→BindsTo s fd ⟨us,[]⟩ (ps.zip (us++ds))
theorem Binds.all {K:PySem.W.Frag}{fd:FuncData}{ps:List Str}(h:∀ us:List Value,us.length=ps.length→bindArgs fd ⟨us,[]⟩=pure (ps.zip us)):Binds K fd ps []:=fun s us _ hl=>by
  rw [List.append_nil] at hl ⊢
  exact .of_eq (h us hl)
def Passes (CX:CXT) (X:Cx) (E:XK):Prop:=∀ (pins:List (Addr×Obj)) (σ:St) (H:Hp) (s:Shared) (e:Value) (s':Shared),Inv X pins σ H s→CX X.stack H s E e s'→X.xe e s'
section
variable {X:Cx}{CX:CXT}{k:Nat}{f C:Addr}{fd:FuncData}{ps:List Str}{sp:Sp}{dvs:List V}{ds:List Value}{E:XK}{x m:Str}{p pos apos:Pos}{e o:Expr}{es:List Expr}{ta:TE}{t:TA}
theorem run_fn {pins:List (Addr×Obj)}{σ:St}{H:Hp}{s:Shared}{Q:VK}{us:List Value}{vs:List V}(F:FnOk X.prog X.w X.K X.mg X.base CX k f fd ps sp) (hr:Room k X.A) (hb:Binds X.K fd ps ds) (hd:Vals dvs ds) (hx:Passes CX X E)
    (I:Inv X pins σ H s) (r:Vals vs us) (h:sp (vs++dvs) H Q E):wpAny (model X.prog X.w) X.A (call (.ref f) us) (EP X pins σ Q) X.xe s:=by
  have r2:Vals (vs++dvs) (us++ds):=r.append hd
  have hl:(us++ds).length=ps.length:=by rw [←r2.length]; exact F.len _ _ _ _ h
  refine wpAny_call (codeAny_mono (F.run X.A X.stack s H ⟨us,[]⟩ (us++ds) (vs++dvs) Q E hr I.env0 (hb s us I.kIn hl) r2 h) fun r s' hq=>?_)
  cases r with
  | error e=>exact hx pins σ H s e s' I hq
  | ok fl=>
    cases fl with
    | ret u=>exact I.after hq
    | next=>exact False.elim hq
    | brk=>exact False.elim hq
    | cont=>exact False.elim hq
theorem pe_call (F:FnOk X.prog X.w X.K X.mg X.base CX k f fd ps sp) (hr:Room k X.A) (hg:Gl X x) (hm:X.mg x=some (.ref f)) (hk:PySem.W.keepIn X.K (.ref f)=true) (hb:Binds X.K fd ps ds) (hd:Vals dvs ds) (hx:Passes CX X E)
    (ha:PA X (e::es) t) (hdb:(x==("__debug__" : Str))=false:=by decide) (he:starEach (e::es) X.env=(false,eval e X.env)::starEach es X.env:=by rfl) (hpl:(backTo pos (starEach es X.env)).any (·.1)=false:=by rfl) :
    PE X (.Call (.Name x p) (e::es) [] pos) (tCall sp dvs E t):=by
  intro pins s σ H Q I h
  refine wpAny_Call_Name_kw (ld_glob I hg hm ?_ hdb)
  refine PySem.W.callWith_K (h₀:=X.base) I.ok.mod.kin hk (thn (ha pos pins s σ H _ I h) fun us s1 ⟨vs,H1,I1,r,q⟩=>⟨I1.kIn,?_⟩) he hpl
  exact run_fn F hr hb hd hx I1 r q
theorem pe_call0 (F:FnOk X.prog X.w X.K X.mg X.base CX k f fd ps sp) (hr:Room k X.A) (hg:Gl X x) (hm:X.mg x=some (.ref f)) (hk:PySem.W.keepIn X.K (.ref f)=true) (hb:Binds X.K fd ps ds) (hd:Vals dvs ds) (hx:Passes CX X E)
    (hdb:(x==("__debug__" : Str))=false:=by decide):PE X (.Call (.Name x p) [] [] pos) (tCall sp dvs E tNil):=by
  intro pins s σ H Q I h
  refine wpAny_Call_Name_kw (ld_glob I hg hm ?_ hdb)
  exact PySem.W.callWith_K0 I.kIn hk (run_fn (us:=[]) F hr hb hd hx I .nil h)
theorem pe_meth {pl:Sem Bool}(he:PE X o ta) (c:Cls X.K C) (hm:Meth X.K C m f) (F:FnOk X.prog X.w X.K X.mg X.base CX k f fd ps sp) (hr:Room k X.A) (hb:Binds X.K fd ps ds) (hd:Vals dvs ds) (hx:Passes CX X E) (ha:PA X (e::es) t)
    (hst:starEach (e::es) X.env=(false,eval e X.env)::starEach es X.env:=by rfl) (hpl:(backTo pos (starEach es X.env)).any (·.1)=false:=by rfl)
    (ht:eval (.Call (.Attribute o m apos) (e::es) [] pos) X.env=(do
      let ov←eval o X.env
      standAt apos.atName
      let (f,first)←holding [ov] (getMethod ov m pl)
      callWith pos f first (backTo pos (starEach (e::es) X.env)) (backToKw pos (keywordEach [] X.env))):=by rfl) :
    PE X (.Call (.Attribute o m apos) (e::es) [] pos) (tMeth C m sp dvs E ta t):=by
  intro pins s σ H Q I h
  refine PySem.W.methodCall_KW (pl:=pl) (thn (he pins s σ H _ I h) fun u s1 ⟨x,H1,I1,rx,a,dx,fs,ex,ea,l,q⟩=>?_) ht
  subst ex
  obtain rfl:u=Value.ref a:=rx
  refine getmeth_ok I1 ea c hm l ?_
  refine PySem.W.callWith_K (first:=[.ref a]) (h₀:=X.base) I.ok.mod.kin hm.kp (thn (ha pos pins s1 σ H1 _ I1 q) fun us s2 ⟨vs,H2,I2,r,q2⟩=>⟨I2.kIn,?_⟩) hst hpl
  exact run_fn (us:=.ref a::us) (vs:=.ref a::vs) F hr hb hd hx I2 (.cons rfl r) q2
structure Mk (K:PySem.W.Frag) (C f:Addr):Prop where
  makes:PySem.W.makesIn K C=true
  init:PySem.W.findIn K (.ref C) "__init__" = some (some (.ref f))
  fn:PySem.W.isFn K (.ref f)=true
  kp:PySem.W.keepIn K (.ref C)=true
theorem run_make {pins:List (Addr×Obj)}{σ:St}{H:Hp}{s:Shared}{Q:VK}{us:List Value}{vs:List V}(M:Mk X.K C f) (F:FnOk X.prog X.w X.K X.mg X.base CX k f fd ps sp) (hr:Room (k+1) X.A) (hb:Binds X.K fd ps ds) (hd:Vals dvs ds)
    (hx:Passes CX X E) (I:Inv X pins σ H s) (r:Vals vs us)
    (h:∀ x dx,H x=none→H dx=none→dx≠x→sp (.ref x::(vs++dvs)) (upd (upd H dx (.own x)) x (.ins C dx [])) (fun v H2=>v=.non∧Q (.ref x) H2) E) :
    wpAny (model X.prog X.w) X.A (call (.ref C) us) (EP X pins σ Q) X.xe s:=by
  have hq:=h (s.heap.objs.size+1) s.heap.objs.size (I.hok.fresh (Nat.le_succ _)) (I.hok.fresh (Nat.le_refl _)) (Nat.ne_of_lt (Nat.lt_succ_self _))
  have I2:=Inv.made (C:=C) I
  have r2:Vals (V.ref (s.heap.objs.size+1)::(vs++dvs)) (Value.ref (s.heap.objs.size+1)::(us++ds)):=.cons rfl (r.append hd)
  have hl:(Value.ref (s.heap.objs.size+1)::us++ds).length=ps.length:=by
    have e:=r2.length
    rw [F.len _ _ _ _ hq] at e
    exact e.symm
  refine wpAny_call (make_map (f:=f) I.kIn M.makes M.init (beq_iff_eq.mp M.fn) (codeAny_mono (F.run _ X.stack _ _ ⟨Value.ref (s.heap.objs.size+1)::us,[]⟩ (Value.ref (s.heap.objs.size+1)::(us++ds)) _ _ E (hr.make C us [])
    (I2.env0.make C us []) (hb _ (Value.ref (s.heap.objs.size+1)::us) I2.kIn hl) r2 hq) fun r s' hq'=>?_))
  cases r with
  | error e=>exact hx pins σ _ _ e s' I2 hq'
  | ok fl=>
    cases fl with
    | ret u=>
      obtain ⟨v,H',I3,rv,ev,q3⟩:=I2.after hq'
      subst ev
      exact ⟨rv,⟨V.ref (s.heap.objs.size+1),H',I3,rfl,q3⟩⟩
    | next=>exact False.elim hq'
    | brk=>exact False.elim hq'
    | cont=>exact False.elim hq'
theorem pe_make (M:Mk X.K C f) (F:FnOk X.prog X.w X.K X.mg X.base CX k f fd ps sp) (hr:Room (k+1) X.A) (hg:Gl X x) (hm:X.mg x=some (.ref C)) (hb:Binds X.K fd ps ds) (hd:Vals dvs ds) (hx:Passes CX X E)
    (ha:PA X (e::es) t) (hdb:(x==("__debug__" : Str))=false:=by decide) (he:starEach (e::es) X.env=(false,eval e X.env)::starEach es X.env:=by rfl) (hpl:(backTo pos (starEach es X.env)).any (·.1)=false:=by rfl) :
    PE X (.Call (.Name x p) (e::es) [] pos) (tMake C sp dvs E t):=by
  intro pins s σ H Q I h
  refine wpAny_Call_Name_kw (ld_glob I hg hm ?_ hdb)
  refine PySem.W.callWith_K (h₀:=X.base) I.ok.mod.kin M.kp (thn (ha pos pins s σ H _ I h) fun us s1 ⟨vs,H1,I1,r,q⟩=>⟨I1.kIn,?_⟩) he hpl
  exact run_make M F hr hb hd hx I1 r q
end
structure FnScope (N P:List Str) (sc:Scope):Prop where
  kind:sc.kind=.function
  co:sc.isCoroutine=false
  gen:sc.isGenerator=false
  nd:N.Nodup
  pre:N.take P.length=P
  par:∀ x∈P,sc.names.lookup x=some .local∨sc.names.lookup x=some .cell
  nofree:∀ y∈sc.names,y.2≠.free
theorem bindL_out {kindOf:Str→Option NameKind}{x:Str}:∀ {binds:List (Str×Value)}{m:Str→Option Value},(∀ v,(x,v) ∉ binds)→bindL kindOf binds m x=m x
  | [],_,_=>rfl
  | (n,v)::r,m,h=>by
    unfold bindL
    rw [bindL_out fun w hw=>h w (List.mem_cons_of_mem _ hw)]
    split
    · have:x≠n:=by rintro rfl; exact h v List.mem_cons_self
      simp [this]
    · rfl
theorem bindC_out {kindOf:Str→Option NameKind}{x:Str}:∀ {binds:List (Str×Value)}{m:Str→Option Value},(∀ v,(x,v) ∉ binds)→bindC kindOf binds m x=m x
  | [],_,_=>rfl
  | (n,v)::r,m,h=>by
    unfold bindC
    rw [bindC_out fun w hw=>h w (List.mem_cons_of_mem _ hw)]
    split
    · rfl
    · have:x≠n:=by rintro rfl; exact h v List.mem_cons_self
      simp [this]
theorem bindL_get {kindOf:Str→Option NameKind}{x:Str}{v:Value}:∀ {P:List Str}{vs:List Value}{i:Nat}{m:Str→Option Value},P.Nodup→P[i]?=some x→vs[i]?=some v→kindOf x=some .local→
    bindL kindOf (P.zip vs) m x=some v
  | [],_,_,_,_,h,_,_=>by simp at h
  | _::_,[],_,_,_,_,h,_=>by simp at h
  | p::P,w::vs,0,m,nd,h1,h2,hk=>by
    simp at h1 h2; subst h1; subst h2
    show bindL kindOf ((p,w)::P.zip vs) m p=_
    unfold bindL
    rw [bindL_out fun v hv=>(List.nodup_cons.mp nd).1 (List.of_mem_zip hv).1,if_pos hk]
    simp
  | p::P,w::vs,i+1,m,nd,h1,h2,hk=>by
    show bindL kindOf ((p,w)::P.zip vs) m x=_
    unfold bindL
    exact bindL_get (i:=i) (List.nodup_cons.mp nd).2 (by simpa using h1) (by simpa using h2) hk
theorem bindC_get {kindOf:Str→Option NameKind}{x:Str}{v:Value}:∀ {P:List Str}{vs:List Value}{i:Nat}{m:Str→Option Value},P.Nodup→P[i]?=some x→vs[i]?=some v→kindOf x≠some .local→
    bindC kindOf (P.zip vs) m x=some v
  | [],_,_,_,_,h,_,_=>by simp at h
  | _::_,[],_,_,_,_,h,_=>by simp at h
  | p::P,w::vs,0,m,nd,h1,h2,hk=>by
    simp at h1 h2; subst h1; subst h2
    show bindC kindOf ((p,w)::P.zip vs) m p=_
    unfold bindC
    rw [bindC_out fun v hv=>(List.nodup_cons.mp nd).1 (List.of_mem_zip hv).1,if_neg hk]
    simp
  | p::P,w::vs,i+1,m,nd,h1,h2,hk=>by
    show bindC kindOf ((p,w)::P.zip vs) m x=_
    unfold bindC
    exact bindC_get (i:=i) (List.nodup_cons.mp nd).2 (by simpa using h1) (by simpa using h2) hk
def start (N:List Str) (vs:List V):St:=vs.map some++List.replicate (N.length-vs.length) none
def cxOf (CX:CXT) (P:Program) (w:World) (K:PySem.W.Frag) (mg:Str→Option Value) (base:Heap) (N:List Str) (qual:Str) (scope:Scope) (f:Addr) (cd:Value) (A:Around) (outer:List Env) (s:Shared) (H:Hp) (E:XK):Cx where
  prog:=P
  w:=w
  K:=K
  mg:=mg
  base:=base
  A:=A.deeper (envOfC qual scope s.heap.objs.size f cd)
  N:=N
  s_0:=s
  H_0:=H
  env:=envOfC qual scope s.heap.objs.size f cd
  outer:=outer
  stack:=envOfC qual scope s.heap.objs.size f cd::outer
  ex:=[]
  calm:=true
  fn:=fun _=>true
  pn:=[]
  xe:=fun e s'=>wpAny (model P w) (A.deeper (envOfC qual scope s.heap.objs.size f cd)) (leaving (envOfC qual scope s.heap.objs.size f cd) e) (fun _ s''=>CX outer H s E e s'') (fun e' s''=>CX outer H s E e' s'') s'
theorem cell_has {sc:Scope}{n:Nat}{x:Str}(h:sc.names.lookup x=some .cell):∃ c,(cellsFrom n sc.names []).lookup x=some c:=by
  have q:=PySem.W.cellsFrom_some sc.names n [] (.inl h)
  exact Option.isSome_iff_exists.mp q
theorem inv_start {CX:CXT}{P:Program}{w:World}{K:PySem.W.Frag}{mg:Str→Option Value}{base:Heap}{N ps:List Str}{qual:Str}{scope:Scope}{f:Addr}{cd:Value}{A:Around}{outer:List Env}{s s1:Shared}{H:Hp}{E:XK}{us:List Value}{vs:List V}
    (S:FnScope N ps scope) (hd:A.handled=none) (e0:Env0 P w K mg base A outer s H) (hl:vs.length=ps.length) (r:Vals vs us)
    (x:InCallC s s.heap.objs.size (bindL (envOfC qual scope s.heap.objs.size f cd).kindOf (ps.zip us) fun _=>none) (cellsFrom (s.heap.objs.size+1) scope.names []) (bindC (envOfC qual scope s.heap.objs.size f cd).kindOf (ps.zip us) fun _=>none) s1) :
    Inv (cxOf CX P w K mg base N qual scope f cd A outer s H E) [] (start N vs) H s1:=by
  have hpl:ps.length≤N.length:=by have:=congrArg List.length S.pre; rw [List.length_take] at this; omega
  obtain ⟨h1,tk,rfl,hk⟩:=x.done
  have noA:∀ b:Addr,b ∉ (cxOf CX P w K mg base N qual scope f cd A outer s H E).ex:=fun b z=>absurd (show b∈([]:List Addr) from z) (by simp)
  refine ⟨⟨e0.mod,S.kind,rfl,rfl,Nat.le_refl _,fun y z c h1 h2=>?_,fun y hy=>?_,fun y c _ h=>?_,fun _=>hd,Around.frames_deeper e0.frames,.inr ⟨rfl,rfl⟩,fun b z=>absurd z (noA b),e0.bs,e0.bsz,fun b _ _=>noA b,fun b z=>absurd z (noA b),e0.funs,e0.frf⟩,
    rfl,e0.bare,Un.kept hk,⟨_,x.toInCall.ns,fun i y v h1 h2 h3=>?_⟩,fun y c h=>⟨_,x.cell y c h⟩,e0.hok.fresh (Nat.le_refl _),fun y c h=>?_,fun p hp=>absurd (show p∈([]:List (Addr×Obj)) from hp) (by simp),e0.hok.kept hk,?_⟩
  · exact name_of_addr x.apart (PySem.mem_of_lookup h1) (PySem.mem_of_lookup h2)
  · have hy:scope.names.lookup y=some .cell∨scope.names.lookup y=some .free:=hy
    rcases hy with hy | hy
    · exact cell_has hy
    · exact absurd rfl (S.nofree _ (PySem.mem_of_lookup hy))
  · exact Nat.le_of_lt (x.above y c (PySem.mem_of_lookup h))
  · have hi:i<vs.length:=by
      unfold start at h2
      by_cases hi:i<vs.length
      · exact hi
      · rw [List.getElem?_append_right (by simpa using hi)] at h2
        rw [List.getElem?_replicate] at h2
        split at h2 <;> cases h2
    have ha:vs[i]?=some v:=by
      unfold start at h2
      rw [List.getElem?_append_left (by simpa using hi),List.getElem?_map] at h2
      cases e:vs[i]? with
      | none=>rw [e] at h2; cases h2
      | some a=>rw [e] at h2; cases h2; rfl
    obtain ⟨u,hu,rv⟩:=r.get ha
    have hp:ps[i]?=some y:=by
      rw [←S.pre,List.getElem?_take_of_lt (by omega)]; exact h1
    have ndP:ps.Nodup:=by rw [←S.pre]; exact S.nd.sublist (List.take_sublist _ _)
    refine ⟨u,rv,?_⟩
    rcases S.par y (List.mem_of_getElem? hp) with k | k
    · exact .inl ⟨k,bindL_get ndP hp hu k⟩
    · obtain ⟨c,e⟩:=cell_has (n:=s.heap.objs.size+1) k
      refine .inr ⟨.inl k,c,e,?_⟩
      have q:=x.cell y c e
      rw [bindC_get ndP hp hu (by show scope.names.lookup y≠_; rw [k]; decide)] at q
      exact q
  · exact e0.hok.fresh (Nat.le_of_lt (x.above y c (PySem.mem_of_lookup h)))
  · unfold start
    show _=N.length
    rw [List.length_append,List.length_map,List.length_replicate]
    omega
theorem fn_of {CX:CXT}{P:Program}{w:World}{K:PySem.W.Frag}{mg:Str→Option Value}{base:Heap}{k:Nat}{f:Addr}{name qual:Str}{params:Arguments}{body:List Stmt}{scope:Scope}{dV kV doc pm cdv ct oc:Value}{an od:Option Addr}
    {osl:Array (Option Value)} {N ps:List Str} {sp:Sp} (lk:K.lookup f=some ⟨oc,od,.func (PySem.W.fnOf name qual params body scope dV kV doc pm an cdv ct),osl⟩) (hcd:PySem.W.codeIn K cdv qual=true) (S:FnScope N ps scope)
    (len:∀ vs H Q E,sp vs H Q E→vs.length=ps.length)
    (hbody:∀ (A:Around) (outer:List Env) (s:Shared) (H:Hp) (vs:List V) (Q:VK) (E:XK),Room k (A.deeper (envOfC qual scope s.heap.objs.size f cdv))→sp vs H Q E→
      ∃ t,PSs (cxOf CX P w K mg base N qual scope f cdv A outer s H E) body t∧t { nx:=fun _ H'=>Q .non H',rt:=Q } (start N vs) H) :
    FnOk P w K mg base CX (k+1) f (PySem.W.fnOf name qual params body scope dV kV doc pm an cdv ct) ps sp:=by
  refine ⟨len,fun A outer s H args us vs Q E hr e0 hb r hsp=>?_⟩
  have hl:=len _ _ _ _ hsp
  have KX:K.In s.heap:=e0.mod.kin.keeps fun b o e=>(e0.bs b o e).1
  have lim:s.heap.NoLimit:=e0.mod.nolimit.keeps fun b o e=>(e0.bs b o e).1
  have hkind:∀ y∈ps.zip us,scope.names.lookup y.1=some .local∨(scope.names.lookup y.1=some .cell∧((cellsFrom (s.heap.objs.size+1) scope.names []).lookup y.1).isSome=true):=fun ⟨n,v⟩ hy=>by
    rcases S.par n (List.of_mem_zip hy).1 with q | q
    · exact .inl q
    · exact .inr ⟨q,PySem.W.cellsFrom_some _ _ _ (.inl q)⟩
  refine codeAny_call_function hr.depth (KX _ _ lk) rfl S.co S.gen rfl (PySem.W.codeRec_of KX hcd) (hb _ _ _ _ ?_)
  refine wpAny_newFunctionEnv_cells S.kind hkind fun env he s1 x=>?_
  subst he
  refine ⟨lim.keeps x.toInCall.keep,codeAny_func ?_⟩
  obtain ⟨t,ht,hq⟩:=hbody A outer s H vs Q E (hr.deeper _) hsp
  have I:Inv (cxOf CX P w K mg base N qual scope f cdv A outer s H E) [] (start N vs) H s1:=inv_start S hr.hd e0 hl r x
  refine wpAny_mono (ht [] s1 (start N vs) H _ I hq) (fun fl s' hs=>?_) fun e s' hs=>hs
  have fin:∀ {σ':St} {H':Hp} {v:V} {u:Value},Inv (cxOf CX P w K mg base N qual scope f cdv A outer s H E) [] σ' H' s'→RelV v u→Q v H'→CE outer P w H s Q u s':=
    fun {σ' H' v u} J rv q=>⟨v,H',J.os,J.bare,J.base,J.hok,rv,q⟩
  cases fl with
  | ret u=>
    obtain ⟨v,σ',H',J,rv,q⟩:=hs
    exact fin J rv q
  | next=>
    obtain ⟨σ',H',J,q⟩:=hs
    exact fin (v:=V.non) (u:=Value.none) J rfl q
  | brk=>
    obtain ⟨_,_,_,q⟩:=hs
    exact False.elim q
  | cont=>
    obtain ⟨_,_,_,q⟩:=hs
    exact False.elim q
end L2
namespace L2
open PySem PySem.Spec PyProof.Rows
section
variable {X:Cx}{x:Str}{p pos:Pos}{e:Expr}{es:List Expr}{t:TA}{id T:String}{r:List V→Hp→VK→Prop}
def tCB (r:List V→Hp→VK→Prop) (t:TA):TE:=fun σ H Q=>t σ H fun vs H1=>r vs H1 Q
theorem pe_callB (hc:CallR X (.builtin id) r) (hg:Gl X x) (hm:X.mg x=none) (hv:bootBuiltins x=some (.builtin id)) (ha:PA X (e::es) t) (hn:x ≠ "__name__" := by decide) (hdb:(x==("__debug__" : Str))=false:=by decide)
    (he:starEach (e::es) X.env=(false,eval e X.env)::starEach es X.env:=by rfl) (hpl:(backTo pos (starEach es X.env)).any (·.1)=false:=by rfl):PE X (.Call (.Name x p) (e::es) [] pos) (tCB r t):=by
  intro pins s σ H Q I h
  refine wpAny_Call_Name_kw (ld_blt I hg hm hv ?_ hn hdb)
  exact PyProof.Rows.callWith_builtin1 (thn (ha pos pins s σ H _ I h) fun us s1 ⟨vs,H1,I1,r1,q1⟩=>hc pins s1 σ H1 vs us Q I1 r1 q1) he hpl
theorem pe_callTy (hc:CallR X (.type T) r) (hg:Gl X x) (hm:X.mg x=none) (hv:bootBuiltins x=some (.type T)) (ha:PA X (e::es) t) (hn:x ≠ "__name__" := by decide) (hdb:(x==("__debug__" : Str))=false:=by decide)
    (he:starEach (e::es) X.env=(false,eval e X.env)::starEach es X.env:=by rfl) (hpl:(backTo pos (starEach es X.env)).any (·.1)=false:=by rfl):PE X (.Call (.Name x p) (e::es) [] pos) (tCB r t):=by
  intro pins s σ H Q I h
  refine wpAny_Call_Name_kw (ld_blt I hg hm hv ?_ hn hdb)
  exact PyProof.Rows.callWith_type1 (thn (ha pos pins s σ H _ I h) fun us s1 ⟨vs,H1,I1,r1,q1⟩=>hc pins s1 σ H1 vs us Q I1 r1 q1) he hpl
end
end L2
namespace HT
open PySem PyProof.Rows
section
variable {prog:Program}{w:World}{A:Around}{E:Value→Shared→Prop}{s:Shared}
def sIx (n d:Nat):Option Int→Nat
  | none=>d
  | some v=>if v<0 then (v+(n:Int)).toNat else min v.toNat n
theorem sIx_none (n d:Nat):sIx n d none=d:=rfl
theorem sIx_nat (n d k:Nat):sIx n d (some (k:Int))=min k n:=by
  show (if (k:Int)<0 then ((k:Int)+(n:Int)).toNat else min (k:Int).toNat n)=min k n
  rw [if_neg (by omega),Int.toNat_natCast]
end
end HT
namespace L2
open PySem PySem.Spec PyProof.Rows
abbrev TO:=St→Hp→(Option Int→Hp→Prop)→Prop
def PO (X:Cx) (e:Option Expr) (t:TO):Prop:=
  ∀ (pins:List (Addr×Obj)) (s:Shared) (σ:St) (H:Hp) (Q:Option Int→Hp→Prop),Inv X pins σ H s→t σ H Q→
    wpAny (model X.prog X.w) X.A (evalPart e X.env) (fun u s'=>∃ o H',Inv X pins σ H' s'∧IsPart u o∧Q o H') X.xe s
def tNoPart:TO:=fun _ H Q=>Q none H
def tPart (t:TE):TO:=fun σ H Q=>t σ H fun x H1=>∃ i,x=.int i∧Q (some i) H1
section
variable {X:Cx}{e:Expr}{te:TE}{lo hi:Option Expr}{tl th:TO}{pos p2:Pos}
theorem po_none:PO X none tNoPart:=by
  intro pins s σ H Q I h
  rw [evalPart_none]
  exact wpAny_pure ⟨none,H,I,.none,h⟩
theorem po_some (h:PE X e te):PO X (some e) (tPart te):=by
  intro pins s σ H Q I hw
  rw [evalPart_some]
  refine thn (h pins s σ H _ I hw) fun u s1 ⟨x,H1,I1,r1,q1⟩=>?_
  obtain ⟨i,rfl,q⟩:=q1
  obtain ⟨t,rfl⟩:=r1
  exact ⟨some i,H1,I1,.int i t,q⟩
def SlR (X:Cx) (r:V→Option Int→Option Int→Hp→VK→Prop):Prop:=
  ∀ (pins:List (Addr×Obj)) (s:Shared) (σ:St) (H:Hp) (x:V) (v vl vu:Value) (lo hi:Option Int) (sl:Addr) (Q:VK),Inv X pins σ H s→RelV x v→s.heap.IsSliceOf sl vl vu .none→IsPart vl lo→IsPart vu hi→r x lo hi H Q→
    ∃ T id,typeLookup (.type T) "__getitem__" = pure (some (.builtin id))∧s.TypeIs v T∧wpAny (model X.prog X.w) X.A (getItem v (.ref sl)) (EP X pins σ Q) X.xe s
def tSl (r:V→Option Int→Option Int→Hp→VK→Prop) (te:TE) (tl th:TO):TE:=fun σ H Q=>te σ H fun x H1=>tl σ H1 fun l H2=>th σ H2 fun u H3=>r x l u H3 Q
theorem pe_slice {r:V→Option Int→Option Int→Hp→VK→Prop}(hr:SlR X r) (he:PE X e te) (hl:PO X lo tl) (hu:PO X hi th):PE X (.Subscript e (.Slice lo hi none p2) pos) (tSl r te tl th):=by
  intro pins s σ H Q I h
  refine Subscript_ (thn (he pins s σ H _ I h) fun v s1 ⟨x,H1,I1,r1,q1⟩=>?_)
  refine wpAny_Slice (thn (hl pins s1 σ H1 _ I1 q1) fun vl s2 ⟨l,H2,I2,pl,q2⟩=>thn (hu pins s2 σ H2 _ I2 q2) fun vu s3 ⟨u,H3,I3,pu,q3⟩=>?_)
  rw [evalPart_none]
  refine wpAny_pure ?_
  have I4:Inv X pins σ H3 { s3 with heap:=s3.heap.push { cls:=.type "slice",data:=.fields #[vl,vu,.none] } }:=I3.kept (t':=s3.toks) fun b ob q=>Heap.get?_push_of_some _ q
  obtain ⟨T,id,hT,ht,hg⟩:=hr pins { s3 with heap:=s3.heap.push { cls:=.type "slice",data:=.fields #[vl,vu,.none] } } σ H3 x v vl vu l u s3.heap.objs.size Q I4 r1 (Heap.IsSliceOf.new ..) pl pu q3
  show wpAny (model X.prog X.w) X.A (subscriptTail e (.Slice lo hi none p2) v (.ref s3.heap.objs.size)) (EP X pins σ Q) X.xe { s3 with heap:=s3.heap.push { cls:=.type "slice",data:=.fields #[vl,vu,.none] } }
  exact tail_any (ops:=[.ref s3.heap.objs.size,v]) ht hT hg (by with_unfolding_all rfl)
def cutV (xs:List V) (lo hi:Option Int):List V:=(xs.drop (HT.sIx xs.length 0 lo)).take (HT.sIx xs.length xs.length hi-HT.sIx xs.length 0 lo)
theorem cutV_length (xs:List V) (lo hi:Option Int):(cutV xs lo hi).length≤xs.length:=by
  unfold cutV
  rw [List.length_take,List.length_drop]
  omega
end
end L2
namespace L2
open PySem PySem.Spec PyProof.Rows
def ixN (n:Nat) (i:Int):Option Nat:=if 0≤i then (if i<n then some i.toNat else none) else if -(n:Int)≤i then some (i+n).toNat else none
def atI {α:Type}(xs:List α) (i:Int):Option α:=(ixN xs.length i).bind fun j=>xs[j]?
theorem ixN_seq {n:Nat}{i:Int}{j:Nat}(h:ixN n i=some j):seqIndex? i n=some j∧j<n∧-(n:Int)≤i∧i<n:=by
  unfold ixN at h
  by_cases h0:0≤i
  · rw [if_pos h0] at h
    by_cases h1:i<n
    · rw [if_pos h1] at h
      have e:i.toNat=j:=Option.some.inj h
      exact ⟨by rw [seqIndex_of h0 h1,e],by omega,by omega,h1⟩
    · rw [if_neg h1] at h; cases h
  · rw [if_neg h0] at h
    by_cases h1:-(n:Int)≤i
    · rw [if_pos h1] at h
      have e:(i+n).toNat=j:=Option.some.inj h
      exact ⟨by rw [seqIndex_neg (by omega) h1,e],by omega,h1,by omega⟩
    · rw [if_neg h1] at h; cases h
theorem atI_get {α:Type}{xs:List α}{i:Int}{v:α}(h:atI xs i=some v):∃ j,seqIndex? i xs.length=some j∧xs[j]?=some v∧j<xs.length∧-(xs.length:Int)≤i∧i<xs.length:=by
  unfold atI at h
  cases e:ixN xs.length i with
  | none=>rw [e] at h; cases h
  | some j=>
    rw [e] at h
    obtain ⟨h1,h2,h3,h4⟩:=ixN_seq e
    exact ⟨j,h1,h,h2,h3,h4⟩
theorem atI_nat {α:Type}{xs:List α}{j:Nat}{v:α}(h:xs[j]?=some v):atI xs (j:Int)=some v:=by
  have hj:j<xs.length:=(List.getElem?_eq_some_iff.mp h).1
  have e:ixN xs.length (j:Int)=some j:=by
    unfold ixN
    rw [if_pos (by omega),if_pos (by omega)]; simp
  unfold atI; rw [e]; exact h
theorem atI_last {α:Type}(xs:List α) (v:α):atI (xs++[v]) (-1)=some v:=by
  have hl:(xs++[v]).length=xs.length+1:=by simp
  have e:ixN (xs++[v]).length (-1)=some xs.length:=by
    unfold ixN
    rw [hl,if_neg (by decide),if_pos (by omega)]
    congr 1
    omega
  unfold atI
  rw [e]
  show (xs++[v])[xs.length]?=some v
  simp
def PlainIx (b:Expr):Prop:=∀ o i,subscripted b false o i=operate [o,i] (getItem o i)
def IxR (X:Cx) (r:R2):Prop:=
  ∀ (value slice:Expr) (pins:List (Addr×Obj)) (s:Shared) (σ:St) (H:Hp) (x y:V) (v u:Value) (Q:VK),Inv X pins σ H s→RelV x v→RelV y u→r x y H Q→
    subscripted slice false v u=operate [v,u] (getItem v u)→wpAny (model X.prog X.w) X.A (subscriptTail value slice v u) (EP X pins σ Q) X.xe s
def MtR (X:Cx) (id:String) (r:V→List V→Hp→VK→Prop):Prop:=
  ∀ (pins:List (Addr×Obj)) (s:Shared) (σ:St) (H:Hp) (x:V) (xs:List V) (v:Value) (us:List Value) (Q:VK),Inv X pins σ H s→RelV x v→Vals xs us→r x xs H Q→
    wpAny (model X.prog X.w) X.A (call (.builtin id) (v::us)) (EP X pins σ Q) X.xe s
section
variable {X:Cx}{a b:Expr}{ta tb:TE}{pos:Pos}
theorem pe_ix {r:R2}(hr:IxR X r) (ha:PE X a ta) (hb:PE X b tb) (hs:PlainIx b):PE X (.Subscript a b pos) (tOp r ta tb):=by
  intro pins s σ H Q I h
  exact Subscript_ (binT ha hb I h fun v u s2 x y H2 I2 rx ry q=>hr a b pins s2 σ H2 x y v u Q I2 rx ry q (hs _ _))
def rIxL (K:PySem.W.Frag):R2:=fun x y H Q=>∃ p xs i v,x=.ref p∧y=.int i∧SqL K H p xs∧atI xs i=some v∧Q v H
def rIxT (K:PySem.W.Frag):R2:=fun x y H Q=>∃ p xs i v,x=.ref p∧y=.int i∧SqT K H p xs∧atI xs i=some v∧Q v H
theorem ix_list:IxR X (rIxL X.K):=by
  intro value slice pins s σ H x y v u Q I rx ry h hs
  obtain ⟨p,xs,i,z,rfl,rfl,hq,he,q⟩:=h
  cases rx
  obtain ⟨t,rfl⟩:=ry
  obtain ⟨its,r,pl,hz⟩:=I.list hq
  obtain ⟨j,h1,h2,h3,h4,h5⟩:=atI_get he
  obtain ⟨w,ew,rw'⟩:=r.get h2
  have hl:=r.length
  have hn:=line63
  have fin:EP X pins σ Q w s:=⟨z,H,I,rw',q⟩
  by_cases h0:0≤i
  · have hj:i.toNat=j:=by
      rw [seqIndex_of h0 h5] at h1
      exact Option.some.inj h1
    exact item_listR pl.isList h0 (by omega) (by rw [hj]; simpa using ew) fin hs
  · have hj:(i+(its.toArray.size:Int)).toNat=j:=by
      rw [seqIndex_neg (by omega) h4] at h1
      rw [List.size_toArray,←hl]
      exact Option.some.inj h1
    exact subscriptTail_builtinR (x:=w) pl.isList.typeIs slot_list_getitem.lookup
      (wpAny_getItem_list_neg (Q:=fun r s'=>r=w∧EP X pins σ Q r s') pl.isList (by omega) (by rw [List.size_toArray] <;> omega) (by omega) (by rw [hj]; simpa using ew) ⟨rfl,fin⟩) hs
theorem ix_tup:IxR X (rIxT X.K):=by
  intro value slice pins s σ H x y v u Q I rx ry h hs
  obtain ⟨p,xs,i,z,rfl,rfl,hq,he,q⟩:=h
  cases rx
  obtain ⟨t,rfl⟩:=ry
  obtain ⟨its,r,pl,hz⟩:=I.tuple hq
  obtain ⟨j,h1,h2,h3,h4,h5⟩:=atI_get he
  obtain ⟨w,ew,rw'⟩:=r.get h2
  have hl:=r.length
  have hn:=line63
  have fin:EP X pins σ Q w s:=⟨z,H,I,rw',q⟩
  exact subscriptTail_builtinR (x:=w) pl.typeIs slot_tuple_getitem.lookup
    (getItem_tuple (j:=j) (Q:=fun r s'=>r=w∧EP X pins σ Q r s') pl (by omega) (by omega) (by rw [List.size_toArray,←hl]; exact h1) (by simpa using ew) ⟨rfl,fin⟩) hs
theorem mapSeq_set (its:List Value) (n j:Nat) (u:Value):Obj.mapSeq (·.setIfInBounds j u) { cls:=.type "list",data:=.seq its.toArray n }={ cls:=.type "list",data:=.seq (its.set j u).toArray n }:=by
  simp [Obj.mapSeq]
theorem Inv.lst {pins:List (Addr×Obj)}{σ:St}{H:Hp}{s:Shared}{p:Addr}{xs:List V}(I:Inv X pins σ H s) (h:H p=some (.lst xs)) :
    ∃ (its:List Value) (n:Nat),Vals xs its∧s.heap.get? p=some { cls:=.type "list",data:=.seq its.toArray n }∧xs.length≤sizeLine:=by
  obtain ⟨z,its,n,r,e⟩:=I.hok p _ h
  exact ⟨its,n,r,e,z⟩
theorem Inv.lstUpd {pins:List (Addr×Obj)}{σ:St}{H:Hp}{s:Shared}{p:Addr}{xs ys:List V}{its its':List Value}{n n':Nat}{f:Obj→Obj}(I:Inv X pins σ H s) (h:H p=some (.lst xs))
    (ho:s.heap.get? p=some { cls:=.type "list",data:=.seq its.toArray n }) (hf:f { cls:=.type "list",data:=.seq its.toArray n }={ cls:=.type "list",data:=.seq its'.toArray n' }) (r:Vals ys its') (hz:ys.length≤sizeLine) (t:Nat) :
    Inv X pins σ (upd H p (.lst ys)) { s with heap:=s.heap.update p f,toks:=t }:=by
  have e:(s.heap.update p f).get? p=some { cls:=.type "list",data:=.seq its'.toArray n' }:=by
    rw [Heap.get?_update_self f ho (by rw [hf] <;> rfl),hf]
  refine I.write (x:=p) (e:=p) (by rw [h]; trivial) (.inl rfl) (fun b u hb q=>(Heap.get?_update_other _ _ (Ne.symm hb)).trans q) ⟨_,e⟩ ?_
  exact ⟨hz,its',n',r,e⟩
def rSetL:V→V→V→Hp→(Hp→Prop)→Prop:=fun o i v H Q=>∃ p xs k j,o=.ref p∧i=.int k∧H p=some (.lst xs)∧ixN xs.length k=some j∧Q (upd H p (.lst (xs.set j v)))
theorem set_list:PSet X rSetL:=by
  intro pins s σ H o i v ov iv u Q I ro ri rv h
  obtain ⟨p,xs,k,j,rfl,rfl,hp,hj,q⟩:=h
  cases ro
  obtain ⟨t,rfl⟩:=ri
  obtain ⟨its,n,r,ho,hz⟩:=I.lst hp
  obtain ⟨h1,h2,h3,h4⟩:=ixN_seq hj
  have hl:=r.length
  have hn:=line63
  have I':Inv X pins σ (upd H p (.lst (xs.set j v))) { s with heap:=s.heap.update p (Obj.mapSeq (·.setIfInBounds j u)) }:=
    I.lstUpd hp ho (mapSeq_set its n j u) (r.set rv j) (by rw [List.length_set]; exact hz) s.toks
  by_cases h0:0≤k
  · have hk:k.toNat=j:=by
      rw [seqIndex_of h0 h4] at h1
      exact Option.some.inj h1
    exact PySem.W.ki_setAt ho h0 (by omega) (by rw [List.size_toArray,←hl]; exact h4) (by rw [hk]; exact ⟨_,I',q⟩)
  · have hk:(k+(its.toArray.size:Int)).toNat=j:=by
      rw [seqIndex_neg (by omega) h3] at h1
      rw [List.size_toArray,←hl]
      exact Option.some.inj h1
    exact PySem.W.ki_setBack ho (by omega) (by rw [List.size_toArray,←hl]; exact h3) (by omega) (by rw [hk]; exact ⟨_,I',q⟩)
theorem slice_bounds (lo hi:Option Int) (n:Nat):(sliceBounds lo hi none n).1=((HT.sIx n 0 lo:Nat):Int)∧(sliceBounds lo hi none n).2.1=((HT.sIx n n hi:Nat):Int)∧(sliceBounds lo hi none n).2.2=1:=by
  refine ⟨?_,?_,rfl⟩
  · cases lo with
    | none=>simp [sliceBounds,HT.sIx]
    | some i=>
      simp only [sliceBounds,HT.sIx,Option.getD_none,show (1:Int) > 0 by decide,if_true]
      by_cases h:i<0
      · simp only [h,if_true] <;> omega
      · simp only [h,if_false] <;> omega
  · cases hi with
    | none=>simp [sliceBounds,HT.sIx]
    | some i=>
      simp only [sliceBounds,HT.sIx,Option.getD_none,show (1:Int) > 0 by decide,if_true]
      by_cases h:i<0
      · simp only [h,if_true] <;> omega
      · simp only [h,if_false] <;> omega
theorem slicePick_cut (its:List Value) (lo hi:Option Int):slicePick its.toArray lo hi none=((its.drop (HT.sIx its.length 0 lo)).take (HT.sIx its.length its.length hi-HT.sIx its.length 0 lo)).toArray:=by
  obtain ⟨h1,h2,h3⟩:=slice_bounds lo hi its.toArray.size
  unfold slicePick
  rw [h1,h2,h3]
  simp only [sliceRange_one,pick_run,List.size_toArray] <;> rfl
def rSlL (K:PySem.W.Frag):V→Option Int→Option Int→Hp→VK→Prop:=fun x lo hi H Q=>∃ a xs,x=.ref a∧SqL K H a xs∧∀ p,H p=none→Q (.ref p) (upd H p (.lst (cutV xs lo hi)))
theorem sl_list:SlR X (rSlL X.K):=by
  intro pins s σ H x v vl vu lo hi sl Q I rx hs pl pu h
  obtain ⟨a,xs,rfl,hx,q⟩:=h
  cases rx
  obtain ⟨its,r,ht,hz⟩:=I.list hx
  have hlen:=r.length
  refine ⟨"list",_,slot_list_getitem.lookup,ht.isList.typeIs,?_⟩
  refine wpAny_getItem_list_slice ht.isList hs pl pu .none (by simp) ?_ (by rw [List.size_toArray] <;> omega)
  rw [slicePick_cut,←hlen]
  refine ⟨.ref s.heap.objs.size,_,I.laid (t':=s.toks) (o:=.lst (cutV xs lo hi)) (fun b ob q=>Heap.get?_push_of_some _ q) (Nat.le_refl _) ?_,rfl,q _ (I.hok.fresh (Nat.le_refl _))⟩
  exact ⟨Nat.le_trans (cutV_length xs lo hi) hz,_,0,(r.drop (HT.sIx xs.length 0 lo)).take (HT.sIx xs.length xs.length hi-HT.sIx xs.length 0 lo),Heap.get?_push_size _ rfl⟩
def flatV:V→Bool
  | .non=>true
  | .bl _=>true
  | .int _=>true
  | .str _=>true
  | _=>false
def eqV:V→V→Bool
  | .non,.non=>true
  | .bl a,.bl b=>a==b
  | .bl a,.int b=>(if a then 1 else 0)==b
  | .int a,.bl b=>a==(if b then 1 else 0)
  | .int a,.int b=>a==b
  | .str a,.str b=>a==b
  | _,_=>false
theorem eqAt_V {A:Around}{s:Shared}{y x:V}{u v:Value}(ry:RelV y u) (rx:RelV x v) (fy:flatV y=true) (fx:flatV x=true):SeqAt.EqAt A s u v (eqV y x):=by
  cases y with
  | non=>
    cases ry
    cases x with
    | non=>cases rx; exact SeqAt.EqAt.same _
    | bl b=>cases rx; exact SeqAt.EqAt.none_bool b
    | int b=>obtain ⟨t,rfl⟩:=rx; exact SeqAt.EqAt.none_int b t
    | str b=>obtain ⟨t,rfl⟩:=rx; exact SeqAt.EqAt.none_str b t
    | _=>exact absurd (show false=true from fx) Bool.false_ne_true
  | bl a=>
    cases ry
    cases x with
    | non=>cases rx; exact SeqAt.EqAt.bool_none a
    | bl b=>cases rx; exact SeqAt.EqAt.bool_bool a b
    | int b=>obtain ⟨t,rfl⟩:=rx; exact SeqAt.EqAt.bool_int a b t
    | str b=>obtain ⟨t,rfl⟩:=rx; exact SeqAt.EqAt.bool_str a b t
    | _=>exact absurd (show false=true from fx) Bool.false_ne_true
  | int a=>
    obtain ⟨t',rfl⟩:=ry
    cases x with
    | non=>cases rx; exact SeqAt.EqAt.int_none a t'
    | bl b=>cases rx; exact SeqAt.EqAt.int_bool a t' b
    | int b=>obtain ⟨t,rfl⟩:=rx; exact SeqAt.EqAt.int_int a t' b t
    | str b=>obtain ⟨t,rfl⟩:=rx; exact SeqAt.EqAt.int_str a t' b t
    | _=>exact absurd (show false=true from fx) Bool.false_ne_true
  | str a=>
    obtain ⟨t',rfl⟩:=ry
    cases x with
    | non=>cases rx; exact SeqAt.EqAt.str_none a t'
    | bl b=>cases rx; exact SeqAt.EqAt.str_bool a t' b
    | int b=>obtain ⟨t,rfl⟩:=rx; exact SeqAt.EqAt.str_int a t' b t
    | str b=>obtain ⟨t,rfl⟩:=rx; exact SeqAt.EqAt.str_str a t' b t
    | _=>exact absurd (show false=true from fx) Bool.false_ne_true
  | _=>exact absurd (show false=true from fy) Bool.false_ne_true
def eqU (x:V) (u:Value):Bool:=match u with
  | .none=>eqV .non x
  | .bool b=>eqV (.bl b) x
  | .int i _=>eqV (.int i) x
  | .str z _=>eqV (.str z) x
  | _=>false
theorem eqU_of {x y:V}{u:Value}(r:RelV y u) (f:flatV y=true):eqU x u=eqV y x:=by
  cases y with
  | non=>cases r; rfl
  | bl b=>cases r; rfl
  | int i=>obtain ⟨t,rfl⟩:=r; rfl
  | str z=>obtain ⟨t,rfl⟩:=r; rfl
  | _=>exact absurd (show false=true from f) Bool.false_ne_true
theorem any_eqU {x:V}:∀ {xs:List V}{us:List Value},Vals xs us→xs.all flatV=true→us.any (eqU x)=xs.any fun y=>eqV y x
  | _,_,.nil,_=>rfl
  | y::xs,u::us,.cons r t,f=>by
    rw [List.all_cons,Bool.and_eq_true] at f
    rw [List.any_cons,List.any_cons,eqU_of r f.1,any_eqU t f.2]
theorem mem_eqAt {A:Around}{s:Shared}{x:V}{v:Value}(rx:RelV x v) (fx:flatV x=true):∀ {xs:List V}{us:List Value},Vals xs us→xs.all flatV=true→∀ u∈us,SeqAt.EqAt A s u v (eqU x u)
  | _,_,.nil,_=>fun u hu=>by cases hu
  | y::xs,u::us,.cons r t,f=>fun u' hu=>by
    rw [List.all_cons,Bool.and_eq_true] at f
    rcases List.mem_cons.mp hu with rfl | hu
    · rw [eqU_of r f.1]; exact eqAt_V r rx f.1 fx
    · exact mem_eqAt rx fx t f.2 u' hu
def inV (x:V) (xs:List V):Bool:=xs.any fun y=>eqV y x
def rIn (K:PySem.W.Frag) (neg:Bool):R2:=fun x y H Q=>∃ p xs,y=.ref p∧(SqL K H p xs∨SqT K H p xs)∧flatV x=true∧xs.all flatV=true∧Q (.bl (if neg then !inV x xs else inV x xs)) H
theorem op_in_seq:OpR X (compareOp .In) (rIn X.K false):=by
  intro pins s σ H x y v u Q I rx ry h
  obtain ⟨p,xs,rfl,hq,fx,fs,q⟩:=h
  cases ry
  rcases hq with hq | hq
  · obtain ⟨its,r,pl,hz⟩:=I.list hq
    refine SeqAt.in_listAt (eqU x) pl.isList (fun w hw=>mem_eqAt rx fx r fs w (by simpa using hw)) ⟨.bl _,H,I,rfl,?_⟩
    rw [show its.toArray.any (eqU x)=its.any (eqU x) by simp,any_eqU r fs]
    exact q
  · obtain ⟨its,r,pl,hz⟩:=I.tuple hq
    refine SeqAt.in_tupleAt (eqU x) pl (fun w hw=>mem_eqAt rx fx r fs w (by simpa using hw)) ⟨.bl _,H,I,rfl,?_⟩
    rw [show its.toArray.any (eqU x)=its.any (eqU x) by simp,any_eqU r fs]
    exact q
theorem call_len_seq:CallR X (.builtin "len") (fun xs H Q=>∃ p ys,xs=[.ref p]∧(SqL X.K H p ys∨SqT X.K H p ys)∧Q (.int ys.length) H):=by
  intro pins s σ H xs us Q I r h
  obtain ⟨p,ys,rfl,hq,q⟩:=h
  obtain ⟨u,rfl,rx⟩:=vals1 r
  cases rx
  have hn:=line63
  rcases hq with hq | hq
  · obtain ⟨its,r',pl,hz⟩:=I.list hq
    have hlen:=r'.length
    exact Calls.call_len_list pl.isList (by simp only [List.size_toArray] <;> omega) ⟨.int ys.length,H,I.tok _,⟨s.toks+1,by rw [List.size_toArray,hlen]⟩,q⟩
  · obtain ⟨its,r',pl,hz⟩:=I.tuple hq
    have hlen:=r'.length
    exact len_tuple pl (by simp only [List.size_toArray] <;> omega) ⟨.int ys.length,H,I.tok _,⟨s.toks+1,by rw [List.size_toArray,hlen]⟩,q⟩
theorem call_len_str:CallR X (.builtin "len") (fun xs H Q=>∃ z,xs=[.str z]∧z.length≤sizeLine∧Q (.int z.length) H):=by
  intro pins s σ H xs us Q I r h
  obtain ⟨z,rfl,hz,q⟩:=h
  obtain ⟨u,rfl,t,rfl⟩:=vals1 r
  have hn:=line63
  exact len_str (by omega) ⟨.int z.length,H,I.tok _,⟨_,rfl⟩,q⟩
def tyV (K:PySem.W.Frag) (T:String) (x:V) (H:Hp):Prop:=match x with
  | .str _=>T = "str"
  | .int _=>T = "int"
  | .ref p=>(T = "list" ∧ ∃ xs,SqL K H p xs)∨(T = "tuple" ∧ ∃ o,K.lookup p=some o∧o.cls=.type "tuple" ∧ o.dict=none)∨
      (T = "dict" ∧ ((∃ kvs,H p=some (.dK kvs))∨∃ kvs,H p=some (.dT kvs)))∨(T = "set" ∧ ∃ S n,H p=some (.set S n))
  | _=>False
theorem tyV_is {pins:List (Addr×Obj)}{σ:St}{H:Hp}{s:Shared}{T:String}{x:V}{v:Value}(I:Inv X pins σ H s) (r:RelV x v) (ty:tyV X.K T x H) :
    s.TypeIs v T∧∀ a,v=.ref a→∃ ob,s.heap.get? a=some ob∧ob.dict=none:=by
  cases x with
  | str z=>
    obtain ⟨t,rfl⟩:=r
    cases (show T = "str" from ty)
    exact ⟨typeIs_str s z t,fun _ e=>nomatch e⟩
  | int i=>
    obtain ⟨t,rfl⟩:=r
    cases (show T = "int" from ty)
    exact ⟨typeIs_int s i t,fun _ e=>nomatch e⟩
  | ref p=>
    cases r
    rcases ty with ⟨rfl,xs,hq⟩ | ⟨rfl,o,hk,hc,hd⟩ | ⟨rfl,hk⟩ | ⟨rfl,S,n,hk⟩
    · obtain ⟨its,_,pl,_⟩:=I.list hq
      refine ⟨pl.isList.typeIs,fun a e=>?_⟩
      cases e
      obtain ⟨o,n,e,c,hd,_⟩:=pl
      exact ⟨o,e,hd⟩
    · refine ⟨⟨o,I.kIn p o hk,hc⟩,fun a e=>?_⟩
      cases e
      exact ⟨o,I.kIn _ o hk,hd⟩
    · have z:∃ o,s.heap.get? p=some o∧o.ExactDict:=by
        rcases hk with ⟨kvs,hk⟩ | ⟨kvs,hk⟩
        · obtain ⟨_,_,_,_,o,_,_,e,ex,_⟩:=I.hok p _ hk
          exact ⟨o,e,ex⟩
        · obtain ⟨_,_,_,_,o,_,_,e,ex,_⟩:=I.hok p _ hk
          exact ⟨o,e,ex⟩
      obtain ⟨o,e,ex⟩:=z
      refine ⟨⟨o,e,ex.1⟩,fun a e2=>?_⟩
      cases e2
      exact ⟨o,e,ex.2.1⟩
    · obtain ⟨o,_,_,_,e,ex,_⟩:=I.hok p _ hk
      refine ⟨⟨o,e,ex.1⟩,fun a e2=>?_⟩
      cases e2
      exact ⟨o,e,ex.2.1⟩
  | _=>exact False.elim ty
def tBM0 (K:PySem.W.Frag) (T:String) (r:V→List V→Hp→VK→Prop) (to:TE):TE:=fun σ H Q=>to σ H fun x H1=>tyV K T x H1∧r x [] H1 Q
def tBM (K:PySem.W.Frag) (T:String) (r:V→List V→Hp→VK→Prop) (to:TE) (t:TA):TE:=fun σ H Q=>to σ H fun x H1=>tyV K T x H1∧t σ H1 fun xs H2=>r x xs H2 Q
variable {o e:Expr}{es:List Expr}{to:TE}{t:TA}{name:Str}{apos cpos:Pos}{T id:String}{r:V→List V→Hp→VK→Prop}
theorem pe_bm0 (pa:PlainAttrs T) (slot:Slot T name id) (hty:typeOf (.builtin id)=pure (.type "method_descriptor")) (hm:MtR X id r) (ho:PE X o to)
    (hbase:attributeBase o name X.env (eval o X.env)=eval o X.env:=by rfl) (hline:(apos.endLine==cpos.line)=true:=by rfl):PE X (.Call (.Attribute o name apos) [] [] cpos) (tBM0 X.K T r to):=by
  intro pins s σ H Q I h
  refine wpAny_Call_method0_late hbase hline (thn (ho pins s σ H _ I h) fun v s1 ⟨x,H1,I1,r1,ty,q1⟩=>?_)
  obtain ⟨h1,h2⟩:=tyV_is I1 r1 ty
  exact ⟨T,id,pa,slot,hty,h1,h2,Calls.callWith_builtin rfl (PySem.evalArgs_none (hm pins s1 σ H1 x [] v [] Q I1 r1 .nil q1))⟩
theorem pe_bm (pa:PlainAttrs T) (slot:Slot T name id) (hty:typeOf (.builtin id)=pure (.type "method_descriptor")) (hm:MtR X id r) (ho:PE X o to) (ha:PA X (e::es) t)
    (hbase:attributeBase o name X.env (eval o X.env)=eval o X.env:=by rfl)
    (hfew:((backTo cpos (starEach (e::es) X.env)).all (fun x=>!x.1)&&(backToKw cpos (keywordEach [] X.env)).all (fun x=>x.1.isSome)
      && decide ((e::es).length+([]:List Keyword).length+(if ([]:List Keyword).isEmpty then 0 else 1)<30))=true:=by rfl)
    (hline:(apos.endLine==cpos.line)=true:=by rfl) (hs:starEach (e::es) X.env=(false,eval e X.env)::starEach es X.env:=by rfl) (hplain:(backTo cpos (starEach es X.env)).any (·.1)=false:=by rfl) :
    PE X (.Call (.Attribute o name apos) (e::es) [] cpos) (tBM X.K T r to t):=by
  intro pins s σ H Q I h
  refine wpAny_Call_method_late hbase hfew hline rfl (thn (ho pins s σ H _ I h) fun v s1 ⟨x,H1,I1,r1,ty,q1⟩=>?_)
  obtain ⟨h1,h2⟩:=tyV_is I1 r1 ty
  refine ⟨T,id,pa,slot,hty,h1,h2,?_⟩
  have hA:=ha cpos pins s1 σ H1 _ I1 q1
  rw [hs] at hA ⊢
  refine Calls.callWith_builtin (by show (false || (backTo cpos (starEach es X.env)).any (·.1))=false; rw [hplain] <;> rfl) (Calls.evalArgs_plain ?_)
  exact thn hA fun us s2 ⟨vs,H2,I2,r2,q2⟩=>hm pins s2 σ H2 x vs v us Q I2 r1 r2 q2
end
end L2
namespace L2
open PySem PySem.Spec PyProof.Rows
def MtM (X:Cx) (id:String) (r:V→List V→Hp→VK→Prop):Prop:=
  ∀ (pins:List (Addr×Obj)) (s:Shared) (σ:St) (H:Hp) (x:V) (xs:List V) (v:Value) (us:List Value) (Q:VK),Inv X pins σ H s→RelV x v→Vals xs us→r x xs H Q→
    wpAny (model X.prog X.w) X.A (call (.builtin id) (v::us)) (EP X pins σ Q) X.xe s
theorem Vals.one:∀ {x:V}{us:List Value},Vals [x] us→∃ u,us=[u]∧RelV x u
  | _,_,.cons r .nil=>⟨_,rfl,r⟩
theorem Vals.zero:∀ {us:List Value},Vals [] us→us=[]
  | _,.nil=>rfl
theorem Vals.rep {xs:List V}{us:List Value}(h:Vals xs us):∀ k:Nat,Vals (List.replicate k xs).flatten (List.replicate k us).flatten
  | 0=>.nil
  | k+1=>by
    rw [List.replicate_succ,List.replicate_succ,List.flatten_cons,List.flatten_cons]
    exact Vals.append h (Vals.rep h k)
theorem foldl_rep (its:List Value):∀ (k:Nat) (acc:List Value),
    List.foldl (fun x1 x2=>x1++x2) acc.toArray (List.replicate k its.toArray)=(acc++(List.replicate k its).flatten).toArray
  | 0,acc=>by simp
  | k+1,acc=>by
    have e:acc.toArray++its.toArray=(acc++its).toArray:=by simp
    have e2:(acc++its)++(List.replicate k its).flatten=acc++(List.replicate (k+1) its).flatten:=by
      rw [List.replicate_succ,List.flatten_cons,List.append_assoc]
    rw [←e2,←foldl_rep its k (acc++its),←e,List.replicate_succ,List.foldl_cons]
section
variable {X:Cx}{pins:List (Addr×Obj)}{σ:St}{H:Hp}{s:Shared}{l b:Addr}{xs ys zs:List V}
theorem Inv.lset {its its':List Value}{n:Nat}{f:Array Value→Array Value}{t':Nat}(I:Inv X pins σ H s) (hH:H l=some (.lst xs))
    (e:s.heap.get? l=some { cls:=.type "list",data:=.seq its.toArray n }) (hf:f its.toArray=its'.toArray) (hv:Vals ys its') (hz:ys.length≤sizeLine) :
    Inv X pins σ (upd H l (.lst ys)) { s with heap:=s.heap.update l (Obj.mapSeq f),toks:=t' }:=by
  have q:=PySem.IsL.update e f
  rw [hf] at q
  refine I.write (x:=l) (e:=l) (by rw [hH]; exact trivial) (.inl rfl) (fun b' u hb hu=>(Heap.get?_update_other s.heap (Obj.mapSeq f) (Ne.symm hb)).trans hu) ⟨_,q⟩ ?_
  exact ⟨hz,its',_,hv,q⟩
theorem Inv.lnew {its:List Value}{t':Nat}(I:Inv X pins σ H s) (hv:Vals ys its) (hz:ys.length≤sizeLine) :
    Inv X pins σ (upd H s.heap.objs.size (.lst ys)) { s with heap:=s.heap.push { cls:=.type "list",data:=.seq its.toArray },toks:=t' }:=
  I.laid (fun _ _ q=>Heap.get?_push_of_some _ q) (Nat.le_refl _) ⟨hz,its,0,hv,Heap.get?_push_size _ rfl⟩
theorem Inv.fresh (I:Inv X pins σ H s):H s.heap.objs.size=none:=I.hok.fresh (Nat.le_refl _)
theorem Inv.lstM (I:Inv X pins σ H s) (hH:H l=some (.lst xs)):xs.length≤sizeLine∧∃ (its:List Value) (n:Nat),Vals xs its∧xs.length=its.length∧s.heap.get? l=some { cls:=.type "list",data:=.seq its.toArray n }:=by
  obtain ⟨z,its,n,r,e⟩:=I.hok l _ hH
  exact ⟨z,its,n,r,r.length,e⟩
theorem notLongL {n:Nat}(h:n≤sizeLine):Builtin.List.listTooLong n=false:=by
  unfold Builtin.List.listTooLong
  exact decide_eq_false (by omega)
end
section
variable {X:Cx}
def rAppend:V→List V→Hp→VK→Prop:=fun x vs H Q=>∃ l xs y,x=.ref l∧vs=[y]∧H l=some (.lst xs)∧xs.length<sizeLine∧Q .non (upd H l (.lst (xs++[y])))
theorem mt_append:MtM X "list.append" rAppend:=by
  intro pins s σ H x vs v us Q I rx rv h
  obtain ⟨l,xs,y,rfl,rfl,hH,hz,q⟩:=h
  cases rx
  obtain ⟨u,rfl,ru⟩:=rv.one
  obtain ⟨z,its,n,r,hl,e⟩:=I.lstM hH
  refine call_meets F.slot_list_append ⟨_,e,rfl⟩ F.entry_list_append (F.args_list_append_2 _ _) (PySem.list_append l its.toArray n u (by rw [List.size_toArray]; omega)) ⟨e,?_⟩
  refine ⟨.non,_,I.lset (its':=its++[u]) hH e (by simp) (r.append (.cons ru .nil)) ?_,rfl,q⟩
  rw [List.length_append,List.length_singleton]
  omega
def rExtend:V→List V→Hp→VK→Prop:=fun x vs H Q=>∃ l b xs zs,x=.ref l∧vs=[.ref b]∧H l=some (.lst xs)∧H b=some (.lst zs)∧xs.length+zs.length≤sizeLine∧Q .non (upd H l (.lst (xs++zs)))
theorem mt_extend:MtM X "list.extend" rExtend:=by
  intro pins s σ H x vs v us Q I rx rv h
  obtain ⟨l,b,xs,zs,rfl,rfl,hH,hB,hz,q⟩:=h
  cases rx
  obtain ⟨u,rfl,ru⟩:=rv.one
  cases ru
  obtain ⟨z,its,n,r,hl,e⟩:=I.lstM hH
  obtain ⟨z2,its2,n2,r2,hl2,e2⟩:=I.lstM hB
  have hsz:its.toArray.size+its2.toArray.size≤sizeLine:=by rw [List.size_toArray,List.size_toArray]; omega
  have hlong:¬(!its.toArray.isEmpty&&Builtin.List.listTooLong (its.toArray.size+its2.toArray.size))=true:=by
    rw [notLongL hsz,Bool.and_false]
    exact Bool.false_ne_true
  refine call_meets F.slot_list_extend ⟨_,e,rfl⟩ F.entry_list_extend (F.args_list_extend_2 _ _)
    (AutoSeq1.list_extend_list_list_0 l its.toArray n b its2.toArray n2 hlong (by rw [List.size_toArray]; omega) (by omega)) ⟨e,e2,?_⟩
  refine ⟨.non,_,I.lset (its':=its++its2) hH e (by simp) (r.append r2) ?_,rfl,q⟩
  rw [List.length_append]
  omega
def rCat:R2:=fun x y H Q=>∃ l b xs zs,x=.ref l∧y=.ref b∧H l=some (.lst xs)∧H b=some (.lst zs)∧xs.length+zs.length≤sizeLine∧∀ p,H p=none→Q (.ref p) (upd H p (.lst (xs++zs)))
theorem op_cat:OpR X (binaryOp .Add) rCat:=by
  intro pins s σ H x y v u Q I rx ry h
  obtain ⟨l,b,xs,zs,rfl,rfl,hH,hB,hz,q⟩:=h
  cases rx
  cases ry
  obtain ⟨z,its,n,r,hl,e⟩:=I.lstM hH
  obtain ⟨z2,its2,n2,r2,hl2,e2⟩:=I.lstM hB
  refine PySem.P.add_list e e2 ?_ (by rw [List.size_toArray,List.size_toArray]; omega)
  have ea:its.toArray++its2.toArray=(its++its2).toArray:=by simp
  rw [ea]
  exact ⟨.ref _,_,I.lnew (t':=s.toks) (r.append r2) (by rw [List.length_append]; omega),rfl,q _ I.fresh⟩
def rRep:R2:=fun x y H Q=>∃ l k xs,x=.ref l∧y=.int k∧H l=some (.lst xs)∧-(2 ^ 63)≤k∧k<2 ^ 63∧xs.length * k.toNat≤sizeLine∧
  ∀ p,H p=none→Q (.ref p) (upd H p (.lst (List.replicate k.toNat xs).flatten))
theorem len_rep {α:Type}(xs:List α) (k:Nat):(List.replicate k xs).flatten.length=k * xs.length:=by
  induction k with
  | zero=>simp
  | succ k ih=>rw [List.replicate_succ,List.flatten_cons,List.length_append,ih,Nat.succ_mul,Nat.add_comm]
theorem op_rep:OpR X (binaryOp .Mult) rRep:=by
  intro pins s σ H x y v u Q I rx ry h
  obtain ⟨l,k,xs,rfl,rfl,hH,h1,h2,hz,q⟩:=h
  cases rx
  obtain ⟨t,rfl⟩:=ry
  obtain ⟨z,its,n,r,hl,e⟩:=I.lstM hH
  have hlen:its.toArray.size * k.toNat≤sizeLine:=by rw [List.size_toArray,←hl]; exact hz
  have hcap:¬its.toArray.size * k.toNat > (2 ^ 63-1) / 8:=by
    have:(sizeLine:Nat)≤(2 ^ 63-1) / 8:=by decide
    omega
  have hfit:¬(!Builtin.List.listFitsIndex k)=true:=by
    rw [fitsIndex_both h1 h2]
    exact Bool.false_ne_true
  have hlong:¬Builtin.List.listTooLong (its.toArray.size * k.toNat)=true:=by
    rw [notLongL hlen]
    exact Bool.false_ne_true
  have hnew:List.foldl (fun x1 x2=>x1++x2) #[] (List.replicate (if its.toArray.isEmpty=true then 0 else k.toNat) its.toArray)=(List.replicate k.toNat its).flatten.toArray:=by
    have f0:∀ m:Nat,List.foldl (fun x1 x2=>x1++x2) #[] (List.replicate m its.toArray)=(List.replicate m its).flatten.toArray:=fun m=>by
      have:=foldl_rep its m []
      rw [List.nil_append] at this
      exact this
    rw [f0]
    cases its with
    | nil=>simp
    | cons a r'=>rw [if_neg (by simp)]
  refine wpAny_binaryOp_repeat_ref (T := "list") (U := "int") (by decide) ⟨_,e,rfl⟩ (fun s'=>typeIs_int s' k t) noFill_list_mul F.fills_int_mul F.slot_int_rmul repeat_list F.slot_int_index.lookup
    (call_meets F.slot_int_rmul (typeIs_int s k t) F.entry_int_rmul (F.args_int_rmul_2 _ _) (int___rmul___int_list k t l its.toArray n)
      ⟨e,rfl,⟨_,e,rfl⟩,call_meets F.slot_list_mul ⟨_,e,rfl⟩ F.entry_list_mul (F.args_list_mul_2 _ _) (AutoListH.list___mul___list_int_3 l its.toArray n k t hfit hcap hlong) ⟨e,?_⟩⟩)
  rw [hnew]
  exact ⟨.ref _,_,I.lnew (t':=s.toks) (r.rep k.toNat) (by rw [len_rep,Nat.mul_comm]; exact hz),rfl,q _ I.fresh⟩
end
end L2
namespace L2
open PySem PySem.Spec PyProof.Rows
theorem Vals.ints:∀ {ns:List Int}{us:List Value},Vals (ns.map V.int) us→IntsAre us ns
  | [],us,h=>by
    rw [List.map_nil] at h
    cases h
    exact IntsAre.nil
  | n::ns,us,h=>by
    rw [List.map_cons] at h
    cases h with
    | cons r t=>
      obtain ⟨k,rfl⟩:=r
      exact IntsAre.cons n k (Vals.ints t)
theorem Vals.bls:∀ {bs:List Bool}{us:List Value},Vals (bs.map V.bl) us→us=bs.map Value.bool
  | [],us,h=>by
    rw [List.map_nil] at h
    cases h
    rfl
  | b::bs,us,h=>by
    rw [List.map_cons] at h
    cases h with
    | cons r t=>
      cases r
      rw [Vals.bls t,List.map_cons]
theorem Vals.ref1 {a:Addr}{us:List Value}(r:Vals [V.ref a] us):us=[Value.ref a]:=by
  cases r with
  | cons r t=>
    cases t
    cases r
    rfl
section
variable {prog:Program}{w:World}{A:Around}{E:Value→Shared→Prop}{s:Shared}{l:Addr}{its:List Value}{ns:List Int}{Q:Value→Shared→Prop}
theorem sum_raw (hh:A.handled=none) (hl:s.heap.IsList l its.toArray) (hi:IntsAre its ns)
    (h:∀ h' tk t',(∀ b o,s.heap.get? b=some o→h'.get? b=some o)→Q (.int ns.sum t') { s with heap:=h',toks:=tk }):wpAny (model prog w) A (call (.builtin "sum") [.ref l]) Q E s:=by
  obtain ⟨xs,e⟩:=hi.allInts.items
  have hn:numsOf (intItems xs).toList=ns:=by rw [←e]; exact hi.numsOf
  rw [nums_intItems] at hn
  rw [e] at hl
  refine PySem.sum_intListG hh hl fun h' tk t' hk=>?_
  have:=h h' tk t' hk
  rw [preSum_eq,List.take_of_length_le (by simp),hn]; exact this
end
section
variable {X:Cx}
def rSum (K:PySem.W.Frag):List V→Hp→VK→Prop:=fun vs H Q=>∃ (a:Addr) (ns:List Int),vs=[V.ref a]∧SqL K H a (ns.map V.int)∧Q (.int ns.sum) H
theorem cr_sum (hc:X.calm=true):CallR X (.builtin "sum") (rSum X.K):=by
  intro pins s σ H vs us Q I r h
  obtain ⟨a,ns,rfl,hs,q⟩:=h
  obtain ⟨its,rv,hl,_⟩:=I.list hs
  rw [Vals.ref1 r]
  exact sum_raw (I.ok.hd hc) hl.isList rv.ints fun h' tk t' hk=>⟨.int _,H,I.kept hk,⟨_,rfl⟩,q⟩
end
theorem iter_any {prog:Program}{w:World}{A:Around}{E:Value→Shared→Prop}{s:Shared}{l:Addr}{items:Array Value}{Q:Value→Shared→Prop}(hl:s.heap.IsList l items)
    (h:∀ s₂:Shared,s₂={ s with heap:=s.heap.push { cls:=.type "list_iterator",data:=.fields #[.ref l,.int 0 0] } }→
      (s₂.heap.IsListIter s.heap.objs.size l 0∧s₂.heap.IsList l items)→l≠s.heap.objs.size→Q (.ref s.heap.objs.size) s₂):wpAny (model prog w) A (pyIter (.ref l)) Q E s:=by
  have hlt:l<s.heap.objs.size:=by obtain ⟨_,e,_⟩:=hl; exact Heap.lt_size e
  exact wpAny_pyIter_list hl (h _ rfl ⟨⟨_,Heap.get?_push_size _ rfl,rfl,rfl⟩,hl.push _⟩ (Nat.ne_of_lt hlt))
theorem truth_bools {prog:Program}{w:World}{A:Around}{bs:List Bool}{its:List Value}(e:its=bs.map Value.bool) :
    TruthOf prog w A (fun i v=>its.toArray[i]?=some v) (fun i=>bs.getD i false):=fun i v s Q E hv hq=>by
  have hv':its[i]?=some v:=by simpa using hv
  rw [e,List.getElem?_map] at hv'
  obtain ⟨b,hb,rfl⟩:=Option.map_eq_some_iff.mp hv'
  have hg:bs.getD i false=b:=by rw [List.getD_eq_getElem?_getD,hb] <;> rfl
  have hq':Q (bs.getD i false) s:=hq
  rw [hg] at hq'
  exact wpAny_truthy_bool hq'
theorem any_range:∀ bs:List Bool,(List.range bs.length).any (fun i=>bs.getD i false)=bs.any id
  | []=>rfl
  | b::bs=>by
    rw [List.length_cons,List.range_succ_eq_map,List.any_cons,List.any_map,List.any_cons,←any_range bs]
    all_goals rfl
theorem all_range:∀ bs:List Bool,(List.range bs.length).all (fun i=>bs.getD i false)=bs.all id
  | []=>rfl
  | b::bs=>by
    rw [List.length_cons,List.range_succ_eq_map,List.all_cons,List.all_map,List.all_cons,←all_range bs]
    all_goals rfl
section
variable {X:Cx}
def rAll (K:PySem.W.Frag):List V→Hp→VK→Prop:=fun vs H Q=>∃ (a:Addr) (bs:List Bool),vs=[V.ref a]∧SqL K H a (bs.map V.bl)∧Q (.bl (bs.all id)) H
theorem cr_all (hc:X.calm=true):CallR X (.builtin "all") (rAll X.K):=by
  intro pins s σ H vs us Q I r h
  obtain ⟨a,bs,rfl,hs,q⟩:=h
  obtain ⟨its,rv,hl,_⟩:=I.list hs
  rw [Vals.ref1 r]
  have hb:=rv.bls
  refine call_all_walk (iter_any hl.isList fun s₂ e2 st hne=>?_)
  subst e2
  refine ⟨_,_,_,_,_,_,_,rfl,Walks.list (A:=X.A.in1) (I.ok.hd hc) _ a hne its.toArray,st,truth_bools hb,fun h' tk hk=>?_⟩
  refine ⟨.bl _,H,I.kept fun b o eo=>hk b o (fun hmem=>?_) (Heap.get?_push_of_some _ eo),?_,q⟩
  · rcases List.mem_cons.mp hmem with e1 | hmem
    · exact absurd (e1 ▸ Heap.lt_size eo) (Nat.lt_irrefl _)
    · cases hmem
  · show Value.bool _=Value.bool _
    rw [←all_range,hb,List.size_toArray,List.length_map]
end
mutual
inductive Dp (K:PySem.W.Frag) (H:Hp):V→PyData→Prop
  | non:Dp K H .non .none
  | bl (b:Bool):Dp K H (.bl b) (.bool b)
  | int (i:Int):Dp K H (.int i) (.int i)
  | str (x:Str):Dp K H (.str x) (.str x)
  | lst {a:Addr} {xs:List V} {ds:List PyData}:SqL K H a xs→DpAll K H xs ds→Dp K H (.ref a) (.list ds)
  | tup {a:Addr} {xs:List V} {ds:List PyData}:SqT K H a xs→DpAll K H xs ds→Dp K H (.ref a) (.tuple ds)
inductive DpAll (K:PySem.W.Frag) (H:Hp):List V→List PyData→Prop
  | nil:DpAll K H [] []
  | cons {v:V} {vs:List V} {d:PyData} {ds:List PyData}:Dp K H v d→DpAll K H vs ds→DpAll K H (v::vs) (d::ds)
end
section
variable {X:Cx}{pins:List (Addr×Obj)}{σ:St}{H:Hp}{s:Shared}
mutual
theorem Dp.reads (I:Inv X pins σ H s):∀ (d:PyData) (v:V) (u:Value),Dp X.K H v d→RelV v u→∃ as,Reads s.heap u d as
  | .none,_,_,h,r=>by
    cases h
    cases r
    exact ⟨_,Reads.none⟩
  | .bool b,_,_,h,r=>by
    cases h
    cases r
    exact ⟨_,Reads.bool b⟩
  | .int i,_,_,h,r=>by
    cases h
    obtain ⟨t,rfl⟩:=r
    exact ⟨_,Reads.int i t⟩
  | .str x,_,_,h,r=>by
    cases h
    obtain ⟨t,rfl⟩:=r
    exact ⟨_,Reads.str x t⟩
  | .list ds,_,_,h,r=>by
    cases h with
    | lst hs ha=>
      cases r
      obtain ⟨its,rv,⟨o,n,ho,hc,_,hd⟩,_⟩:=I.list hs
      obtain ⟨as,hr⟩:=Dp.readsAll I ds _ its ha rv
      exact ⟨_,Reads.list ho hc hd hr⟩
  | .tuple ds,_,_,h,r=>by
    cases h with
    | tup hs ha=>
      cases r
      obtain ⟨its,rv,⟨o,ho,hc,n,hd⟩,_⟩:=I.tuple hs
      obtain ⟨as,hr⟩:=Dp.readsAll I ds _ its ha rv
      exact ⟨_,Reads.tuple ho hc hd hr⟩
  | .dict _,_,_,h,_=>by cases h
theorem Dp.readsAll (I:Inv X pins σ H s):∀ (ds:List PyData) (vs:List V) (us:List Value),DpAll X.K H vs ds→Vals vs us→∃ as,ReadsAll s.heap us ds as
  | [],_,_,h,r=>by
    cases h
    cases r
    exact ⟨_,ReadsAll.nil⟩
  | d::ds,_,_,h,r=>by
    cases h with
    | cons h1 h2=>
      cases r with
      | cons r1 r2=>
        obtain ⟨as,q1⟩:=Dp.reads I d _ _ h1 r1
        obtain ⟨bs,q2⟩:=Dp.readsAll I ds _ _ h2 r2
        exact ⟨_,ReadsAll.cons q1 q2⟩
end
end
section
variable {X:Cx}
def rNeD (K:PySem.W.Frag):R2:=fun x y H Q=>∃ d e,Dp K H x d∧Dp K H y e∧SeqAt.shaped d=true∧SeqAt.shaped e=true∧Q (.bl (!PyData.eqv d e)) H
theorem op_neD (hu:X.A.units+64<cLine):OpR X (compareOp .NotEq) (rNeD X.K):=by
  intro pins s σ H x y v u Q I rx ry h
  obtain ⟨d,e,hd,he,sd,se,q⟩:=h
  obtain ⟨as,r1⟩:=Dp.reads I d x v hd rx
  obtain ⟨bs,r2⟩:=Dp.reads I e y u he ry
  exact SeqAt.compareNe_shaped r1 r2 sd se hu ⟨.bl _,H,I,rfl,q⟩
end
end L2
namespace L2
open PySem PySem.Spec PyProof.Rows
abbrev CellAt (h:Heap) (c:Addr) (v:Option Value):Prop:=h.IsCell c v
def relS (scope sc:Scope):Scope:=
  { scope with names:=scope.names.map fun (n,k)=>if (k==.free&&sc.kind==.function&&sc.names.lookup n==some .cell) then (n,.cell) else (n,k) }
def cloFrom (cells:List (Str×Addr)):List (Str×NameKind)→List (Str×Addr)→List (Str×Addr)
  | [],acc=>acc
  | (n,k)::r,acc=>if k==.free then cloFrom cells r ((n,(cells.lookup n).getD 0)::acc) else cloFrom cells r acc
theorem closure_loop (env:Env) (f:Str×NameKind→List (Str×Addr)→Sem (ForInStep (List (Str×Addr))))
    (hf:∀ n k c,f (n,k) c=if k==.free then (do let a←cellOf env n; pure (.yield ((n,a)::c))) else pure (.yield c)) :
    ∀ (names:List (Str×NameKind)) (acc:List (Str×Addr)),(∀ y∈names,y.2=.free→∃ c,env.cells.lookup y.1=some c)→forIn names acc f=pure (cloFrom env.cells names acc)
  | [],acc,_=>by rw [List.forIn_nil]; rfl
  | (n,k)::r,acc,h=>by
    rw [List.forIn_cons,hf]
    have ih:=fun acc=>closure_loop env f hf r acc fun y hy=>h y (List.mem_cons_of_mem _ hy)
    unfold cloFrom
    by_cases hk:(k==NameKind.free)=true
    · rw [if_pos hk,if_pos hk]
      obtain ⟨c,hc⟩:=h (n,k) List.mem_cons_self (by simpa using hk)
      have e:cellOf env n=pure c:=by unfold cellOf; rw [hc]
      rw [e]
      have e2:(env.cells.lookup n).getD 0=c:=by rw [hc]; rfl
      rw [e2]
      exact ih _
    · rw [if_neg hk,if_neg hk]
      exact ih _
theorem closure_ok {scope:Scope}{env:Env}(h:∀ y∈scope.names,y.2=.free→∃ c,env.cells.lookup y.1=some c):closureFor scope env=pure (cloFrom env.cells scope.names []):=by
  simp only [closureFor]
  rw [closure_loop env _ (fun n k c=>rfl) scope.names [] h]
  rfl
theorem mem_lookup {α:Type}:∀ {l:List (Str×α)}{n:Str}{c:α},(n,c)∈l→∃ c',l.lookup n=some c'
  | (k,v)::r,n,c,h=>by
    rw [List.lookup_cons]
    cases hb:n==k with
    | true=>exact ⟨_,rfl⟩
    | false=>
      rcases List.mem_cons.mp h with e | h
      · cases e; simp at hb
      · exact mem_lookup h
theorem cloFrom_mem {cells:List (Str×Addr)}:∀ {names:List (Str×NameKind)}{acc:List (Str×Addr)}{n:Str}{c:Addr},(n,c)∈cloFrom cells names acc→(n,c)∈acc∨((n,.free)∈names∧c=(cells.lookup n).getD 0)
  | [],_,_,_,h=>.inl h
  | (m,k)::r,acc,n,c,h=>by
    unfold cloFrom at h
    split at h
    · rename_i hk
      have hk:k=.free:=by simpa using hk
      rcases cloFrom_mem h with h | ⟨h1,h2⟩
      · rcases List.mem_cons.mp h with e | h
        · cases e; exact .inr ⟨hk ▸ List.mem_cons_self,rfl⟩
        · exact .inl h
      · exact .inr ⟨List.mem_cons_of_mem _ h1,h2⟩
    · rcases cloFrom_mem h with h | ⟨h1,h2⟩
      · exact .inl h
      · exact .inr ⟨List.mem_cons_of_mem _ h1,h2⟩
theorem cloFrom_acc {cells:List (Str×Addr)}:∀ {names:List (Str×NameKind)}{acc:List (Str×Addr)}{p:Str×Addr},p∈acc→p∈cloFrom cells names acc
  | [],_,_,h=>h
  | (m,k)::r,acc,p,h=>by
    unfold cloFrom
    split
    · exact cloFrom_acc (List.mem_cons_of_mem _ h)
    · exact cloFrom_acc h
theorem cloFrom_has {cells:List (Str×Addr)}:∀ {names:List (Str×NameKind)}{acc:List (Str×Addr)}{n:Str},(n,.free)∈names→(n,(cells.lookup n).getD 0)∈cloFrom cells names acc
  | (m,k)::r,acc,n,h=>by
    unfold cloFrom
    rcases List.mem_cons.mp h with e | h
    · cases e
      exact cloFrom_acc List.mem_cons_self
    · split
      · exact cloFrom_has h
      · exact cloFrom_has h
theorem cells_mem:∀ {names:List (Str×NameKind)}{h:Heap}{acc:List (Str×Addr)}{x:Str}{c:Addr},(x,c)∈cellsFrom h.objs.size names acc→
    (x,c)∈acc∨((x,.cell)∈names∧h.objs.size≤c∧CellAt (pushCells h names) c none)
  | [],_,_,_,_,h=>.inl h
  | (n,k)::r,h,acc,x,c,hm=>by
    unfold cellsFrom at hm
    unfold pushCells
    split at hm
    · rename_i hk
      rw [if_pos hk]
      have hk:k=.cell:=by simpa using hk
      rw [←Heap.size_push h { cls:=.type "cell",data:=.cell none }] at hm
      rcases cells_mem hm with hm | ⟨h1,h2,h3⟩
      · rcases List.mem_cons.mp hm with e | hm
        · cases e
          exact .inr ⟨hk ▸ List.mem_cons_self,Nat.le_refl _,_,pushCells_keeps r _ _ _ (Heap.get?_push_size _ rfl),rfl⟩
        · exact .inl hm
      · rw [Heap.size_push] at h2
        exact .inr ⟨List.mem_cons_of_mem _ h1,Nat.le_of_succ_le h2,h3⟩
    · rename_i hk
      rw [if_neg hk]
      rcases cells_mem hm with hm | ⟨h1,h2,h3⟩
      · exact .inl hm
      · exact .inr ⟨List.mem_cons_of_mem _ h1,h2,h3⟩
theorem cells_acc:∀ {names:List (Str×NameKind)}{n:Nat}{acc:List (Str×Addr)}{p:Str×Addr},p∈acc→p∈cellsFrom n names acc
  | [],_,_,_,h=>h
  | (m,k)::r,n,acc,p,h=>by
    unfold cellsFrom
    split
    · exact cells_acc (List.mem_cons_of_mem _ h)
    · exact cells_acc h
theorem cells_has:∀ {names:List (Str×NameKind)}{n:Nat}{acc:List (Str×Addr)}{x:Str},(x,.cell)∈names→∃ c,(x,c)∈cellsFrom n names acc
  | (m,k)::r,n,acc,x,h=>by
    unfold cellsFrom
    rcases List.mem_cons.mp h with e | h
    · cases e
      exact ⟨n,cells_acc List.mem_cons_self⟩
    · split
      · exact cells_has h
      · exact cells_has h
theorem cells_inj:∀ {names:List (Str×NameKind)}{h:Heap}{acc:List (Str×Addr)}{x y:Str}{c:Addr},(∀ p∈acc,p.2<h.objs.size)→(∀ x y c,(x,c)∈acc→(y,c)∈acc→x=y)→
    (x,c)∈cellsFrom h.objs.size names acc→(y,c)∈cellsFrom h.objs.size names acc→x=y
  | [],_,_,_,_,_,_,hi,h1,h2=>hi _ _ _ h1 h2
  | (n,k)::r,h,acc,x,y,c,hl,hi,h1,h2=>by
    unfold cellsFrom at h1 h2
    split at h1
    · rename_i hk
      rw [if_pos hk] at h2
      rw [←Heap.size_push h { cls:=.type "cell",data:=.cell none }] at h1 h2
      refine cells_inj (h:=h.push _) (fun p hp=>?_) (fun x y c a b=>?_) h1 h2
      · rw [Heap.size_push]
        rcases List.mem_cons.mp hp with rfl | hp
        · exact Nat.lt_succ_self _
        · exact Nat.lt_succ_of_lt (hl p hp)
      · rcases List.mem_cons.mp a with e | a <;> rcases List.mem_cons.mp b with e' | b
        · cases e; cases e'; rfl
        · cases e; exact absurd (hl _ b) (Nat.lt_irrefl _)
        · cases e'; exact absurd (hl _ a) (Nat.lt_irrefl _)
        · exact hi _ _ _ a b
    · rename_i hk
      rw [if_neg hk] at h2
      exact cells_inj hl hi h1 h2
theorem newEnv_comp {M:Model}{A:Around}{E:Value→Shared→Prop}{s:Shared}{scope:Scope}{globals:Addr}{closure:List (Str×Addr)}{qual:Str}{func:Option Addr}{code:Value}{around:Env}{builtins:Addr}{Q:Env→Shared→Prop}
    (h:Q (newEnv scope s.heap.objs.size globals (cellsFrom (s.heap.objs.size+1) scope.names closure) qual func code (some around) builtins)
      { s with heap:=pushCells (s.heap.push { cls:=.type "dict",data:=.dict #[] }) scope.names }) :
    wpAny M A (newFunctionEnv scope globals closure [] qual func code (some around) builtins) Q E s:=by
  simp only [newFunctionEnv,Option.isSome_some,if_true]
  refine wpAny_bind (wpAny_alloc ?_)
  refine wpAny_bind (wpAny_layCells _ (fun n k c=>rfl) scope.names closure _ _ ?_)
  rw [show ({ s with heap:=s.heap.push { cls:=.type "dict",data:=.dict #[] } }:Shared).heap.objs.size=s.heap.objs.size+1 from Heap.size_push ..]
  rw [List.forIn_nil]
  exact wpAny_bind (wpAny_pure (wpAny_pure h))
theorem lookup_relS {sc:Scope}:∀ {names:List (Str×NameKind)}{x:Str}{k:NameKind},
    (names.map fun (n,k)=>if (k==NameKind.free&&sc.kind==.function&&sc.names.lookup n==some .cell) then (n,NameKind.cell) else (n,k)).lookup x=some k→
    ∃ k',names.lookup x=some k'∧(k=k'∨(k'=.free∧k=.cell))
  | [],_,_,h=>by simp at h
  | (n,k₀)::r,x,k,h=>by
    have ih:=@lookup_relS sc r x k
    have h':List.lookup x ((if (k₀==NameKind.free&&sc.kind==.function&&sc.names.lookup n==some .cell)=true then (n,NameKind.cell) else (n,k₀))::(r.map _))=some k:=h
    cases hx:x==n with
    | true=>
      simp only [List.lookup_cons,hx]
      by_cases hc:(k₀==NameKind.free&&sc.kind==.function&&sc.names.lookup n==some .cell)=true
      · rw [if_pos hc] at h'
        simp only [List.lookup_cons,hx] at h'
        cases h'
        simp only [Bool.and_eq_true,beq_iff_eq] at hc
        exact ⟨k₀,rfl,.inr ⟨hc.1.1,rfl⟩⟩
      · rw [if_neg hc] at h'
        simp only [List.lookup_cons,hx] at h'
        cases h'
        exact ⟨_,rfl,.inl rfl⟩
    | false=>
      simp only [List.lookup_cons,hx]
      by_cases hc:(k₀==NameKind.free&&sc.kind==.function&&sc.names.lookup n==some .cell)=true
      · rw [if_pos hc] at h'
        simp only [List.lookup_cons,hx] at h'
        exact ih h'
      · rw [if_neg hc] at h'
        simp only [List.lookup_cons,hx] at h'
        exact ih h'
structure BlkOk (N:List Str) (sc scope:Scope) (own:List (Str×Nat)):Prop where
  kind:scope.kind=.function
  uniq:∀ y∈scope.names,scope.names.lookup y.1=some y.2
  ix:∀ p∈own,N[p.2]?=some p.1
  free:∀ y∈scope.names,y.2=.free→sc.names.lookup y.1=some .cell∨sc.names.lookup y.1=some .free
  own:∀ y∈scope.names,y.2=.local∨y.2=.cell→y.1∈own.map (·.1)∨y.1 ∉ N
def wipe (σ:St):List Nat→St
  | []=>σ
  | v::vs=>(wipe σ vs).set v none
theorem wipe_length (σ:St):∀ vs:List Nat,(wipe σ vs).length=σ.length
  | []=>rfl
  | v::vs=>by unfold wipe; rw [List.length_set,wipe_length σ vs]
theorem wipe_some {σ:St}{i:Nat}{x:V}:∀ {vs:List Nat},(wipe σ vs)[i]?=some (some x)→σ[i]?=some (some x)∧i ∉ vs
  | [],h=>⟨h,by simp⟩
  | v::vs,h=>by
    unfold wipe at h
    by_cases hi:v=i
    · subst hi
      by_cases hv:v<(wipe σ vs).length
      · rw [List.getElem?_set_self hv] at h; cases h
      · rw [List.getElem?_eq_none (by simpa using hv)] at h; cases h
    · rw [List.getElem?_set_ne hi] at h
      obtain ⟨h1,h2⟩:=wipe_some h
      exact ⟨h1,by simp only [List.mem_cons,not_or]; exact ⟨fun e=>hi e.symm,h2⟩⟩
abbrev Cx.blk (X:Cx) (s:Shared) (H:Hp) (scope:Scope) (cenv:Env) (fp:List Addr):Cx:={ X with s_0:=s,H_0:=H,env:=cenv,outer:=X.stack,ex:=fp,fn:=fun x=>scope.names.lookup x==some .cell,pn:=[],xe:=fun _ _=>False }
section
variable {X:Cx}{pins:List (Addr×Obj)}{σ:St}{H:Hp}{s:Shared}
theorem block_start {scope:Scope}{own:List (Str×Nat)}{fp:List Addr}(I:Inv X pins σ H s) (ok:BlkOk X.N X.env.scope scope own) (hN:X.N.Nodup) (hfp:∀ b∈fp,FpOk X pins H b∧b<s.heap.objs.size) :
    Inv (X.blk s H scope (compEnvC scope (cellsFrom (s.heap.objs.size+1) scope.names (cloFrom X.env.cells scope.names [])) s.heap.objs.size X.env) fp) [] (wipe σ (own.map (·.2))) H { s with heap:=pushCells (s.heap.push { cls:=.type "dict",data:=.dict #[] }) scope.names }:=by
  have hfree:∀ y∈scope.names,y.2=.free→∃ c,X.env.cells.lookup y.1=some c:=fun y hy e=>by
    rcases ok.free y hy e with k | k
    · exact I.ok.has _ (.inl k)
    · exact I.ok.has _ (.inr k)
  generalize hcenv:compEnvC scope (cellsFrom (s.heap.objs.size+1) scope.names (cloFrom X.env.cells scope.names [])) s.heap.objs.size X.env=cenv
  have kp:∀ b o,s.heap.get? b=some o→(pushCells (s.heap.push { cls:=.type "dict",data:=.dict #[] }) scope.names).get? b=some o:=fun b o e=>pushCells_keeps _ _ _ _ (Heap.get?_push_of_some _ e)
  have hL:cenv.locals=s.heap.objs.size:=by rw [←hcenv]; rfl
  have hcl:cenv.cells=cellsFrom (s.heap.objs.size+1) scope.names (cloFrom X.env.cells scope.names []):=by rw [←hcenv]; rfl
  have hsc:cenv.scope=relS scope X.env.scope:=by rw [←hcenv]; rfl
  rw [←Heap.size_push s.heap { cls:=.type "dict",data:=.dict #[] }] at hcl
  have cm:∀ {y c},(y,c)∈cloFrom X.env.cells scope.names []→X.env.cells.lookup y=some c∧c<s.heap.objs.size:=fun {y c} hm=>by
    rcases cloFrom_mem hm with hm | ⟨h1,rfl⟩
    · cases hm
    · obtain ⟨c,hc⟩:=hfree _ h1 rfl
      rw [hc]
      obtain ⟨w,z⟩:=I.cell _ _ hc
      exact ⟨rfl,z.lt⟩
  have mem:∀ {y c},cenv.cells.lookup y=some c→(X.env.cells.lookup y=some c∧c<s.heap.objs.size)∨(s.heap.objs.size+1≤c∧CellAt (pushCells (s.heap.push { cls:=.type "dict",data:=.dict #[] }) scope.names) c none):=fun {y c} e=>by
    rw [hcl] at e
    rcases cells_mem (PySem.mem_of_lookup e) with hm | ⟨_,h2,h3⟩
    · exact .inl (cm hm)
    · rw [Heap.size_push] at h2; exact .inr ⟨h2,h3⟩
  have look:∀ {y},scope.names.lookup y=some .free→∃ c,cenv.cells.lookup y=some c∧X.env.cells.lookup y=some c:=fun {y} hl=>by
    have hy:(y,NameKind.free)∈scope.names:=PySem.mem_of_lookup hl
    obtain ⟨c',e'⟩:=mem_lookup (cells_acc (names:=scope.names) (n:=(s.heap.push { cls:=.type "dict",data:=.dict #[] }).objs.size) (cloFrom_has (cells:=X.env.cells) (acc:=[]) hy))
    rw [←hcl] at e'
    refine ⟨c',e',?_⟩
    rw [hcl] at e'
    rcases cells_mem (PySem.mem_of_lookup e') with hm | ⟨h1,_,_⟩
    · exact (cm hm).1
    · have:=ok.uniq _ h1
      rw [hl] at this; cases this
  have okB:(X.blk s H scope cenv fp).Ok:=by
    refine ⟨I.ok.mod,by show cenv.scope.kind=_; rw [hsc]; exact ok.kind,by show cenv.globals=_; rw [←hcenv]; exact I.ok.glob,by show cenv.builtins=_; rw [←hcenv]; exact I.ok.blt,by show s.heap.objs.size≤cenv.locals; rw [hL]; exact Nat.le_refl _,
      fun y z c e1 e2=>?_,fun y hy=>?_,fun y c z e=>?_,I.ok.hd,I.ok.frames,.inl rfl,fun b hb=>⟨?_,fun y c e z=>?_⟩,I.bs,Nat.le_trans I.ok.bsz I.sz,fun b o e hb=>?_,fun b hb z=>?_,I.stack,I.stkFree⟩
    · have e1:cenv.cells.lookup y=some c:=e1
      have e2:cenv.cells.lookup z=some c:=e2
      rw [hcl] at e1 e2
      refine cells_inj (fun p hp=>?_) (fun y z c a b=>I.ok.inj y z c (cm a).1 (cm b).1) (PySem.mem_of_lookup e1) (PySem.mem_of_lookup e2)
      rw [Heap.size_push]
      exact Nat.lt_succ_of_lt (cm (y:=p.1) (c:=p.2) hp).2
    · show ∃ c,cenv.cells.lookup y=some c
      have key:∀ k,cenv.kindOf y=some k→(k=.cell∨k=.free)→∃ c,cenv.cells.lookup y=some c:=fun k hk hk'=>by
        unfold Env.kindOf at hk
        rw [hsc] at hk
        obtain ⟨k',e,r⟩:=lookup_relS hk
        have:k'=.cell∨k'=.free:=by
          rcases r with rfl | ⟨rfl,_⟩
          · exact hk'
          · exact .inr rfl
        rcases this with rfl | rfl
        · obtain ⟨c,hm⟩:=cells_has (n:=(s.heap.push { cls:=.type "dict",data:=.dict #[] }).objs.size) (acc:=cloFrom X.env.cells scope.names []) (PySem.mem_of_lookup e)
          obtain ⟨c',e'⟩:=mem_lookup hm
          exact ⟨c',by rw [hcl]; exact e'⟩
        · obtain ⟨c,h1,_⟩:=look e
          exact ⟨c,h1⟩
      rcases hy with hy | hy
      · exact key _ hy (.inl rfl)
      · exact key _ hy (.inr rfl)
    · have z:(scope.names.lookup y==some NameKind.cell)=true:=z
      have z:scope.names.lookup y=some .cell:=by simpa using z
      have e:cenv.cells.lookup y=some c:=e
      rw [hcl] at e
      rcases cells_mem (PySem.mem_of_lookup e) with hm | ⟨_,h2,_⟩
      · rcases cloFrom_mem hm with hm | ⟨h1,_⟩
        · cases hm
        · have q:=ok.uniq _ h1
          rw [z] at q; cases q
      · rw [Heap.size_push] at h2
        exact Nat.le_of_succ_le h2
    · show b≠cenv.locals
      rw [hL]; exact Nat.ne_of_lt (hfp b hb).2
    · have e:cenv.cells.lookup y=some c:=e
      rcases mem e with ⟨h1,_⟩ | ⟨h1,_⟩
      · exact (hfp b hb).1.2.2.2.2.1 y c h1 z
      · have h2:s.heap.objs.size+1≤b:=by rw [←z]; exact h1
        exact absurd (Nat.lt_of_lt_of_le (hfp b hb).2 (Nat.le_of_succ_le h2)) (Nat.lt_irrefl _)
    · rcases (hfp b hb).1.2.2.2.1 with z | z
      · exact I.ok.noex b o e z
      · exact absurd (Nat.lt_of_lt_of_le (Heap.lt_size e) (Nat.le_trans I.ok.bsz z)) (Nat.lt_irrefl _)
    · rcases List.mem_cons.mp (I.stkSub b z) with z | z
      · exact (hfp b hb).1.2.1 z
      · exact (hfp b hb).1.2.2.1 z
  refine ⟨okB,rfl,I.bare,Un.kept kp,⟨fun _=>none,?_,fun i y av e1 e2 e3=>?_⟩,fun y c e=>?_,?_,fun y c e=>?_,fun p hp=>?_,I.hok.kept kp,by rw [wipe_length]; exact I.len⟩
  · show Heap.Ns _ cenv.locals _
    rw [hL]
    exact Heap.Ns.keeps (Heap.Ns.new ..) fun b o e=>pushCells_keeps _ _ _ _ e
  · obtain ⟨e2,hne⟩:=wipe_some e2
    have hfr:scope.names.lookup y=some .free∧(cenv.kindOf y=some .cell∨cenv.kindOf y=some .free):=by
      have key:∀ k,cenv.scope.names.lookup y=some k→k=.local∨k=.cell∨k=.free→scope.names.lookup y=some .free∧(cenv.kindOf y=some .cell∨cenv.kindOf y=some .free):=fun k hk hk'=>by
        have hk0:=hk
        rw [hsc] at hk
        obtain ⟨k',e,r⟩:=lookup_relS hk
        have no:¬(k'=.local∨k'=.cell):=fun hh=>by
          rcases ok.own _ (PySem.mem_of_lookup e) hh with e' | e'
          · obtain ⟨p,hp,hpy⟩:=List.mem_map.mp e'
            have e3:=ok.ix p hp
            have:p.1=y:=hpy
            rw [this] at e3
            exact hne (List.mem_map.mpr ⟨p,hp,nodup_ix hN e3 e1⟩)
          · exact e' (List.mem_of_getElem? e1)
        rcases r with rfl | ⟨rfl,rfl⟩
        · rcases hk' with rfl | rfl | rfl
          · exact absurd (.inl rfl) no
          · exact absurd (.inr rfl) no
          · exact ⟨e,.inr hk0⟩
        · exact ⟨e,.inl hk0⟩
      have e3:Vis cenv.scope y:=e3
      rcases e3 with e3 | e3 | e3
      · exact key _ e3 (.inl rfl)
      · exact key _ e3 (.inr (.inl rfl))
      · exact key _ e3 (.inr (.inr rfl))
    obtain ⟨m,hn,hl⟩:=I.loc
    have hvis:Vis X.env.scope y:=(ok.free _ (PySem.mem_of_lookup hfr.1) rfl).elim (fun k=>.inr (.inl k)) (fun k=>.inr (.inr k))
    obtain ⟨w,r,q⟩:=hl i y av e1 e2 hvis
    refine ⟨w,r,.inr ⟨hfr.2,?_⟩⟩
    obtain ⟨c,h1,h2⟩:=look hfr.1
    rcases q with ⟨k,_⟩ | ⟨_,c',e',z⟩
    · have k:X.env.scope.names.lookup y=some .local:=k
      rcases ok.free _ (PySem.mem_of_lookup hfr.1) rfl with k' | k' <;> rw [show X.env.scope.names.lookup y=_ from k'] at k <;> cases k
    · rw [h2] at e'; cases e'
      exact ⟨c,h1,z.keeps kp⟩
  · have e:cenv.cells.lookup y=some c:=e
    rcases mem e with ⟨h1,_⟩ | ⟨_,z⟩
    · obtain ⟨w,z⟩:=I.cell y c h1
      exact ⟨w,z.keeps kp⟩
    · exact ⟨_,z⟩
  · show H cenv.locals=none
    rw [hL]; exact I.hok.fresh (Nat.le_refl _)
  · have e:cenv.cells.lookup y=some c:=e
    rcases mem e with ⟨h1,_⟩ | ⟨h1,_⟩
    · exact I.freeC y c h1
    · exact I.hok.fresh (Nat.le_of_succ_le h1)
  · exact absurd (show p∈([]:List (Addr×Obj))++[] from hp) (by simp)
theorem app_ok {E:Value→Shared→Prop}{D:Addr}{xs:List V}{y:V}{v:Value}{Q:Value→Shared→Prop}(I:Inv X pins σ H s) (hD:H D=some (.lst xs)) (hz:xs.length<sizeLine) (r:RelV y v)
    (h:∀ s',Inv X pins σ (upd H D (.lst (xs++[y]))) s'→Q .none s'):wpAny (model X.prog X.w) X.A (call (.builtin "list.append") [.ref D,v]) Q E s:=by
  obtain ⟨hz',its,n,ri,e⟩:=I.hok D _ hD
  have hl:=ri.length
  refine append_at (hsz:=by rw [List.size_toArray]; omega) e fun h' sb ho'=>?_
  refine h { s with heap:=h' } (I.write (t':=s.toks) (by rw [hD]; trivial) (.inl rfl) (fun b u hb q=>(sb.2 b hb).trans q) ⟨_,ho'⟩ ⟨by rw [List.length_append]; exact hz,its++[v],n+1,ri.append (.cons r .nil),?_⟩)
  rw [ho']
  simp
def PTs (X:Cx) (ifs:List Expr) (t:TT):Prop:=
  ∀ (pins:List (Addr×Obj)) (s:Shared) (σ:St) (H:Hp) (Q:Bool→Hp→Prop),Inv X pins σ H s→t σ H Q→
    wpAny (model X.prog X.w) X.A (forIn ifs true fun c r=>if r=true then do let ok←isTrue c X.env (eval c X.env); pure (ForInStep.yield ok) else pure (ForInStep.yield r)) (TP X pins σ Q) X.xe s
def tYes:TT:=fun _ H Q=>Q true H
theorem pts_nil:PTs X [] tYes:=fun _ _ _ H _ I h=>wpAny_tests_nil ⟨H,I,h⟩
theorem pts_one {c:Expr}{t:TT}(h:PT X c t):PTs X [c] t:=fun pins s σ H Q I hw=>wpAny_tests_one (h pins s σ H Q I hw)
end
theorem thnF {α:Type}{t:Sem α}{Q Q':α→Shared→Prop}{M:Model}{A:Around}{E:Value→Shared→Prop}{s:Shared}(h:wpAny M A t Q (fun _ _=>False) s) (hQ:∀ a s,Q a s→Q' a s):wpAny M A t Q' E s:=wpAny_mono h hQ fun _ _ z=>False.elim z
theorem compLoop_any {prog:Program}{w:World}{A:Around}{R:Result→Shared→Prop}{s:Shared}{elt target iter:Expr}{ifs:List Expr}{scope:Scope}{pos:Pos}{it acc:Value}{env:Env}(I:Nat→Shared→Prop)
    (turn:∀ n s,I n s→wpAny (model prog w) A (pyNext it) (fun r s₁=>match r with
      | none=>R (.ok .next) s₁
      | some v=>wpAny (model prog w) A (letOwnedTupleGo target it v) (fun _ s₁'=>wpAny (model prog w) A (assign target env v) (fun _ s₂=>
          wpAny (model prog w) A (forIn ifs true fun c r=>if r=true then do let ok←isTrue c env (eval c env); pure (ForInStep.yield ok) else pure (ForInStep.yield r)) (fun ok s₃=>
            if ok=true then wpAny (model prog w) A (eval elt env) (fun x s₄=>
              wpAny (model prog w) A (call (.builtin "list.append") [acc,x]) (fun _ s₅=>∃ m,m<n∧I m s₅) (notedBy (model prog w) A env fun e s'=>R (.error e) s') s₄) (notedBy (model prog w) A env fun e s'=>R (.error e) s') s₃
            else ∃ m,m<n∧I m s₃) (notedBy (model prog w) A env fun e s'=>R (.error e) s') s₂) (notedBy (model prog w) A env fun e s'=>R (.error e) s') s₁') (notedBy (model prog w) A env fun e s'=>R (.error e) s') s₁) (notedBy (model prog w) A env fun e s'=>R (.error e) s') s)
    (n:Nat) (h:I n s) :
    codeAny (model prog w) A (.compLoop (.ListComp elt [⟨target,iter,ifs,0⟩] scope pos) 0 it acc env) R s:=by
  refine codeAny_loop rfl I (fun n s hI=>?_) n h
  show wpAny _ A ((compTurn (.ListComp elt [⟨target,iter,ifs,0⟩] scope pos) 0 it acc env).onRaise (fun x=>do noteFrame x env; theTreesLotGoes x)) _ _ s
  refine wpAny_noted ?_
  rw [compTurn_list]
  refine wpAny_bind (wpAny_standAt (wpAny_bind (wpAny_mono (turn n s hI) (fun r s₁ h₁=>?_) fun _ _ h'=>h')))
  cases r with
  | none=>exact wpAny_pure h₁
  | some v=>
    refine wpAny_bind (wpAny_mono h₁ (fun _ s₁' h₁'=>?_) fun _ _ h'=>h')
    refine wpAny_bind (wpAny_mono h₁' (fun _ s₂ h₂=>wpAny_bind (wpAny_mono h₂ (fun ok s₃ h₃=>?_) fun _ _ h'=>h')) fun _ _ h'=>h')
    cases ok with
    | false=>exact wpAny_pure ⟨rfl,h₃⟩
    | true=>
      exact wpAny_bind (wpAny_bind (wpAny_mono h₃ (fun x s₄ h₄=>wpAny_bind (wpAny_mono h₄ (fun _ s₅ h₅=>wpAny_pure (wpAny_pure ⟨rfl,h₅⟩)) fun _ _ h'=>h')) fun _ _ h'=>h'))
section
variable {X:Cx}
def tLc (wi:TI) (g:TG) (tt:TT) (te:TE) (vs:List Nat):TE:=fun σ H Q=>wi σ H fun J H1=>∀ D,H1 D=none→∃ W:Nat→Nat→Hp→Prop,(∃ m,W 0 m (upd H1 D (.lst [])))∧∀ i m H,W i m H→
  (J.stop i H∧Q (.ref D) H)∨(J.go i H∧∃ Nx:Hp→Prop,(∀ H',Nx H'→∃ m',m'<m∧W (i+1) m' H')∧∀ x H',J.yld i H x H'→g x (wipe σ vs) H' fun σ2 H2=>wipe σ2 vs=wipe σ vs∧tt σ2 H2 fun b H3=>
    if b=true then te σ2 H3 fun y H4=>∃ acc,H4 D=some (.lst acc)∧acc.length<sizeLine∧Nx (upd H4 D (.lst (acc++[y]))) else Nx H3)
theorem lc_core {pins:List (Addr×Obj)}{s:Shared}{σ:St}{H:Hp}{Q:VK}{elt tg iter:Expr}{ifs:List Expr}{scope:Scope}{own:List (Str×Nat)}{pos pos':Pos}{wi:TI}{g:TG}{tt:TT}{te:TE}{use:Option (Value→Sem Unit)}{Qf:Value→Shared→Prop}
    (hc:X.calm=true) (hN:X.N.Nodup) (I:Inv X pins σ H s) (hi:PI X tg iter wi) (ok:BlkOk X.N X.env.scope scope own)
    (hg:∀ (s:Shared) (H:Hp) (C:Addr) (cl:List (Str×Addr)) (fp:List Addr),PG (X.blk s H scope (compEnvC scope cl C X.env) fp) tg g) (ht:∀ (s:Shared) (H:Hp) (C:Addr) (cl:List (Str×Addr)) (fp:List Addr),PTs (X.blk s H scope (compEnvC scope cl C X.env) fp) ifs tt)
    (he:∀ (s:Shared) (H:Hp) (C:Addr) (cl:List (Str×Addr)) (fp:List Addr),PE (X.blk s H scope (compEnvC scope cl C X.env) fp) elt te) (hs:∀ x,foldedSetIterable iter X.env x=pure x)
    (h:tLc wi g tt te (own.map (·.2)) σ H Q)
    (hRR:∀ D C s' m H',Inv X pins σ H' s'→Q (.ref D) H'→s'.heap.Ns C m→FpOk X pins H' C→compPost (model X.prog X.w) X.A X.xe use Qf (.ref D) C (.ok .next) s') :
    wpAny (model X.prog X.w) X.A (comprehension (.ListComp elt [⟨tg,iter,ifs,0⟩] scope pos) scope X.env pos' (newList []) false (eval iter X.env) use) Qf X.xe s:=by
  have hfree:∀ y∈scope.names,y.2=.free→∃ c,X.env.cells.lookup y.1=some c:=fun y hy e=>by
    rcases ok.free y hy e with k | k
    · exact I.ok.has _ (.inl k)
    · exact I.ok.has _ (.inr k)
  refine wpAny_comprehension_free (use:=use) rfl hs (closure_ok hfree) ok.kind (fun y hy e=>by rw [ok.uniq y hy,e])
    (thn (hi pins s σ H _ I h) fun xv s1 hx=>thn hx fun itv s2 h2=>?_)
  obtain ⟨it,fp,tn,J,H2,e,I2,T,st2,f2,q⟩:=h2
  subst e
  refine wpAny_newObj_type (newEnv_comp ?_) (by show 0≤sizeLine; decide)
  generalize hD:s2.heap.objs.size=D
  have hDn:H2 D=none:=I2.hok.fresh (Nat.le_of_eq hD)
  obtain ⟨W,⟨m0,w0⟩,turn⟩:=q D hDn
  generalize hs3:({ s2 with heap:=s2.heap.push { cls:=.type "list",data:=.seq ([]:List Value).toArray } }:Shared)=s3
  have I3:Inv X pins σ (upd H2 D (.lst [])) s3:=by
    rw [←hs3]
    refine I2.laid (t':=s2.toks) (fun b o e=>Heap.get?_push_of_some _ e) (Nat.le_of_eq hD) ⟨Nat.zero_le _,[],0,.nil,?_⟩
    rw [←hD]
    exact Heap.get?_push_size _ rfl
  have h3:s3.heap=s2.heap.push { cls:=.type "list",data:=.seq ([]:List Value).toArray }:=by rw [←hs3]
  have sz:∀ b∈fp,b<s2.heap.objs.size:=fun b hb=>by
    obtain ⟨o,e,_⟩:=T.obj _ _ st2 b hb
    exact Heap.lt_size e
  have f3:∀ b∈fp,FpOk X pins (upd H2 D (.lst [])) b∧b<s3.heap.objs.size:=fun b hb=>by
    have hlt:=sz b hb
    refine ⟨⟨?_,(f2 b hb).2⟩,by rw [h3,Heap.size_push]; exact Nat.lt_succ_of_lt hlt⟩
    rw [upd_ne (by rw [←hD]; exact Nat.ne_of_lt hlt)]
    exact (f2 b hb).1
  have st3:tn 0 s3.heap:=T.keep _ _ _ st2 fun b _ o e=>by rw [h3]; exact Heap.get?_push_of_some _ e
  have I4:=block_start I3 ok hN f3
  have pg:=hg s3 (upd H2 D (.lst [])) s3.heap.objs.size (cellsFrom (s3.heap.objs.size+1) scope.names (cloFrom X.env.cells scope.names [])) fp
  have pt:=ht s3 (upd H2 D (.lst [])) s3.heap.objs.size (cellsFrom (s3.heap.objs.size+1) scope.names (cloFrom X.env.cells scope.names [])) fp
  have pe:=he s3 (upd H2 D (.lst [])) s3.heap.objs.size (cellsFrom (s3.heap.objs.size+1) scope.names (cloFrom X.env.cells scope.names [])) fp
  show codeAny _ _ (.compStart (.ListComp elt [⟨tg,iter,ifs,0⟩] scope pos) 0 (.ref it) (.ref D) (compEnvC scope (cellsFrom (s3.heap.objs.size+1) scope.names (cloFrom X.env.cells scope.names [])) s3.heap.objs.size X.env)) (compPost (model X.prog X.w) X.A X.xe use Qf (.ref D) s3.heap.objs.size) { s3 with heap:=pushCells (s3.heap.push { cls:=.type "dict",data:=.dict #[] }) scope.names }
  have nfp:∀ b∈fp,(upd H2 D (.lst [])) b=none:=fun b hb=>(f3 b hb).1.1
  generalize hce:compEnvC scope (cellsFrom (s3.heap.objs.size+1) scope.names (cloFrom X.env.cells scope.names [])) s3.heap.objs.size X.env=ce at I4 pg pt pe ⊢
  have cL:ce.locals=s3.heap.objs.size:=by subst hce; rfl
  generalize hH3:upd H2 D (.lst [])=H3 at I3 I4 pg pt pe w0 nfp f3
  generalize hs4:({ s3 with heap:=pushCells (s3.heap.push { cls:=.type "dict",data:=.dict #[] }) scope.names }:Shared)=s4 at I4 ⊢
  have st4:tn 0 s4.heap:=T.keep _ _ _ st3 fun b _ o e=>by rw [←hs4]; exact pushCells_keeps _ _ _ _ (Heap.get?_push_of_some _ e)
  have stat:∀ {σ':St} {H':Hp} {s':Shared},Inv (X.blk s3 H3 scope ce fp) [] σ' H' s'→(∀ b∈fp,H' b=none)→∀ b∈fp,FpOk (X.blk s3 H3 scope ce fp) [] H' b:=fun {σ' H' s'} I' hn b hb=>
    ⟨hn b hb,(I'.ok.exf b hb).1,I'.ok.exfs b hb,.inl hb,fun x c e=>(I'.ok.exf b hb).2 x c e,fun p hp=>absurd (show p∈([]:List (Addr×Obj))++[] from hp) (by simp)⟩
  have loop:codeAny (model X.prog X.w) X.A (.compLoop (.ListComp elt [⟨tg,iter,ifs,0⟩] scope pos) 0 (.ref it) (.ref D) ce) (compPost (model X.prog X.w) X.A X.xe use Qf (.ref D) s3.heap.objs.size) s4:=by
    refine compLoop_any (fun n s'=>∃ i H',Inv (X.blk s3 H3 scope ce fp) [] (wipe σ (own.map (·.2))) H' s'∧tn i s'.heap∧(∀ b∈fp,H' b=none)∧W i n H') ?_ m0 ⟨0,H3,I4,st4,nfp,w0⟩
    rintro n s5 ⟨i,H5,I5,st5,n5,w5⟩
    rcases turn i n H5 w5 with ⟨stop,qq⟩ | ⟨go,Nx,hNx,step⟩
    · have td:=T.done (X.blk s3 H3 scope ce fp) rfl rfl rfl hc i [] s5 _ H5 (fun _ _=>False) I5 (stat I5 n5) st5 stop
      refine thnF td fun r s6 ⟨hr,I6⟩=>?_
      subst hr
      have I7:Inv X pins σ H5 s6:=I3.call' (ch:=fp) I6.os I6.base I6.hok I6.bare fun b hb=>⟨(f3 b hb).1.2.2.2.1,(f3 b hb).1.2.1,(f3 b hb).1.2.2.2.2.1,(f3 b hb).1.2.2.2.2.2⟩
      have nC:H5 s3.heap.objs.size=none:=by
        have z:H5 ce.locals=none:=I6.free
        rw [cL] at z
        exact z
      obtain ⟨m,hn,_⟩:=I6.loc
      have hn:s6.heap.Ns ce.locals m:=hn
      rw [cL] at hn
      exact hRR D s3.heap.objs.size s6 m H5 I7 qq hn (I3.fpOk (Nat.le_refl _) nC)
    · have ti:=T.item (X.blk s3 H3 scope ce fp) rfl rfl rfl hc i [] s5 _ H5 (fun _ _=>False) I5 (stat I5 n5) st5 go
      refine thnF ti fun r s6 ⟨u,hr,h6⟩=>?_
      subst hr
      refine thnF h6 fun _ s7 ⟨x,H7,I7,r7,y7,st7,n7⟩=>?_
      have I7':=I7.pinned (stat I7 n7) (T.obj _ _ st7)
      refine thnF (pg _ s7 _ H7 x u _ I7' r7 (step x H7 y7)) fun _ s8 ⟨σ8,H8,I8,hw8,q8⟩=>?_
      refine thnF (pt _ s8 σ8 H8 _ I8 q8) fun b s9 ⟨H9,I9,q9⟩=>?_
      have fin:∀ {s':Shared} {H':Hp},Inv (X.blk s3 H3 scope ce fp) ([]++pinsAt fp s7.heap) σ8 H' s'→Nx H'→∃ m,m<n∧∃ i H',Inv (X.blk s3 H3 scope ce fp) [] (wipe σ (own.map (·.2))) H' s'∧tn i s'.heap∧(∀ b∈fp,H' b=none)∧W i m H':=fun {s' H'} I' nx=>by
        obtain ⟨m',hm,w'⟩:=hNx H' nx
        have pin':∀ b∈fp,∀ o,s7.heap.get? b=some o→s'.heap.get? b=some o∧H' b=none:=fun b hb o e=>
          let z:=I'.pin (b,o) (List.mem_append_right _ (List.mem_append_right _ (mem_pinsAt hb e)))
          ⟨z.1,z.2.1⟩
        have hl:(wipe σ (own.map (·.2))).length=σ8.length:=by rw [←hw8,wipe_length]
        refine ⟨m',hm,i+1,H',(I'.unpinned (pins:=[])).weak hl (fun j v e=>?_),T.keep _ _ _ st7 fun b hb o e=>(pin' b hb o e).1,fun b hb=>?_,w'⟩
        · rw [←hw8] at e
          exact (wipe_some e).1
        · obtain ⟨o,e,_⟩:=T.obj _ _ st7 b hb
          exact (pin' b hb o e).2
      cases b with
      | false=>
        simp only [Bool.false_eq_true,if_false] at q9 ⊢
        exact fin I9 q9
      | true=>
        simp only [if_true] at q9 ⊢
        refine thnF (pe _ s9 σ8 H9 _ I9 q9) fun z s10 ⟨yv,H10,I10,r10,acc,hD10,hz10,nx⟩=>?_
        exact app_ok (X:=X.blk s3 H3 scope ce fp) I10 hD10 hz10 r10 fun s11 I11=>fin I11 nx
  exact codeAny_compStart_list loop (T.self X.A 0 _ _ _ st4 loop)
theorem pe_lc {elt tg iter:Expr}{ifs:List Expr}{scope:Scope}{own:List (Str×Nat)}{pos:Pos}{wi:TI}{g:TG}{tt:TT}{te:TE}(hc:X.calm=true) (hN:X.N.Nodup) (hi:PI X tg iter wi) (ok:BlkOk X.N X.env.scope scope own)
    (hg:∀ (s:Shared) (H:Hp) (C:Addr) (cl:List (Str×Addr)) (fp:List Addr),PG (X.blk s H scope (compEnvC scope cl C X.env) fp) tg g) (ht:∀ (s:Shared) (H:Hp) (C:Addr) (cl:List (Str×Addr)) (fp:List Addr),PTs (X.blk s H scope (compEnvC scope cl C X.env) fp) ifs tt)
    (he:∀ (s:Shared) (H:Hp) (C:Addr) (cl:List (Str×Addr)) (fp:List Addr),PE (X.blk s H scope (compEnvC scope cl C X.env) fp) elt te) (hs:∀ x,foldedSetIterable iter X.env x=pure x:=by intro _; rfl) :
    PE X (.ListComp elt [⟨tg,iter,ifs,0⟩] scope pos) (tLc wi g tt te (own.map (·.2))):=by
  intro pins s σ H Q I h
  rw [eval_ListComp]
  refine lc_core hc hN I hi ok hg ht he hs h fun D C s' m H' I' q hn f=>⟨m,hn,fun h'' sb=>?_⟩
  obtain ⟨f0,f1,f2,f3,f4,f5⟩:=f
  exact ⟨.ref D,H',I'.turned (t':=s'.toks) (fun b o hb e=>(sb.2 b hb).trans e) f0 f1 f3 f4 f5,rfl,q⟩
theorem ps_setLc {i:Nat}{y:Str}{py:Pos}{elt tg iter:Expr}{ifs:List Expr}{scope:Scope}{own:List (Str×Nat)}{pos spos:Pos}{wi:TI}{g:TG}{tt:TT}{te:TE}(hc:X.calm=true) (hN:X.N.Nodup) (hy:X.N[i]?=some y) (hyl:X.env.scope.names.lookup y=some .local)
    (hsw:swapsWith (.ListComp elt [⟨tg,iter,ifs,0⟩] scope pos) (some (.Name y py)) spos.line X.env=pure true) (hi:PI X tg iter wi) (ok:BlkOk X.N X.env.scope scope own)
    (hg:∀ (s:Shared) (H:Hp) (C:Addr) (cl:List (Str×Addr)) (fp:List Addr),PG (X.blk s H scope (compEnvC scope cl C X.env) fp) tg g) (ht:∀ (s:Shared) (H:Hp) (C:Addr) (cl:List (Str×Addr)) (fp:List Addr),PTs (X.blk s H scope (compEnvC scope cl C X.env) fp) ifs tt)
    (he:∀ (s:Shared) (H:Hp) (C:Addr) (cl:List (Str×Addr)) (fp:List Addr),PE (X.blk s H scope (compEnvC scope cl C X.env) fp) elt te) (hs:∀ x,foldedSetIterable iter X.env x=pure x:=by intro _; rfl) :
    PS X (.Assign [.Name y py] (.ListComp elt [⟨tg,iter,ifs,0⟩] scope pos) spos) (tAsg (tLc wi g tt te (own.map (·.2))) (gName i)):=by
  intro pins s σ H D I h
  rw [exec_Assign_Name_used _ _ _ _ hsw]
  refine wpAny_bind (wpAny_standAt (wpAny_bind ?_))
  show wpAny _ X.A (do let _←comprehension (.ListComp elt [⟨tg,iter,ifs,0⟩] scope pos) scope X.env (firstIterPos [⟨tg,iter,ifs,0⟩] pos) (newList []) false (eval iter X.env) (some (assign (.Name y py) X.env))) _ _ s
  have h:tLc wi g tt te (own.map (·.2)) σ H (fun x H1=>gName i x σ H1 D.nx):=h
  refine wpAny_bind (thn (lc_core (Qf:=fun _ s'=>SP X pins D .next s') hc hN I hi ok hg ht he hs h fun L C s' m H' I' q hn f=>?_) fun _ s' hq=>wpAny_pure (wpAny_pure hq))
  show wpAny _ _ (assign (.Name y py) X.env (.ref L)) _ _ _
  refine wpAny_assign_Name (store_ok2 (v:=V.ref L) I' hN hy (.inl hyl) rfl (fun s2 I2 ⟨a,sb,ha⟩=>?_) (.inr hyl))
  obtain ⟨f0,f1,f2,f3,f4,f5⟩:=f
  have haC:C≠a:=by
    rcases ha with z | z
    · rw [z]; exact f1
    · exact fun e=>f4 y a z e.symm
  refine ⟨m,hn.sameBut sb haC,fun h3 sb3=>?_⟩
  exact ⟨_,H',I2.turned (t':=s2.toks) (fun b o hb e=>(sb3.2 b hb).trans e) f0 f1 f3 f4 f5,q⟩
theorem sw_true {elt:Expr}{gs:List Comprehension}{scope:Scope}{pos py:Pos}{y:Str}{l:Nat}{env:Env}(hk:env.scope.kind=.function) (hy:env.scope.names.lookup y=some .local) (hl:(py.line==pos.line)=true)
    (ha:(scope.names.any fun (n,k)=>n==y&&(k==.local || k==.cell))=false):swapsWith (.ListComp elt gs scope pos) (some (.Name y py)) l env=pure true:=by
  have ky:env.kindOf y=some .local:=hy
  have hb:env.blockKind=.function:=by unfold Env.blockKind; rw [hk]; rfl
  unfold swapsWith
  simp only [hb,ky,ha,Expr.pos,hl]
  rfl
end
theorem lc_range {lo:Int}{n:Nat}{g:TG}{tt:TT}{te:TE}{vs:List Nat}{σ:St}{H1:Hp}{D:Addr}{Qd:Hp→Prop}(Pv:Nat→Hp→Prop) (h0:Pv 0 (upd H1 D (.lst [])))
    (hs:∀ i H,i<n→Pv i H→g (.int (lo+i)) (wipe σ vs) H fun σ2 H2=>wipe σ2 vs=wipe σ vs∧tt σ2 H2 fun b H3=>
      if b=true then te σ2 H3 fun y H4=>∃ acc,H4 D=some (.lst acc)∧acc.length<sizeLine∧Pv (i+1) (upd H4 D (.lst (acc++[y]))) else Pv (i+1) H3) (hd:∀ H,Pv n H→Qd H) :
    ∃ W:Nat→Nat→Hp→Prop,(∃ m,W 0 m (upd H1 D (.lst [])))∧∀ i m H,W i m H→
      ((Itr lo n).stop i H∧Qd H)∨((Itr lo n).go i H∧∃ Nx:Hp→Prop,(∀ H',Nx H'→∃ m',m'<m∧W (i+1) m' H')∧∀ x H',(Itr lo n).yld i H x H'→g x (wipe σ vs) H' fun σ2 H2=>wipe σ2 vs=wipe σ vs∧tt σ2 H2 fun b H3=>
        if b=true then te σ2 H3 fun y H4=>∃ acc,H4 D=some (.lst acc)∧acc.length<sizeLine∧Nx (upd H4 D (.lst (acc++[y]))) else Nx H3):=by
  refine ⟨fun i m H=>m=n-i∧i≤n∧Pv i H,⟨n,by simp,Nat.zero_le _,h0⟩,?_⟩
  rintro i m H ⟨rfl,hi,p⟩
  by_cases hlt:i<n
  · refine .inr ⟨hlt,Pv (i+1),fun H' p'=>⟨n-(i+1),by omega,rfl,hlt,p'⟩,fun x H' y=>?_⟩
    obtain ⟨e,y⟩:=y
    subst e y
    exact hs i _ hlt p
  · have e:i=n:=by omega
    subst e
    exact .inl ⟨Nat.le_refl _,hd H p⟩
theorem lc_list {K:PySem.W.Frag}{a:Addr}{xs:List V}{g:TG}{tt:TT}{te:TE}{vs:List Nat}{σ:St}{H1:Hp}{D:Addr}{Qd:Hp→Prop}(Pv:Nat→Hp→Prop) (h0:Pv 0 (upd H1 D (.lst []))) (hl:∀ i H,i≤xs.length→Pv i H→SqL K H a xs)
    (hs:∀ i x H,xs[i]?=some x→Pv i H→g x (wipe σ vs) H fun σ2 H2=>wipe σ2 vs=wipe σ vs∧tt σ2 H2 fun b H3=>
      if b=true then te σ2 H3 fun y H4=>∃ acc,H4 D=some (.lst acc)∧acc.length<sizeLine∧Pv (i+1) (upd H4 D (.lst (acc++[y]))) else Pv (i+1) H3) (hd:∀ H,Pv xs.length H→Qd H) :
    ∃ W:Nat→Nat→Hp→Prop,(∃ m,W 0 m (upd H1 D (.lst [])))∧∀ i m H,W i m H→
      ((Itl K a).stop i H∧Qd H)∨((Itl K a).go i H∧∃ Nx:Hp→Prop,(∀ H',Nx H'→∃ m',m'<m∧W (i+1) m' H')∧∀ x H',(Itl K a).yld i H x H'→g x (wipe σ vs) H' fun σ2 H2=>wipe σ2 vs=wipe σ vs∧tt σ2 H2 fun b H3=>
        if b=true then te σ2 H3 fun y H4=>∃ acc,H4 D=some (.lst acc)∧acc.length<sizeLine∧Nx (upd H4 D (.lst (acc++[y]))) else Nx H3):=by
  refine ⟨fun i m H=>m=xs.length-i∧i≤xs.length∧Pv i H,⟨xs.length,by simp,Nat.zero_le _,h0⟩,?_⟩
  rintro i m H ⟨rfl,hi,p⟩
  have q:=hl i H hi p
  by_cases hlt:i<xs.length
  · refine .inr ⟨⟨xs,xs[i],q,by simp [hlt]⟩,Pv (i+1),fun H' p'=>⟨xs.length-(i+1),by omega,rfl,hlt,p'⟩,fun x H' y=>?_⟩
    obtain ⟨e,y⟩:=y
    subst e
    exact hs i x _ (y xs q) p
  · have e:i=xs.length:=by omega
    subst e
    exact .inl ⟨⟨xs,q,Nat.le_refl _⟩,hd H p⟩
theorem lc_tup {K:PySem.W.Frag}{a:Addr}{xs:List V}{g:TG}{tt:TT}{te:TE}{vs:List Nat}{σ:St}{H1:Hp}{D:Addr}{Qd:Hp→Prop}(Pv:Nat→Hp→Prop) (h0:Pv 0 (upd H1 D (.lst []))) (hl:∀ i H,i≤xs.length→Pv i H→SqT K H a xs)
    (hs:∀ i x H,xs[i]?=some x→Pv i H→g x (wipe σ vs) H fun σ2 H2=>wipe σ2 vs=wipe σ vs∧tt σ2 H2 fun b H3=>
      if b=true then te σ2 H3 fun y H4=>∃ acc,H4 D=some (.lst acc)∧acc.length<sizeLine∧Pv (i+1) (upd H4 D (.lst (acc++[y]))) else Pv (i+1) H3) (hd:∀ H,Pv xs.length H→Qd H) :
    ∃ W:Nat→Nat→Hp→Prop,(∃ m,W 0 m (upd H1 D (.lst [])))∧∀ i m H,W i m H→
      ((Itt K a).stop i H∧Qd H)∨((Itt K a).go i H∧∃ Nx:Hp→Prop,(∀ H',Nx H'→∃ m',m'<m∧W (i+1) m' H')∧∀ x H',(Itt K a).yld i H x H'→g x (wipe σ vs) H' fun σ2 H2=>wipe σ2 vs=wipe σ vs∧tt σ2 H2 fun b H3=>
        if b=true then te σ2 H3 fun y H4=>∃ acc,H4 D=some (.lst acc)∧acc.length<sizeLine∧Nx (upd H4 D (.lst (acc++[y]))) else Nx H3):=by
  refine ⟨fun i m H=>m=xs.length-i∧i≤xs.length∧Pv i H,⟨xs.length,by simp,Nat.zero_le _,h0⟩,?_⟩
  rintro i m H ⟨rfl,hi,p⟩
  have q:=hl i H hi p
  by_cases hlt:i<xs.length
  · refine .inr ⟨⟨xs,xs[i],q,by simp [hlt]⟩,Pv (i+1),fun H' p'=>⟨xs.length-(i+1),by omega,rfl,hlt,p'⟩,fun x H' y=>?_⟩
    obtain ⟨e,y⟩:=y
    subst e
    exact hs i x _ (y xs q) p
  · have e:i=xs.length:=by omega
    subst e
    exact .inl ⟨⟨xs,q,Nat.le_refl _⟩,hd H p⟩
def blkC (N:List Str) (sc scope:Scope) (own:List (Str×Nat)):Bool:=
  (match scope.kind with | .function=>true | _=>false)&&(scope.names.all fun y=>decide (scope.names.lookup y.1=some y.2))&&(own.all fun p=>decide (N[p.2]?=some p.1))&&
    (scope.names.all fun y=>match y.2 with
      | .free=>(match sc.names.lookup y.1 with | some .cell=>true | some .free=>true | _=>false)
      | .local=>decide (y.1∈own.map (·.1)) || decide (y.1 ∉ N)
      | .cell=>decide (y.1∈own.map (·.1)) || decide (y.1 ∉ N)
      | _=>true)
theorem blkOk_by {N:List Str}{sc scope:Scope}{own:List (Str×Nat)}(h:blkC N sc scope own=true):BlkOk N sc scope own:=by
  unfold blkC at h
  simp only [Bool.and_eq_true,List.all_eq_true,decide_eq_true_eq] at h
  obtain ⟨⟨⟨h1,h2⟩,h3⟩,h4⟩:=h
  refine ⟨?_,h2,h3,fun y hy e=>?_,fun y hy e=>?_⟩
  · split at h1
    · assumption
    · cases h1
  · have q:=h4 y hy
    simp only [e] at q
    split at q <;> first | exact .inl (by assumption) | exact .inr (by assumption) | cases q
  · have q:=h4 y hy
    rcases e with e | e <;> (simp only [e,Bool.or_eq_true,decide_eq_true_eq] at q; exact q)
end L2
namespace L2
open PySem PySem.Spec PyProof.Rows
end L2
namespace L2
open PySem PySem.Spec PyProof.Rows
section
variable {κ:Type} [DecidableEq κ]
def valV (kvs:List (κ×V)) (k:κ):Option V:=(kvs.find? fun kv=>decide (kv.1=k)).map (·.2)
def putK (kvs:List (κ×V)) (k:κ) (v:V):List (κ×V):=
  if (kvs.any fun kv=>decide (kv.1=k))=true then kvs.map (fun kv=>if kv.1=k then (kv.1,v) else kv) else kvs++[(k,v)]
theorem valV_pos {p:κ×V}{r:List (κ×V)}{k:κ}(e:p.1=k):valV (p::r) k=some p.2:=by simp [valV,List.find?_cons,e]
theorem valV_neg {p:κ×V}{r:List (κ×V)}{k:κ}(e:¬p.1=k):valV (p::r) k=valV r k:=by simp [valV,List.find?_cons,e]
theorem valV_any (k:κ):∀ kvs:List (κ×V),(kvs.any fun kv=>decide (kv.1=k))=(valV kvs k).isSome
  | []=>rfl
  | p::r=>by
    rw [List.any_cons]
    by_cases e:p.1=k
    · simp only [valV_pos e,decide_eq_true e,Bool.true_or,Option.isSome_some]
    · rw [valV_neg e,decide_eq_false e,Bool.false_or]; exact valV_any k r
theorem length_putK (kvs:List (κ×V)) (k:κ) (v:V):(putK kvs k v).length≤kvs.length+1:=by
  unfold putK
  split
  · rw [List.length_map]; omega
  · rw [List.length_append,List.length_cons,List.length_nil]; omega
theorem RelO.isSome_eq {o:Option V}{u:Option Value}(r:RelO o u):o.isSome=u.isSome:=by
  cases o with
  | none=>cases u with
    | none=>rfl
    | some _=>exact (show False from r).elim
  | some _=>cases u with
    | none=>exact (show False from r).elim
    | some _=>rfl
theorem RelO.getD {o:Option V}{u:Option Value}{d:V}{d':Value}(r:RelO o u) (rd:RelV d d'):RelV (o.getD d) (u.getD d'):=by
  cases o with
  | none=>cases u with
    | none=>exact rd
    | some _=>exact (show False from r).elim
  | some _=>cases u with
    | none=>exact (show False from r).elim
    | some _=>exact r
theorem KV.val {kvs:List (κ×V)}{vs:List (κ×Value)}(r:KV kvs vs) (k:κ):RelO (valV kvs k) (valueAt vs k):=by
  unfold KV at r
  induction r with
  | nil=>exact True.intro
  | @cons p q ps qs h t ih=>
    obtain ⟨h1,h2⟩:=h
    by_cases e:p.1=k
    · have e':q.1=k:=h1.symm.trans e
      have b:valueAt (q::qs) k=some q.2:=by simp [valueAt,List.find?_cons,e']
      rw [valV_pos e,b]; exact h2
    · have e':¬q.1=k:=fun z=>e (h1.trans z)
      have b:valueAt (q::qs) k=valueAt qs k:=by simp [valueAt,List.find?_cons,e']
      rw [valV_neg e,b]; exact ih
theorem KV.any {kvs:List (κ×V)}{vs:List (κ×Value)}(r:KV kvs vs) (k:κ):(kvs.any fun kv=>decide (kv.1=k))=vs.any fun kv=>decide (kv.1=k):=by
  unfold KV at r
  induction r with
  | nil=>rfl
  | cons h t ih=>rw [List.any_cons,List.any_cons,ih,h.1]
theorem KV.repl {kvs:List (κ×V)}{vs:List (κ×Value)}(r:KV kvs vs) (k:κ) {y:V}{u:Value}(ry:RelV y u) :
    KV (kvs.map fun kv=>if kv.1=k then (kv.1,y) else kv) (vs.map fun kv=>if kv.1=k then (kv.1,u) else kv):=by
  unfold KV at r ⊢
  induction r with
  | nil=>exact .nil
  | @cons p q ps qs h t ih=>
    rw [List.map_cons,List.map_cons]
    refine .cons ?_ ih
    obtain ⟨h1,h2⟩:=h
    by_cases e:p.1=k
    · rw [if_pos e,if_pos (h1.symm.trans e)]; exact ⟨h1,ry⟩
    · rw [if_neg e,if_neg (fun z=>e (h1.trans z))]; exact ⟨h1,h2⟩
theorem KV.put {kvs:List (κ×V)}{vs:List (κ×Value)}(r:KV kvs vs) (k:κ) {y:V}{u:Value}(ry:RelV y u):KV (putK kvs k y) (stored vs k u):=by
  unfold putK stored
  rw [r.any k]
  by_cases e:(vs.any fun kv=>decide (kv.1=k))=true
  · rw [if_pos e,if_pos e]; exact r.repl k ry
  · rw [if_neg e,if_neg e]; exact Paired.snoc r ⟨rfl,ry⟩
theorem KV.length {kvs:List (κ×V)}{vs:List (κ×Value)}(r:KV kvs vs):kvs.length=vs.length:=Paired.length r
end
theorem kV_is {P:Program}{w:World}{k:Key}{u:Value}(r:RelV (kV k) u):(mixKind P w).is k u=true:=by
  cases k with
  | inl i=>obtain ⟨t,e⟩:=(show ∃ t,u=Value.int i t from r); subst e; exact mixKind_int P w i t
  | inr x=>obtain ⟨t,e⟩:=(show ∃ t,u=Value.str x t from r); subst e; exact mixKind_str P w x t
theorem items_are {P:Program}{w:World}:∀ {ks:List Key}{us:List Value},Vals (ks.map kV) us→ItemsAre (mixKind P w) ks us
  | [],_,r=>by rw [List.map_nil] at r; cases r; exact .nil
  | k::ks,_,r=>by
    rw [List.map_cons] at r
    cases r with
    | cons h t=>exact .cons (kV_is h) (items_are t)
abbrev KT (H:Hp):List (List Key×V)→List (List Key×Addr×Value)→Prop:=Paired fun p q=>p.1=q.1∧H q.2.1=some (.tup (p.1.map kV))∧RelV p.2 q.2.2
theorem KT.val {H:Hp}{kvs:List (List Key×V)}{xs:List (List Key×Addr×Value)}(r:KT H kvs xs) (k:List Key):RelO (valV kvs k) ((atKey xs k).map (·.2)):=by
  induction r with
  | nil=>exact True.intro
  | @cons p q ps qs h t ih=>
    obtain ⟨h1,_,h2⟩:=h
    by_cases e:p.1=k
    · have e':q.1=k:=h1.symm.trans e
      have b:atKey (q::qs) k=some q.2:=by simp [atKey,List.find?_cons,e']
      rw [valV_pos e,b]; exact h2
    · have e':¬q.1=k:=fun z=>e (h1.trans z)
      have b:atKey (q::qs) k=atKey qs k:=by simp [atKey,List.find?_cons,e']
      rw [valV_neg e,b]; exact ih
theorem KT.repl {H:Hp}{kvs:List (List Key×V)}{xs:List (List Key×Addr×Value)}(r:KT H kvs xs) (k:List Key) {y:V}{u:Value}(ry:RelV y u) :
    KT H (kvs.map fun kv=>if kv.1=k then (kv.1,y) else kv) (xs.map (putAt k u)):=by
  induction r with
  | nil=>exact .nil
  | @cons p q ps qs h t ih=>
    rw [List.map_cons,List.map_cons]
    refine .cons ?_ ih
    obtain ⟨h1,h2,h3⟩:=h
    unfold putAt
    by_cases e:p.1=k
    · rw [if_pos e,if_pos (h1.symm.trans e)]; exact ⟨h1,h2,ry⟩
    · rw [if_neg e,if_neg (fun z=>e (h1.trans z))]; exact ⟨h1,h2,h3⟩
theorem KT.put {H:Hp}{kvs:List (List Key×V)}{xs:List (List Key×Addr×Value)}(r:KT H kvs xs) (k:List Key) {b:Addr}{y:V}{u:Value}(hb:H b=some (.tup (k.map kV))) (ry:RelV y u) :
    KT H (putK kvs k y) (storedH xs k b u):=by
  have e:(kvs.any fun kv=>decide (kv.1=k))=(atKey xs k).isSome:=by
    rw [valV_any,(r.val k).isSome_eq,Option.isSome_map]
  unfold putK storedH
  rw [e]
  by_cases q:(atKey xs k).isSome=true
  · rw [if_pos q,if_pos q]; exact r.repl k ry
  · rw [if_neg q,if_neg q]; exact Paired.snoc r ⟨rfl,hb,ry⟩
theorem KT.keeps {H H':Hp}{kvs:List (List Key×V)}{xs:List (List Key×Addr×Value)}(r:KT H kvs xs) (ht:∀ b ys,H b=some (.tup ys)→H' b=some (.tup ys)):KT H' kvs xs:=
  Paired.mapP r fun _ _ z=>⟨z.1,ht _ _ z.2.1,z.2.2⟩
section
variable {P:Program}{w:World}{H:Hp}{h:Heap}{a:Addr}
theorem rd_of {u:HO}(ok:HOk P w H h) (e:Rd H a u):ObjOk P w H h a u:=e.ok ok
theorem dk_rd {kvs:List (Key×V)}(ok:HOk P w H h) (e:Rd H a (.dK kvs)):kvs.length≤sizeLine∧(a==sysModules)=false∧∃ vs,KV kvs vs∧h.DictOf (mixKind P w) a vs:=
  show ObjOk P w H h a (.dK kvs) from rd_of ok e
theorem dk_of {kvs:List (Key×V)}(ok:HOk P w H h) (e:H a=some (.dK kvs)):kvs.length≤sizeLine∧(a==sysModules)=false∧∃ vs,KV kvs vs∧h.DictOf (mixKind P w) a vs:=dk_rd ok (.inl e)
theorem key_of {ks:List Key}(ok:HOk P w H h) (e:H a=some (.tup (ks.map kV))):(tupleKind (mixKind P w)).is h ks a:=by
  obtain ⟨_,its,r,o,h1,h2,n,h3⟩:=(show ObjOk P w H h a (.tup (ks.map kV)) from ok a _ e)
  exact ⟨o,its.toArray,n,h1,h2,h3,by simpa using items_are r⟩
theorem dt_rd {kvs:List (List Key×V)}(ok:HOk P w H h) (e:Rd H a (.dT kvs)):kvs.length≤sizeLine∧(a==sysModules)=false∧
    ∃ xs,KT H kvs xs∧h.DictOfH (tupleKind (mixKind P w)) a xs:=by
  obtain ⟨z,y,xs,r,o,es,ep,h1,h2,h3,h4,h5⟩:=(show ObjOk P w H h a (.dT kvs) from rd_of ok e)
  refine ⟨z,y,xs,r,o,es,ep,h1,h2,h3,h4,fun x hx=>?_,h5⟩
  have all:∀ {l:List (List Key×V)} {m:List (List Key×Addr×Value)},KT H l m→∀ x∈m,(tupleKind (mixKind P w)).is h x.1 x.2.1:=by
    intro l m q
    induction q with
    | nil=>intro x hx; exact nomatch hx
    | @cons p q ps qs hq t ih=>
      intro x hx
      rcases List.mem_cons.mp hx with e | hx
      · subst e
        exact key_of ok (by rw [←hq.1]; exact hq.2.1)
      · exact ih x hx
  exact all r x hx
theorem dt_of {kvs:List (List Key×V)}(ok:HOk P w H h) (e:H a=some (.dT kvs)):kvs.length≤sizeLine∧(a==sysModules)=false∧
    ∃ xs,KT H kvs xs∧h.DictOfH (tupleKind (mixKind P w)) a xs:=dt_rd ok (.inl e)
end
def DGet (H:Hp) (a:Addr) (y:V) (r:Option V):Prop:=
  (∃ kvs k,Rd H a (.dK kvs)∧y=kV k∧r=valV kvs k)∨∃ kvs k b,Rd H a (.dT kvs)∧y=.ref b∧H b=some (.tup (k.map kV))∧r=valV kvs k
def DPut (H:Hp) (a:Addr) (y v:V) (H':Hp):Prop:=
  (∃ kvs k,H a=some (.dK kvs)∧y=kV k∧kvs.length<sizeLine∧H'=upd H a (.dK (putK kvs k v)))∨
  ∃ kvs k b,H a=some (.dT kvs)∧y=.ref b∧H b=some (.tup (k.map kV))∧kvs.length<sizeLine∧H'=upd H a (.dT (putK kvs k v))
theorem DGet.k {H:Hp}{a:Addr}{kvs:List (Key×V)}{k:Key}(e:H a=some (.dK kvs)):DGet H a (kV k) (valV kvs k):=.inl ⟨kvs,k,.inl e,rfl,rfl⟩
theorem DPut.k {H:Hp}{a:Addr}{kvs:List (Key×V)}{k:Key}{v:V}(e:H a=some (.dK kvs)) (hl:kvs.length<sizeLine):DPut H a (kV k) v (upd H a (.dK (putK kvs k v))):=.inl ⟨kvs,k,e,rfl,hl,rfl⟩
section
variable {X:Cx}{pins:List (Addr×Obj)}{σ:St}{H:Hp}{s:Shared}{a:Addr}{y v:V}{u r:Value}{o:Option V}{A:Around}{E:Value→Shared→Prop}
theorem Inv.big (I:Inv X pins σ H s):sysModules<s.heap.objs.size:=by
  have h:mainGlobals<s.heap.objs.size:=(I.mod.glob.keeps I.bk).lt
  exact Nat.lt_trans (by decide) h
theorem d_getItem {Q:Value→Shared→Prop}(hu:A.units+1<cLine) (I:Inv X pins σ H s) (g:DGet H a y (some v)) (ry:RelV y u) (h:∀ w' s',Inv X pins σ H s'→RelV v w'→Q w' s') :
    wpAny (model X.prog X.w) A (getItem (.ref a) u) Q E s:=by
  rcases g with ⟨kvs,k,e,ey,l⟩ | ⟨kvs,k,b,e,ey,eb,l⟩
  · subst ey
    obtain ⟨z,hd,vs,rel,dd⟩:=dk_rd I.hok e
    obtain ⟨w',hw,rw'⟩:=RelO.some_of (v:=v) (o:=valueAt vs k) (by rw [l]; exact rel.val k)
    exact wpAny_getItem_of (kV_is ry) dd.mapOf hw (h w' _ (I.tok _) rw')
  · subst ey
    cases (show u=Value.ref b from ry)
    obtain ⟨z,hd,xs,rel,dd⟩:=dt_rd I.hok e
    obtain ⟨w',hw,rw'⟩:=RelO.some_of (v:=v) (o:=(atKey xs k).map (·.2)) (by rw [l]; exact rel.val k)
    obtain ⟨p,hp,hp2⟩:=Option.map_eq_some_iff.mp hw
    refine wpAny_getItem_heap (tupleKind_room_in1 hu) (key_of I.hok eb) dd hp ?_
    rw [hp2]
    exact h w' _ (I.tok _) rw'
theorem d_write {h':Heap}{t':Nat}{ob:HO}(I:Inv X pins σ H s) (mu:Mut (H a)) (hs:Heap.SameBut a s.heap h') (he:∃ q,h'.get? a=some q) (new:ObjOk X.prog X.w (upd H a ob) h' a ob) :
    Inv X pins σ (upd H a ob) { s with heap:=h',toks:=t' }:=
  I.write (x:=a) (e:=a) mu (.inl rfl) (fun b q hb z=>(hs.2 b hb).trans z) he new
theorem dk_new {P:Program}{w:World}{H':Hp}{h':Heap}{kvs:List (Key×V)}{vs:List (Key×Value)}(z:kvs.length≤sizeLine) (hd:(a==sysModules)=false) (rel:KV kvs vs) (dd:h'.DictOf (mixKind P w) a vs) :
    ObjOk P w H' h' a (.dK kvs):=⟨z,hd,vs,rel,dd⟩
theorem d_setItem {H':Hp}{Q:Unit→Shared→Prop}(hu:A.units+1<cLine) (I:Inv X pins σ H s) (g:DPut H a y v H') (ry:RelV y u) (rv:RelV v r) (h:∀ s',Inv X pins σ H' s'→Q () s') :
    wpAny (model X.prog X.w) A (setItem (.ref a) u r) Q E s:=by
  rcases g with ⟨kvs,k,e,ey,l,eH⟩ | ⟨kvs,k,b,e,ey,eb,l,eH⟩
  · subst ey eH
    obtain ⟨z,hd,vs,rel,dd⟩:=dk_of I.hok e
    have hz:vs.length≤sizeLine:=by rw [←rel.length]; exact z
    have hl:(putK kvs k v).length≤sizeLine:=by have:=length_putK kvs k v; omega
    refine wpAny_setItem_pairs (hsz:=hz) (kV_is ry) dd fun h' dd' hs=>h _ ?_
    have he:∃ q,h'.get? a=some q:=let ⟨q,_,_,hq,_⟩:=dd'; ⟨q,hq⟩
    exact d_write I (by rw [e]; exact True.intro) hs he (dk_new hl hd (rel.put k rv) dd')
  · subst ey eH
    cases (show u=Value.ref b from ry)
    obtain ⟨z,hd,xs,rel,dd⟩:=dt_of I.hok e
    have hz:xs.length≤sizeLine:=by rw [←Paired.length rel]; exact z
    have hl:(putK kvs k v).length≤sizeLine:=by have:=length_putK kvs k v; omega
    refine wpAny_setItem_heap (hsz:=hz) (tupleKind_room_in1 hu) (key_of I.hok eb) dd fun h' dd' hs=>h _ ?_
    obtain ⟨q,es,ep,hq,h2,h3,h4,_,h5⟩:=dd'
    refine d_write I (by rw [e]; exact True.intro) hs ⟨q,hq⟩ ⟨hl,hd,_,(rel.put k eb rv).keeps fun c ys ec=>?_,q,es,ep,hq,h2,h3,h4,h5⟩
    rw [upd_ne (ne_of ec e (fun z=>nomatch z))]
    exact ec
end
def NoSl (i:Expr):Prop:=∀ ov iv,subscripted i false ov iv=operate [ov,iv] (getItem ov iv)
theorem subD_of {prog:Program}{w:World}{A:Around}{E:Value→Shared→Prop}{s:Shared}{env:Env}{value slice:Expr}{pos:Pos}{T id:String}{Q:Value→Shared→Prop}
    (hl:typeLookup (.type T) "__getitem__" = pure (some (.builtin id))) (hs:NoSl slice)
    (h:wpAny (model prog w) A (eval value env) (fun o s₁=>wpAny (model prog w) A (eval slice env) (fun i s₂=>s₂.TypeIs o T∧wpAny (model prog w) A (getItem o i) Q E s₂) E s₁) E s) :
    wpAny (model prog w) A (eval (.Subscript value slice pos) env) Q E s:=by
  refine Subscript_ (wpAny_mono h (fun o s₁ h₁=>wpAny_mono h₁ (fun i s₂ h₂=>?_) fun _ _ x=>x) fun _ _ x=>x)
  obtain ⟨hT,h₂⟩:=h₂
  unfold subscriptTail
  refine wpAny_bind ?_
  rw [getitemInPython_of_ne hT.not_modules]
  refine wpAny_bind (wpAny_specialOf hT hl ?_)
  have fin:wpAny (model prog w) A (subscripted slice false o i) (fun r s₃=>wpAny (model prog w) A (letTemporaryGo value o r >>= fun _=>pure r) Q E s₃) E s₂:=by
    rw [hs o i]
    exact wpAny_operating (wpAny_mono h₂ (fun r s₃ h₃=>wpAny_bind (wpAny_letTemporaryGo (wpAny_pure h₃))) fun _ _ x=>x)
  first
    | exact wpAny_pure (wpAny_bind fin)
    | exact wpAny_bind (wpAny_pure (wpAny_bind fin))
    | exact wpAny_bind fin
theorem dict_typeIs {X:Cx}{pins:List (Addr×Obj)}{σ:St}{H:Hp}{s:Shared}{a:Addr}{y:V}{o:Option V}(I:Inv X pins σ H s) (g:DGet H a y o):s.TypeIs (.ref a) "dict" := by
  rcases g with ⟨kvs,k,e,_,_⟩ | ⟨kvs,k,b,e,_,_,_⟩
  · obtain ⟨_,_,vs,_,dd⟩:=dk_rd I.hok e
    exact dd.typeIs
  · obtain ⟨_,_,xs,_,dd⟩:=dt_rd I.hok e
    exact dd.typeIs
def tDGet (td ty:TE):TE:=fun σ H Q=>td σ H fun x H1=>ty σ H1 fun y H2=>∃ a v,x=.ref a∧DGet H2 a y (some v)∧Q v H2
def sDPut (td ty tv:TE):TS:=fun D σ H=>tv σ H fun v H1=>td σ H1 fun x H2=>ty σ H2 fun y H3=>∃ a H4,x=.ref a∧DPut H3 a y v H4∧D.nx σ H4
section
variable {X:Cx}{o i e value:Expr}{pos pos' tpos:Pos}{td ty tv:TE}
theorem pe_dget (hu:X.A.units+1<cLine) (ho:PE X o td) (hi:PE X i ty) (hs:NoSl i):PE X (.Subscript o i pos) (tDGet td ty):=by
  intro pins s σ H Q I h
  refine subD_of PySem.F.slot_dict_getitem.lookup hs (thn (ho pins s σ H _ I h) fun u s1 ⟨x,H1,I1,rx,q1⟩=>thn (hi pins s1 σ H1 _ I1 q1) fun iv s2 ⟨y,H2,I2,ry,a,v,ex,g,q2⟩=>?_)
  subst ex
  obtain rfl:u=Value.ref a:=rx
  exact ⟨dict_typeIs I2 g,d_getItem hu I2 g ry fun w' s3 I3 rw'=>⟨v,H2,I3,rw',q2⟩⟩
theorem ps_dput (hu:X.A.units+1<cLine) (ho:PE X o td) (hi:PE X i ty) (hv:PE X value tv) (hs:swapsWith value (some (.Subscript o i pos')) pos.line X.env=pure false) :
    PS X (.Assign [.Subscript o i pos'] value pos) (sDPut td ty tv):=by
  intro pins s σ H D I h
  refine wpAny_Assign_Subscript (thn (hv pins s σ H _ I h) fun r s1 ⟨v,H1,I1,rv,q1⟩=>thn (ho pins s1 σ H1 _ I1 q1) fun u s2 ⟨x,H2,I2,rx,q2⟩=>thn (hi pins s2 σ H2 _ I2 q2) fun iv s3 ⟨y,H3,I3,ry,a,H4,ex,g,q3⟩=>?_) hs
  subst ex
  obtain rfl:u=Value.ref a:=rx
  exact d_setItem hu I3 g ry rv fun s4 I4=>⟨σ,H4,I4,q3⟩
end
theorem dk_empty {P:Program}{w:World}{H:Hp}(h:Heap) (hb:sysModules<h.objs.size):ObjOk P w H (h.push { cls:=.type "dict",data:=.dict #[] }) h.objs.size (.dK []):=
  ⟨Nat.zero_le _,beq_eq_false_iff_ne.mpr (Ne.symm (Nat.ne_of_lt hb)),[],.nil,Heap.DictOf.new h⟩
def tDNewK:TE:=fun _ H Q=>∀ p,H p=none→Q (.ref p) (upd H p (.dK []))
section
variable {X:Cx}{pos:Pos}
theorem pe_dnewK:PE X (.Dict [] [] pos) tDNewK:=fun pins s σ H Q I h=>
  wpAny_Dict_empty ⟨.ref s.heap.objs.size,_,I.laid (a:=s.heap.objs.size) (o:=.dK []) (t':=s.toks) (fun _ _ q=>Heap.get?_push_of_some _ q) (Nat.le_refl _) (dk_empty s.heap I.big),rfl,h _ (I.hok.fresh (Nat.le_refl _))⟩
end
structure M2 (X:Cx) (o:Expr) (m:Str) (apos:Pos) (e f:Expr) (cpos:Pos):Prop where
  base:attributeBase o m X.env (eval o X.env)=eval o X.env
  few:((backTo cpos (starEach [e,f] X.env)).all (fun x=>!x.1)&&(backToKw cpos (keywordEach [] X.env)).all (fun x=>x.1.isSome)
    && decide (([e,f]:List Expr).length+([]:List Keyword).length+(if ([]:List Keyword).isEmpty then 0 else 1)<30))=true
  line:(apos.endLine==cpos.line)=true
  trees:backTo cpos (starEach [e,f] X.env)=[(false,eval e X.env),(false,eval f X.env)]
def IsD (H:Hp) (a:Addr):Prop:=(∃ kvs,Rd H a (.dK kvs))∨∃ kvs,Rd H a (.dT kvs)
theorem isD_at {X:Cx}{pins:List (Addr×Obj)}{σ:St}{H:Hp}{s:Shared}{a:Addr}(I:Inv X pins σ H s) (d:IsD H a) :
    s.TypeIs (.ref a) "dict" ∧ (∀ b,Value.ref a=.ref b→∃ ob,s.heap.get? b=some ob∧ob.dict=none)∧(a==sysModules)=false:=by
  rcases d with ⟨kvs,e⟩ | ⟨kvs,e⟩
  · obtain ⟨_,hd,vs,_,dd⟩:=dk_rd I.hok e
    refine ⟨dd.typeIs,fun b q=>?_,hd⟩
    cases q
    obtain ⟨ob,_,_,h1,h2,_⟩:=dd
    exact ⟨ob,h1,h2.2.1⟩
  · obtain ⟨_,hd,xs,_,dd⟩:=dt_rd I.hok e
    refine ⟨dd.typeIs,fun b q=>?_,hd⟩
    cases q
    obtain ⟨ob,_,_,h1,h2,_⟩:=dd
    exact ⟨ob,h1,h2.2.1⟩
section
variable {X:Cx}{pins:List (Addr×Obj)}{σ:St}{H:Hp}{s:Shared}{a:Addr}{y d:V}{u r:Value}{o:Option V}{A:Around}{E:Value→Shared→Prop}
theorem d_get2 {Q:Value→Shared→Prop}(hu:A.units+1<cLine) (I:Inv X pins σ H s) (g:DGet H a y o) (ry:RelV y u) (rd:RelV d r) (h:∀ w' s',Inv X pins σ H s'→RelV (o.getD d) w'→Q w' s') :
    wpAny (model X.prog X.w) A (call (.builtin "dict.get") [.ref a,u,r]) Q E s:=by
  rcases g with ⟨kvs,k,e,ey,l⟩ | ⟨kvs,k,b,e,ey,eb,l⟩
  · subst ey
    obtain ⟨z,hd,vs,rel,dd⟩:=dk_rd I.hok e
    refine call_meetsIn PySem.F.slot_dict_get dd.typeIs PySem.F.entry_dict_get (PySem.F.args_dict_get_3 _ _ _) (meets_dict_get_default (mixKind X.prog X.w) a (kV_is ry) hd r) ⟨_,dd.mapOf,h _ _ (I.tok _) ?_⟩
    rw [l]
    exact (rel.val k).getD rd
  · subst ey
    cases (show u=Value.ref b from ry)
    obtain ⟨z,hd,xs,rel,dd⟩:=dt_rd I.hok e
    refine call_meetsIn PySem.F.slot_dict_get dd.typeIs PySem.F.entry_dict_get (PySem.F.args_dict_get_3 _ _ _) (meetsH_dict_get_default (tupleKind (mixKind X.prog X.w)) a b hd r) ⟨tupleKind_room_in1 hu,k,xs,key_of I.hok eb,dd,h _ _ (I.tok _) ?_⟩
    rw [l]
    exact (rel.val k).getD rd
end
def tDGet2 (td ty tx:TE):TE:=fun σ H Q=>td σ H fun x H1=>∃ a,x=.ref a∧IsD H1 a∧ty σ H1 fun y H2=>tx σ H2 fun z H3=>∃ o,DGet H3 a y o∧Q (o.getD z) H3
section
variable {X:Cx}{o e f:Expr}{apos cpos:Pos}{td ty tx:TE}
theorem pe_dget2 (hu:X.A.units+1<cLine) (ho:PE X o td) (he:PE X e ty) (hf:PE X f tx) (m:M2 X o "get" apos e f cpos):PE X (.Call (.Attribute o "get" apos) [e,f] [] cpos) (tDGet2 td ty tx):=by
  intro pins s σ H Q I h
  refine wpAny_Call_method m.base m.few m.line PySem.F.plainAttrs_dict PySem.F.slot_dict_get PySem.F.type_dict_get (thn (ho pins s σ H _ I h) fun u s1 ⟨x,H1,I1,rx,a,ex,d,q1⟩=>?_)
  subst ex
  obtain rfl:u=Value.ref a:=rx
  obtain ⟨t1,t2,_⟩:=isD_at I1 d
  refine ⟨t1,t2,?_⟩
  rw [m.trees]
  refine Calls.callWith_builtin rfl (Calls.evalArgs_plain (Calls.spliced_cons (thn (he pins s1 σ H1 _ I1 q1) fun iv s2 ⟨y,H2,I2,ry,q2⟩=>
    Calls.spliced_cons (thn (hf pins s2 σ H2 _ I2 q2) fun fv s3 ⟨z,H3,I3,rz,ov,g,q3⟩=>Calls.spliced_nil ?_))))
  exact d_get2 hu I3 g ry rz fun w' s4 I4 rw'=>⟨_,H3,I4,rw',q3⟩
end
end L2
namespace L2
open PySem PySem.Spec PyProof.Rows
end L2
namespace L2
open PySem PySem.Spec PyProof.Rows
section
variable {X:Cx}{pins:List (Addr×Obj)}{σ:St}{H:Hp}{s:Shared}{h':Heap}
theorem Inv.turnedL {t':Nat}{ch:List Addr}(I:Inv X pins σ H s) (k:∀ b o,b ∉ ch→s.heap.get? b=some o→h'.get? b=some o) (hf:∀ b∈ch,FpOk X pins H b):Inv X pins σ H { s with heap:=h',toks:=t' }:=by
  have nit:∀ b u,H b=some u→b ∉ ch:=fun b u e z=>by
    have q:=(hf b z).1
    rw [q] at e; cases e
  refine I.step (g':=s.gens) (d':=s.drawn) (ch:=ch) (fun b hb=>⟨(hf b hb).2.2.2.1,(hf b hb).2.1,(hf b hb).2.2.2.2.1,(hf b hb).2.2.2.2.2⟩) (fun b o _ _ hc e _=>k b o hc e) (fun b o _ _ hc e _=>⟨o.slots,k b o hc e⟩)
    (fun _ _ _ _ n=>n) (fun b o hc e=>⟨o,k b o hc e⟩) (fun _ _ e=>e) (fun _ _ _ e=>e) (fun b ps e=>⟨#[],by rw [e]; simp⟩) (fun m hm=>?_) (fun b u e=>?_) I.bare
  · obtain ⟨o,es,ep,ho,r⟩:=hm
    exact ⟨o,es,ep,k _ o (fun z=>(hf _ z).2.1 rfl) ho,r⟩
  · refine (I.hok b u e).stay (fun c v hc q=>k c v ?_ q) (fun _ q=>q) fun _ _ q=>q
    rcases hc with z | z
    · rw [z]; exact nit b u e
    · exact nit c _ z
theorem Inv.turnedNew {t':Nat}{ch:List Addr}{T:Addr}{ob:HO}(I:Inv X pins σ H s) (k:∀ b o,b ∉ ch→s.heap.get? b=some o→h'.get? b=some o) (hf:∀ b∈ch,FpOk X pins H b) (hT:s.heap.objs.size≤T)
    (new:ObjOk X.prog X.w (upd H T ob) h' T ob):Inv X pins σ (upd H T ob) { s with heap:=h',toks:=t' }:=by
  have hn:H T=none:=I.hok.fresh hT
  have nit:∀ b u,H b=some u→b ∉ ch:=fun b u e z=>by
    have q:=(hf b z).1
    rw [q] at e; cases e
  refine I.step (g':=s.gens) (d':=s.drawn) (ch:=ch) (fun b hb=>⟨(hf b hb).2.2.2.1,(hf b hb).2.1,(hf b hb).2.2.2.2.1,(hf b hb).2.2.2.2.2⟩) (fun b o _ _ hc e _=>k b o hc e) (fun b o _ _ hc e _=>⟨o.slots,k b o hc e⟩)
    (fun b o _ e n=>?_) (fun b o hc e=>⟨o,k b o hc e⟩) (fun b xs e=>?_) (fun b o u e=>?_) (fun b ps e=>⟨#[],?_⟩) (fun m hm=>?_) (fun b u e=>?_) I.bare
  · rw [upd_ne (Nat.ne_of_lt (Nat.lt_of_lt_of_le (Heap.lt_size e) hT))]; exact n
  · rw [upd_ne (ne_of_none e hn)]; exact e
  · rw [upd_ne (ne_of_none e hn)]; exact e
  · rw [upd_ne (ne_of_none e hn),e]; simp
  · obtain ⟨o,es,ep,ho,r⟩:=hm
    exact ⟨o,es,ep,k _ o (fun z=>(hf _ z).2.1 rfl) ho,r⟩
  · by_cases hb:b=T
    · subst hb
      rw [upd_same] at e
      cases e
      exact new
    · rw [upd_ne hb] at e
      refine (I.hok b u e).stay (fun c v hc q=>k c v ?_ q) (fun c q=>by rw [upd_ne (ne_of_none q hn)]; exact q) fun c xs q=>by rw [upd_ne (ne_of_none q hn)]; exact q
      rcases hc with z | z
      · rw [z]; exact nit b u e
      · exact nit c _ z
end
section
variable {X:Cx}
theorem pi_one {tg:Expr}{pins:List (Addr×Obj)}{σ:St}{H:Hp}{s:Shared}{R:It→Hp→Prop}{J:It}{tn:Nat→Heap→Prop}{tk:Nat}(I:Inv X pins σ H s) (o:Obj)
    (T:Turn X.prog X.w X.K tg J [s.heap.objs.size] s.heap.objs.size tn) (st:tn 0 (s.heap.push o)) (q:R J H):PIE X pins σ tg R (.ref s.heap.objs.size) { s with heap:=s.heap.push o,toks:=tk }:=by
  refine ⟨s.heap.objs.size,[s.heap.objs.size],tn,J,H,rfl,I.kept fun b ob e=>Heap.get?_push_of_some _ e,T,st,fun b hb=>?_,q⟩
  have e:b=s.heap.objs.size:=by simpa using hb
  subst e
  exact I.fpOk (Nat.le_refl _) (I.hok.fresh (Nat.le_refl _))
end
def Itc (lo c:Int) (n:Nat):It:=⟨fun i _=>i<n,fun i H x H'=>H'=H∧x=.int (lo+(i:Nat) * c),fun i _=>n≤i⟩
theorem turn_rangeC {P:Program}{w:World}{K:PySem.W.Frag}{tg:Expr}(it:Addr) (lo c:Int) (n:Nat):Turn P w K tg (Itc lo c n) [it] it (fun i h=>IsRangeIter h it (lo+(i:Nat) * c) ((n:Int)-(i:Nat)) c) where
  mem:=by simp
  obj:=fun i h st b hb=>by
    have e:b=it:=by simpa using hb
    subst e
    exact ⟨_,st,fun v z=>nomatch z⟩
  keep:=fun i h h' st k=>k it (by simp) _ st
  item:=by
    intro X hP hw hK hc i pins s σ H E I hf st hg
    subst hP hw hK
    obtain ⟨f0,f1,f2,f3,f4,f5⟩:=hf it (by simp)
    have W:=Walks.range (prog:=X.prog) (w:=X.w) (I.ok.hd hc) it lo c n
    refine W.item i s _ _ hg st fun v h' tk hv st' kk=>?_
    obtain ⟨t,rfl⟩:=hv
    have I1:Inv X pins σ H { s with heap:=h',toks:=tk }:=I.turned (fun b o hb e=>kk b o (by simpa using hb) e) f0 f1 f3 f4 f5
    exact ⟨_,rfl,go_of (s:={ s with heap:=h',toks:=tk }) (n := "range_iterator") st' rfl rfl (by decide) ⟨.int (lo+(i:Nat) * c),H,I1,⟨t,rfl⟩,⟨rfl,rfl⟩,st',fun b hb=>(hf b hb).1⟩⟩
  done:=by
    intro X hP hw hK hc i pins s σ H E I hf st hg
    subst hP hw hK
    obtain ⟨f0,f1,f2,f3,f4,f5⟩:=hf it (by simp)
    exact wpAny_pyNext_range_end (I.ok.hd hc) st (by have:n≤i:=hg; omega) fun h' eb=>⟨rfl,I.turned (t':=s.toks) (fun b o hb e=>eb b o hb e) f0 f1 f3 f4 f5⟩
  self:=fun A i s Q E st h=>wpAny_pyIter_rangeiter st h
def RgC (i j c:Int) (n:Nat):Prop:=c≠0∧c.natAbs<1073741824∧Builtin.Range.small i j c=true∧Builtin.Range.rangeSize i j c=n
def iRng3 (ta:TA):TI:=fun σ H R=>ta σ H fun vs H1=>∃ (i j c:Int) (n:Nat),vs=[.int i,.int j,.int c]∧RgC i j c n∧R (Itc i c n) H1
section
variable {X:Cx}{tg:Expr}
theorem pi_range3 {a b c:Expr}{ta:TA}{p pos:Pos}(hg:Gl X "range") (hm:X.mg "range" = none) (ha:PA X [a,b,c] ta)
    (hs:starEach [a,b,c] X.env=(false,eval a X.env)::starEach [b,c] X.env:=by rfl) (hpl:(backTo pos (starEach [b,c] X.env)).any (·.1)=false:=by rfl) :
    PI X tg (.Call (.Name "range" p) [a,b,c] [] pos) (iRng3 ta):=by
  intro pins s σ H R I h
  refine Call_ (ld_blt I hg hm boot_range (PyProof.Rows.callWith_type1 (thn (ha pos pins s σ H _ I h) fun us s1 ⟨vs,H1,I1,r1,q1⟩=>?_) hs hpl))
  obtain ⟨i,j,k,n,e,⟨c0,c1,c2,c3⟩,q⟩:=q1
  subst e
  cases r1 with
  | cons r rr=>
    cases rr with
    | cons r' rr=>
      cases rr with
      | cons r'' rr=>
        cases rr
        obtain ⟨t,rfl⟩:=r
        obtain ⟨t',rfl⟩:=r'
        obtain ⟨t'',rfl⟩:=r''
        refine call_range_3 c0 ?_ (.inl (PyProof.noPylong_small c1))
        refine wpAny_pyIter_range (IsRange.new ..) c2 ?_
        have I2:Inv X pins σ H1 { s1 with heap:=s1.heap.push { cls:=.type "range",data:=.fields #[.int i t,.int j t',.int k t''] } }:=I1.kept (t':=s1.toks) fun b o e=>Heap.get?_push_of_some _ e
        refine pi_one (tk:=s1.toks) I2 _ (turn_rangeC _ i k n) ?_ q
        have e1:i+((0:Nat):Int) * k=i:=by simp
        have e2:(n:Int)-((0:Nat):Int)=Builtin.Range.rangeSize i j k:=by rw [c3]; simp
        show IsRangeIter _ _ (i+((0:Nat):Int) * k) ((n:Int)-((0:Nat):Int)) k
        rw [e1,e2]
        exact Heap.get?_push_size _ rfl
end
theorem for_rangeC {lo c:Int}{n:Nat}{g:TG}{tb:TS}{D:Ends}{σ:St}{H:Hp}(Pv:Nat→St→Hp→Prop) (h0:Pv 0 σ H)
    (hs:∀ i σ H,i<n→Pv i σ H→g (.int (lo+(i:Nat) * c)) σ H fun σ2 H2=>tb { D with nx:=Pv (i+1),ct:=Pv (i+1),bk:=D.nx } σ2 H2) (hd:∀ σ H,Pv n σ H→D.nx σ H) :
    ∃ W:Nat→Nat→St→Hp→Prop,(∃ m,W 0 m σ H)∧∀ i m σ H,W i m σ H→
      ((Itc lo c n).stop i H∧D.nx σ H)∨((Itc lo c n).go i H∧∃ N:St→Hp→Prop,(∀ σ' H',N σ' H'→∃ m',m'<m∧W (i+1) m' σ' H')∧∀ x H',(Itc lo c n).yld i H x H'→g x σ H' fun σ2 H2=>tb { D with nx:=N,ct:=N,bk:=D.nx } σ2 H2):=by
  refine ⟨fun i m σ H=>m=n-i∧i≤n∧Pv i σ H,⟨n,by simp,Nat.zero_le _,h0⟩,?_⟩
  rintro i m σ H ⟨rfl,hi,p⟩
  by_cases hlt:i<n
  · refine .inr ⟨hlt,Pv (i+1),fun σ' H' p'=>⟨n-(i+1),by omega,rfl,hlt,p'⟩,fun x H' y=>?_⟩
    obtain ⟨e,y⟩:=y
    subst e y
    exact hs i σ _ hlt p
  · have e:i=n:=by omega
    subst e
    exact .inl ⟨Nat.le_refl _,hd σ H p⟩
def Its (x:Str):It:=⟨fun i _=>i<x.cps.size,fun i H v H'=>H'=H∧∃ c,x.cps[i]?=some c∧v=.str ⟨#[c]⟩,fun i _=>x.cps.size≤i⟩
theorem turn_str {P:Program}{w:World}{K:PySem.W.Frag}{tg:Expr}(it:Addr) (x:Str) (t:Tok) (ty:String) (hty:ty = "str_ascii_iterator" ∨ ty = "str_iterator") :
    Turn P w K tg (Its x) [it] it (fun i h=>h.IsStrIter it ty x t i) where
  mem:=by simp
  obj:=fun i h st b hb=>by
    have e:b=it:=by simpa using hb
    subst e
    obtain ⟨o,e,c,d⟩:=st
    exact ⟨o,e,fun v z=>by rw [d] at z; cases z⟩
  keep:=fun i h h' st k=>let ⟨o,ho,r⟩:=st; ⟨o,k it (by simp) o ho,r⟩
  item:=by
    intro X hP hw hK hc i pins s σ H E I hf st hg
    subst hP hw hK
    obtain ⟨f0,f1,f2,f3,f4,f5⟩:=hf it (by simp)
    have W:Walks X.prog X.w X.A it [it] [it] x.cps.size (SignAt x) (fun i h=>h.IsStrIter it ty x t i):=by
      rcases hty with e | e
      · rw [e]; exact Walks.strAscii (I.ok.hd hc) it x t
      · rw [e]; exact Walks.strWide (I.ok.hd hc) it x t
    have hno:["enumerate", "zip", "dict_itemiterator", "dict_reverseitemiterator", "odict_iterator", "itertools.zip_longest", "itertools.pairwise"].contains ty=false:=by
      rcases hty with e | e
      · rw [e]; decide
      · rw [e]; decide
    refine W.item i s _ _ hg st fun v h' tk hv st' kk=>?_
    obtain ⟨c,u,hcx,rfl⟩:=hv
    have I1:Inv X pins σ H { s with heap:=h',toks:=tk }:=I.turned (fun b o hb e=>kk b o (by simpa using hb) e) f0 f1 f3 f4 f5
    obtain ⟨oi,e,cc,dd⟩:=id st'
    exact ⟨_,rfl,go_of (s:={ s with heap:=h',toks:=tk }) e cc dd hno ⟨.str ⟨#[c]⟩,H,I1,⟨u,rfl⟩,⟨rfl,c,hcx,rfl⟩,st',fun b hb=>(hf b hb).1⟩⟩
  done:=by
    intro X hP hw hK hc i pins s σ H E I hf st hg
    subst hP hw hK
    obtain ⟨f0,f1,f2,f3,f4,f5⟩:=hf it (by simp)
    have hx:x.cps[i]?=none:=Array.getElem?_eq_none hg
    rcases hty with e | e
    · rw [e] at st
      exact wpAny_pyNext_ascii_end (I.ok.hd hc) st hx fun h' eb=>⟨rfl,I.turned (t':=s.toks) (fun b o hb e=>eb b o hb e) f0 f1 f3 f4 f5⟩
    · rw [e] at st
      exact wpAny_pyNext_wide_end (I.ok.hd hc) st hx fun h' eb=>⟨rfl,I.turned (t':=s.toks) (fun b o hb e=>eb b o hb e) f0 f1 f3 f4 f5⟩
  self:=fun A i s Q E st h=>by
    rcases hty with e | e
    · rw [e] at st; exact wpAny_pyIter_striter_ascii st h
    · rw [e] at st; exact wpAny_pyIter_striter_wide st h
def iStr (te:TE):TI:=fun σ H R=>te σ H fun v H1=>∃ x,v=.str x∧R (Its x) H1
theorem pi_str {X:Cx}{tg e:Expr}{te:TE}(he:PE X e te):PI X tg e (iStr te):=by
  intro pins s σ H R I h
  refine thn (he pins s σ H _ I h) fun v s1 ⟨y,H1,I1,r1,x,ex,q⟩=>?_
  subst ex
  obtain ⟨t,rfl⟩:=r1
  cases ha:x.cps.all (· < 128)
  · exact wpAny_pyIter_wide ha (pi_one (tk:=s1.toks) I1 _ (turn_str _ x t "str_iterator" (.inr rfl)) ⟨_,Heap.get?_push_size _ rfl,rfl,rfl⟩ q)
  · exact wpAny_pyIter_ascii ha (pi_one (tk:=s1.toks) I1 _ (turn_str _ x t "str_ascii_iterator" (.inl rfl)) ⟨_,Heap.get?_push_size _ rfl,rfl,rfl⟩ q)
def Ite (K:PySem.W.Frag) (a:Addr):It:=
  ⟨fun i H=>∃ (xs:List V) (x:V),SqL K H a xs∧xs[i]?=some x,fun i H v H'=>∃ T x,v=.ref T∧H T=none∧H'=upd H T (.tup [.int (i:Nat),x])∧∀ xs,SqL K H a xs→xs[i]?=some x,fun i H=>∃ xs:List V,SqL K H a xs∧xs.length≤i⟩
theorem turn_enum {P:Program}{w:World}{K:PySem.W.Frag}{elts:List Expr}{kk:Nat}{tpos:Pos}(a e it:Addr) :
    Turn P w K (.Tuple elts kk tpos) (Ite K a) [e,it] e (fun i h=>(∃ old,IsEnum h e it ((i:Nat):Int) old)∧h.IsListIter it a i∧e≠it) where
  mem:=by simp
  obj:=fun i h st b hb=>by
    obtain ⟨⟨old,he⟩,⟨o,ho,hc,hd⟩,_⟩:=st
    have e':b=e∨b=it:=by simpa using hb
    rcases e' with z | z
    · rw [z]; exact ⟨_,he,fun v q=>nomatch q⟩
    · rw [z]; exact ⟨o,ho,fun v q=>by rw [hd] at q; cases q⟩
  keep:=fun i h h' st k=>let ⟨⟨old,he⟩,hi,hne⟩:=st; ⟨⟨old,k e (by simp) _ he⟩,hi.at fun o q=>k it (by simp) o q,hne⟩
  item:=by
    intro X hP hw hK hc i pins s σ H E I hf st hg
    subst hP hw hK
    obtain ⟨⟨old,he⟩,hit,hne⟩:=st
    obtain ⟨xs,x,hq,hx⟩:=hg
    obtain ⟨its,rv,p,hz⟩:=I.list hq
    obtain ⟨u,hu,ru⟩:=rv.get hx
    have hel:e<s.heap.objs.size:=Heap.lt_size he
    have hil:it<s.heap.objs.size:=by obtain ⟨_,q,_⟩:=hit; exact Heap.lt_size q
    refine wpAny_pyNext_enum_item he hit p.isList (x:=u) (by simpa using hu) hne fun h' ho hit' hT hsz hk=>?_
    refine ⟨_,rfl,wpAny_letOwnedTupleGo_enum (s:={ s with heap:=h',toks:=s.toks+1 }) ho fun h'' he' sb=>?_⟩
    have hT2:h''.get? s.heap.objs.size=some { cls:=.type "tuple",data:=.seq #[.int i s.toks,u] }:=(sb.2 _ (Nat.ne_of_gt hel)).trans hT
    have new:ObjOk X.prog X.w (upd H s.heap.objs.size (.tup [.int (i:Nat),x])) h'' s.heap.objs.size (.tup [.int (i:Nat),x]):=
      ⟨by show 2≤sizeLine; decide,[.int i s.toks,u],.cons ⟨_,rfl⟩ (.cons ru .nil),⟨_,hT2,rfl,_,rfl⟩⟩
    have I1:Inv X pins σ (upd H s.heap.objs.size (.tup [.int (i:Nat),x])) { s with heap:=h'',toks:=s.toks+1 }:=
      I.turnedNew (ch:=[e,it]) (fun b ob hb q=>(sb.2 b (fun z=>hb (by simp [z]))).trans (hk b ob (fun z=>hb (by simp [z])) (fun z=>hb (by simp [z])) q)) hf (Nat.le_refl _) new
    refine ⟨.ref s.heap.objs.size,_,I1,rfl,⟨_,x,rfl,I.hok.fresh (Nat.le_refl _),rfl,fun ys hy=>by rw [I.list_inj hy hq]; exact hx⟩,⟨⟨u,?_⟩,hit'.at fun o q=>(sb.2 it (Ne.symm hne)).trans q,hne⟩,fun b hb=>?_⟩
    · have e1:((i+1:Nat):Int)=(i:Int)+1:=by omega
      rw [e1]; exact he'
    · have hb':b<s.heap.objs.size:=by
        have e':b=e∨b=it:=by simpa using hb
        rcases e' with z | z
        · rw [z]; exact hel
        · rw [z]; exact hil
      rw [upd_ne (Nat.ne_of_lt hb')]
      exact (hf b hb).1
  done:=by
    intro X hP hw hK hc i pins s σ H E I hf st hg
    subst hP hw hK
    obtain ⟨⟨old,he⟩,hit,hne⟩:=st
    obtain ⟨xs,hq,hx⟩:=hg
    obtain ⟨its,rv,p,hz⟩:=I.list hq
    obtain ⟨f0,f1,f2,f3,f4,f5⟩:=hf it (by simp)
    have hl:=rv.length
    exact wpAny_pyNext_enum_end (I.ok.hd hc) he hit p.isList (by simp; omega) fun h' eb=>⟨rfl,I.turned (t':=s.toks) (fun b o hb q=>eb b o hb q) f0 f1 f3 f4 f5⟩
  self:=fun A i s Q E st h=>let ⟨⟨_,he⟩,_⟩:=st; wpAny_pyIter_enum he h
def iEnum (K:PySem.W.Frag) (ta:TA):TI:=fun σ H R=>ta σ H fun vs H1=>∃ a xs,vs=[.ref a]∧SqL K H1 a xs∧R (Ite K a) H1
theorem pi_enum {X:Cx}{e:Expr}{ta:TA}{p pos tpos:Pos}{elts:List Expr}{kk:Nat}(hg:Gl X "enumerate") (hm:X.mg "enumerate" = none) (ha:PA X [e] ta) (hs:starEach [e] X.env=[(false,eval e X.env)]:=by rfl) :
    PI X (.Tuple elts kk tpos) (.Call (.Name "enumerate" p) [e] [] pos) (iEnum X.K ta):=by
  intro pins s σ H R I h
  refine Call_ (ld_blt I hg hm boot_enumerate (PyProof.Rows.callWith_type1 (thn (ha pos pins s σ H _ I h) fun us s1 ⟨vs,H1,I1,r1,q1⟩=>?_) hs rfl))
  obtain ⟨a,xs,ex,hq,q⟩:=q1
  subst ex
  cases r1 with
  | cons r rr=>
    cases rr
    cases r
    obtain ⟨its,rv,p',hz⟩:=I1.list hq
    refine call_enumerate_list p'.isList fun h' he hit hsz hk=>wpAny_pyIter_enum he ?_
    have I2:Inv X pins σ H1 { s1 with heap:=h' }:=I1.kept (t':=s1.toks) hk
    refine ⟨s1.heap.objs.size+1,[s1.heap.objs.size+1,s1.heap.objs.size],_,_,H1,rfl,I2,turn_enum a (s1.heap.objs.size+1) s1.heap.objs.size,⟨⟨.none,he⟩,hit,Nat.succ_ne_self _⟩,fun b hb=>?_,q⟩
    have e':b=s1.heap.objs.size+1∨b=s1.heap.objs.size:=by simpa using hb
    have hle:s1.heap.objs.size≤b:=by
      rcases e' with z | z
      · rw [z]; exact Nat.le_add_right _ _
      · rw [z]; exact Nat.le_refl _
    exact I1.fpOk hle (I1.hok.fresh hle)
theorem boot_zip5:bootBuiltins "zip" = some (.type "zip"):=by decide +kernel
def Itz (K:PySem.W.Frag) (a b:Addr):It:=
  ⟨fun i H=>∃ (xs ys:List V) (x y:V),SqL K H a xs∧SqL K H b ys∧xs[i]?=some x∧ys[i]?=some y,
    fun i H v H'=>∃ T x y,v=.ref T∧H T=none∧H'=upd H T (.tup [x,y])∧(∀ xs,SqL K H a xs→xs[i]?=some x)∧∀ ys,SqL K H b ys→ys[i]?=some y,
    fun i H=>∃ xs ys:List V,SqL K H a xs∧SqL K H b ys∧(xs.length≤i∨ys.length≤i)⟩
theorem turn_zip {P:Program}{w:World}{K:PySem.W.Frag}{elts:List Expr}{kk:Nat}{tpos:Pos}{a b z TI TO i1 i2:Addr}(D:ZipApart z TI TO i1 i2 a b) :
    Turn P w K (.Tuple elts kk tpos) (Itz K a b) [z,TI,TO,i1,i2] z (fun i h=>IsZip h z TI TO .none∧IsPair h TI (.ref i1) (.ref i2)∧(∃ x y,IsPair h TO x y)∧h.IsListIter i1 a i∧h.IsListIter i2 b i) where
  mem:=by simp
  obj:=fun i h st c hc=>by
    obtain ⟨hz,hTI,⟨x,y,hTO⟩,⟨o1,e1,_,d1⟩,⟨o2,e2,_,d2⟩⟩:=st
    have e':c=z∨c=TI∨c=TO∨c=i1∨c=i2:=by simpa using hc
    rcases e' with q | q | q | q | q
    · rw [q]; exact ⟨_,hz,fun v q=>nomatch q⟩
    · rw [q]; exact ⟨_,hTI,fun v q=>nomatch q⟩
    · rw [q]; exact ⟨_,hTO,fun v q=>nomatch q⟩
    · rw [q]; exact ⟨o1,e1,fun v q=>by rw [d1] at q; cases q⟩
    · rw [q]; exact ⟨o2,e2,fun v q=>by rw [d2] at q; cases q⟩
  keep:=fun i h h' st k=>by
    obtain ⟨hz,hTI,⟨x,y,hTO⟩,h1,h2⟩:=st
    exact ⟨k z (by simp) _ hz,k TI (by simp) _ hTI,⟨x,y,k TO (by simp) _ hTO⟩,h1.at fun o q=>k i1 (by simp) o q,h2.at fun o q=>k i2 (by simp) o q⟩
  item:=by
    intro X hP hw hK hc i pins s σ H E I hf st hg
    subst hP hw hK
    obtain ⟨hz,hTI,⟨x0,y0,hTO⟩,h1,h2⟩:=st
    obtain ⟨xs,ys,x,y,hqx,hqy,hx,hy⟩:=hg
    obtain ⟨its,rv,p,_⟩:=I.list hqx
    obtain ⟨its2,rv2,p2,_⟩:=I.list hqy
    obtain ⟨u,hu,ru⟩:=rv.get hx
    obtain ⟨u2,hu2,ru2⟩:=rv2.get hy
    have hzl:z<s.heap.objs.size:=Heap.lt_size hz
    refine wpAny_pyNext_zip_item D hz hTI hTO h1 h2 p.isList p2.isList (x:=u) (y:=u2) (by simpa using hu) (by simpa using hu2) fun h' z' TO' h1' h2' hT hsz hk=>?_
    refine ⟨_,rfl,wpAny_letOwnedTupleGo_zip (s:={ s with heap:=h' }) z' fun h'' z'' sb=>?_⟩
    have hT2:h''.get? s.heap.objs.size=some { cls:=.type "tuple",data:=.seq #[u,u2] }:=(sb.2 _ (Nat.ne_of_gt hzl)).trans hT
    have new:ObjOk X.prog X.w (upd H s.heap.objs.size (.tup [x,y])) h'' s.heap.objs.size (.tup [x,y]):=
      ⟨by show 2≤sizeLine; decide,[u,u2],.cons ru (.cons ru2 .nil),⟨_,hT2,rfl,_,rfl⟩⟩
    have I1:Inv X pins σ (upd H s.heap.objs.size (.tup [x,y])) { s with heap:=h'' }:=
      I.turnedNew (t':=s.toks) (ch:=[z,TI,TO,i1,i2]) (fun c o hb q=>(sb.2 c (fun q'=>hb (by simp [q']))).trans (hk c o (fun q'=>hb (by simp [q'])) (fun q'=>hb (by simp [q'])) (fun q'=>hb (by simp [q'])) (fun q'=>hb (by simp [q'])) q)) hf (Nat.le_refl _) new
    refine ⟨.ref s.heap.objs.size,_,I1,rfl,⟨_,x,y,rfl,I.hok.fresh (Nat.le_refl _),rfl,fun l hl=>by rw [I.list_inj hl hqx]; exact hx,fun l hl=>by rw [I.list_inj hl hqy]; exact hy⟩,⟨z'',?_,⟨u,u2,?_⟩,?_,?_⟩,fun c hcm=>?_⟩
    · exact (sb.2 _ D.TIz).trans (hk _ _ D.TIz D.TITO D.TIi1 D.TIi2 hTI)
    · exact (sb.2 _ D.TOz).trans TO'
    · exact h1'.at fun o q=>(sb.2 _ D.i1z).trans q
    · exact h2'.at fun o q=>(sb.2 _ D.i2z).trans q
    · have hlt:c<s.heap.objs.size:=by
        have e':c=z∨c=TI∨c=TO∨c=i1∨c=i2:=by simpa using hcm
        rcases e' with q | q | q | q | q
        · rw [q]; exact hzl
        · rw [q]; exact Heap.lt_size hTI
        · rw [q]; exact Heap.lt_size hTO
        · rw [q]; obtain ⟨_,e1,_⟩:=h1; exact Heap.lt_size e1
        · rw [q]; obtain ⟨_,e2,_⟩:=h2; exact Heap.lt_size e2
      rw [upd_ne (Nat.ne_of_lt hlt)]
      exact (hf c hcm).1
  done:=by
    intro X hP hw hK hc i pins s σ H E I hf st hg
    subst hP hw hK
    obtain ⟨hz,hTI,⟨x0,y0,hTO⟩,h1,h2⟩:=st
    obtain ⟨xs,ys,hqx,hqy,hend⟩:=hg
    obtain ⟨its,rv,p,_⟩:=I.list hqx
    obtain ⟨its2,rv2,p2,_⟩:=I.list hqy
    have l1:=rv.length
    have l2:=rv2.length
    have he:its.toArray[i]?=none∨its2.toArray[i]?=none:=by
      rcases hend with q | q
      · exact .inl (by simp; omega)
      · exact .inr (by simp; omega)
    exact wpAny_pyNext_zip_end (I.ok.hd hc) D hz hTI hTO h1 h2 p.isList p2.isList he fun h' hk=>⟨rfl,I.turnedL (t':=s.toks) (ch:=[z,TI,TO,i1,i2]) (fun c o hb q=>
      hk c o (fun q'=>hb (by simp [q'])) (fun q'=>hb (by simp [q'])) (fun q'=>hb (by simp [q'])) (fun q'=>hb (by simp [q'])) q) hf⟩
  self:=fun A i s Q E st h=>wpAny_pyIter_zip st.1 h
def iZip (K:PySem.W.Frag) (ta:TA):TI:=fun σ H R=>ta σ H fun vs H1=>∃ a b xs ys,vs=[.ref a,.ref b]∧SqL K H1 a xs∧SqL K H1 b ys∧R (Itz K a b) H1
theorem pi_zip {X:Cx}{e e2:Expr}{ta:TA}{p pos tpos:Pos}{elts:List Expr}{kk:Nat}(hg:Gl X "zip") (hm:X.mg "zip" = none) (ha:PA X [e,e2] ta)
    (hs:starEach [e,e2] X.env=(false,eval e X.env)::starEach [e2] X.env:=by rfl) (hpl:(backTo pos (starEach [e2] X.env)).any (·.1)=false:=by rfl) :
    PI X (.Tuple elts kk tpos) (.Call (.Name "zip" p) [e,e2] [] pos) (iZip X.K ta):=by
  intro pins s σ H R I h
  refine Call_ (ld_blt I hg hm boot_zip5 (PyProof.Rows.callWith_type1 (thn (ha pos pins s σ H _ I h) fun us s1 ⟨vs,H1,I1,r1,q1⟩=>?_) hs hpl))
  obtain ⟨a,b,xs,ys,ex,hqx,hqy,q⟩:=q1
  subst ex
  cases r1 with
  | cons r rr=>
    cases rr with
    | cons r' rr=>
      cases rr
      cases r
      cases r'
      obtain ⟨its,rv,p1,_⟩:=I1.list hqx
      obtain ⟨its2,rv2,p2,_⟩:=I1.list hqy
      have la:a<s1.heap.objs.size:=p1.lt
      have lb:b<s1.heap.objs.size:=p2.lt
      refine call_zip_2 p1.isList p2.isList fun h' hz hTI hTO h1 h2 hsz hk=>wpAny_pyIter_zip hz ?_
      have I2:Inv X pins σ H1 { s1 with heap:=h' }:=I1.kept (t':=s1.toks) hk
      refine ⟨s1.heap.objs.size+4,[s1.heap.objs.size+4,s1.heap.objs.size+2,s1.heap.objs.size+3,s1.heap.objs.size,s1.heap.objs.size+1],_,_,H1,rfl,I2,turn_zip (PySem.W.ktu_apart s1.heap.objs.size a b la lb),⟨hz,hTI,⟨_,_,hTO⟩,h1,h2⟩,fun c hcm=>?_,q⟩
      have e':c=s1.heap.objs.size+4∨c=s1.heap.objs.size+2∨c=s1.heap.objs.size+3∨c=s1.heap.objs.size∨c=s1.heap.objs.size+1:=by simpa using hcm
      have hle:s1.heap.objs.size≤c:=by
        rcases e' with z | z | z | z | z
        · rw [z]; exact Nat.le_add_right _ _
        · rw [z]; exact Nat.le_add_right _ _
        · rw [z]; exact Nat.le_add_right _ _
        · rw [z]; exact Nat.le_refl _
        · rw [z]; exact Nat.le_add_right _ _
      exact I1.fpOk hle (I1.hok.fresh hle)
end L2
section
namespace Bits
open PySem PyProof.Rows
end Bits
end
section
namespace TL
open PySem PySem.Builtin PySem.Builtin.Str PySem.StrLaws
abbrev tl (x:Str):List Nat:=x.cps.toList
theorem len_tl (x:Str):x.length=(tl x).length:=by simp [tl,Str.length]
theorem tl_append (x y:Str):tl (x++y)=tl x++tl y:=by
  show (x++y).cps.toList=_
  rw [Str.cps_append,Array.toList_append]
theorem tl_ofString (s:String):tl (Str.ofString s)=s.toList.map Char.toNat:=PyProof.Rows.signs_ofString s
end TL
end
namespace L2
open PySem PySem.Spec PyProof.Rows
theorem vals_strs:∀ l:List (Str×Tok),Vals ((l.map (·.1)).map V.str) (strValues l)
  | []=>.nil
  | p::r=>.cons ⟨p.2,rfl⟩ (vals_strs r)
def rNewStrs (ys:List Str):Hp→VK→Prop:=fun H Q=>∀ p,H p=none→Q (.ref p) (upd H p (.lst (ys.map V.str)))
section
variable {X:Cx}{pins:List (Addr×Obj)}{σ:St}{H:Hp}{s:Shared}{Q:VK}
theorem laid_strs {l:List (Str×Tok)}{ys:List Str}{k:Nat}(I:Inv X pins σ H s) (e:l.map (·.1)=ys) (hz:ys.length≤sizeLine) (h:rNewStrs ys H Q) :
    EP X pins σ Q (.ref s.heap.objs.size) { s with toks:=k,heap:=s.heap.push { cls:=.type "list",data:=.seq (strValues l).toArray } }:=by
  have hp:=I.hok.fresh (Nat.le_refl _)
  refine ⟨.ref s.heap.objs.size,upd H s.heap.objs.size (.lst (ys.map V.str)),I.laid (fun b u q=>Heap.get?_push_of_some _ q) (Nat.le_refl _) ⟨by rw [List.length_map]; exact hz,strValues l,_,?_,Heap.get?_push_size _ rfl⟩,rfl,h _ hp⟩
  rw [←e]
  exact vals_strs l
end
section
variable {X:Cx}
theorem words_le (x:Str):(Txt.words x).length≤x.length+1:=by
  have e1:=StrLaws.words_weight x
  omega
theorem mt_words:MtR X "str.split" (fun x xs H Q=>∃ a,x=.str a∧xs=[]∧a.length+2≤sizeLine∧rNewStrs (Txt.words a) H Q):=by
  intro pins s σ H x xs v us Q I rx rs h
  obtain ⟨a,rfl,rfl,hz,h⟩:=h
  obtain ⟨t,rfl⟩:=rx
  cases rs
  have hl:(Txt.words a).length≤sizeLine:=Nat.le_trans (words_le a) (by omega)
  have hn:(Builtin.Str.spaceWords a (a.length+1)).length≤sizeLine:=by
    have e1:=(StrLaws.sw_weight a).1
    have e2:=StrLaws.len_le_wsum (Builtin.Str.spaceWords a (a.length+1))
    omega
  refine call_meets F.slot_str_split (typeIs_str _ _ _) F.entry_str_split (F.args_str_split_1 _) (meets_str_split_space a t (by omega) hn) ?_
  cases hw:Builtin.Str.spaceWords a (a.length+1)==[(0,a.length)]
  · simp only [Bool.false_eq_true,if_false]
    rw [strsFrom_eq]
    exact laid_strs (ys:=Txt.words a) I ((numbered_texts _ _).trans (if_neg (ne_true_of_eq_false hw)).symm) hl h
  · simp only [if_true]
    exact laid_strs (l:=[(a,t)]) (ys:=Txt.words a) (k:=s.toks) I (if_pos hw).symm hl h
end
section
variable {X:Cx}{o e:Expr}{to te:TE}
def tM0 (r:V→List V→Hp→VK→Prop) (to:TE):TE:=fun σ H Q=>to σ H fun x H1=>(∃ a,x=.str a)∧r x [] H1 Q
theorem pe_m0 {id:String}{name:Str}{apos pos:Pos}{r:V→List V→Hp→VK→Prop}(slot:Slot "str" name id) (ty:typeOf (.builtin id)=pure (.type "method_descriptor")) (rule:MtR X id r) (ho:PE X o to)
    (hbase:attributeBase o name X.env (eval o X.env)=eval o X.env:=by rfl) (hline:(apos.endLine==pos.line)=true:=by rfl):PE X (.Call (.Attribute o name apos) [] [] pos) (tM0 r to):=by
  intro pins s σ H Q I h
  refine PySem.Call_method0 hbase hline (thn (ho pins s σ H _ I h) fun v s1 ⟨x,H1,I1,r1,q1⟩=>?_)
  obtain ⟨⟨a,rfl⟩,q1⟩:=q1
  obtain ⟨t,rfl⟩:=_root_.id r1
  exact ⟨"str",_,F.plainAttrs_str,slot,ty,typeIs_str _ _ _,(fun _ e=>nomatch e),Calls.callWith_builtin rfl (PySem.evalArgs_none (rule pins s1 σ H1 _ [] _ [] Q I1 r1 .nil q1))⟩
theorem pe_words {apos pos:Pos}(ho:PE X o to) (hbase:attributeBase o "split" X.env (eval o X.env)=eval o X.env:=by rfl) (hline:(apos.endLine==pos.line)=true:=by rfl) :
    PE X (.Call (.Attribute o "split" apos) [] [] pos) (tM0 (fun x xs H Q=>∃ a,x=.str a∧xs=[]∧a.length+2≤sizeLine∧rNewStrs (Txt.words a) H Q) to):=
  pe_m0 F.slot_str_split F.type_str_split mt_words ho hbase hline
end
end L2
namespace L2
open PySem PySem.Spec PyProof.Rows
end L2
namespace Att
open PySem PySem.W PySem.Calls PyProof.Rows
end Att
namespace L2
open PySem PySem.Spec PyProof.Rows
end L2
namespace L2
open PySem PySem.Spec PyProof.Rows
abbrev KOf {K:PySem.W.Frag}{h:Heap}(_:K.In h):PySem.W.Frag:=K
end L2
namespace L2
open PySem PySem.Spec PyProof.Rows
def inClass (s:Stmt) (j:Nat):Stmt:=match s with
  | .ClassDef _ _ _ body _ _ _ _ _ _ _=>body.getD j (.Pass ⟨0,0,0,0⟩)
  | _=>.Pass ⟨0,0,0,0⟩
def defArgs (s:Stmt):Arguments:=match s with
  | .FunctionDef _ a _ _ _ _ _ _ _ _=>a
  | _=>{ posonlyargs:=[],args:=[],vararg:=none,kwonlyargs:=[],kw_defaults:=[],kwarg:=none,defaults:=[] }
def defBody (s:Stmt):List Stmt:=match s with
  | .FunctionDef _ _ b _ _ _ _ _ _ _=>b
  | _=>[]
def defScope (s:Stmt):Scope:=match s with
  | .FunctionDef _ _ _ _ _ _ sc _ _ _=>sc
  | _=>{ kind:=.function,names:=[],isGenerator:=false,isCoroutine:=false }
abbrev CX0:CXT:=fun _ _ _ _ _ _=>False
abbrev E0:XK:=fun _ _ _=>False
theorem pass0 {X:Cx}:Passes CX0 X E0:=fun _ _ _ _ _ _ _ h=>h.elim
structure Fun (K:PySem.W.Frag) (x qual:Str) (st:Stmt) (f:Addr) (fd:FuncData):Prop where
  ex:∃ (oc:Value) (od:Option Addr) (kV doc pm:Value) (an:Option Addr) (cdv ct:Value) (osl:Array (Option Value)),
    fd=PySem.W.fnOf x qual (defArgs st) (defBody st) (defScope st) .none kV doc pm an cdv ct∧K.lookup f=some ⟨oc,od,.func fd,osl⟩∧PySem.W.codeIn K cdv qual=true
  kp:PySem.W.keepIn K (.ref f)=true
section
variable {P:Program}{w:World}{K:PySem.W.Frag}{mg:Str→Option Value}{base:Heap}
theorem Fun.ok {x qual:Str}{st:Stmt}{f:Addr}{fd:FuncData}{N ps:List Str}{k:Nat}{sp:Sp}(F:Fun K x qual st f fd) (S:FnScope N ps (defScope st)) (len:∀ vs H Q E,sp vs H Q E→vs.length=ps.length)
    (hbody:∀ (cdv:Value) (A:Around) (outer:List Env) (s:Shared) (H:Hp) (vs:List V) (Q:VK) (E:XK),Room k (A.deeper (envOfC qual (defScope st) s.heap.objs.size f cdv))→sp vs H Q E→
      ∃ t,PSs (cxOf CX0 P w K mg base N qual (defScope st) f cdv A outer s H E).nox (defBody st) t∧t { nx:=fun _ H'=>Q .non H',rt:=Q } (start N vs) H):FnOk P w K mg base CX0 (k+1) f fd ps sp:=by
  obtain ⟨oc,od,kV,doc,pm,an,cdv,ct,osl,rfl,lk,hcd⟩:=F.ex
  refine fn_of lk hcd S len fun A outer s H vs Q E hr hsp=>?_
  obtain ⟨t,h,q⟩:=hbody cdv A outer s H vs Q E hr hsp
  exact ⟨t,h.nox,q⟩
theorem Fun.binds {x qual:Str}{st:Stmt}{f:Addr}{fd:FuncData}{ps:List Str}(F:Fun K x qual st f fd)
    (h:∀ (kV doc pm:Value) (an:Option Addr) (cdv ct:Value) (us:List Value),us.length=ps.length→bindArgs (PySem.W.fnOf x qual (defArgs st) (defBody st) (defScope st) .none kV doc pm an cdv ct) ⟨us,[]⟩=pure (ps.zip us)):Binds K fd ps []:=by
  obtain ⟨oc,od,kV,doc,pm,an,cdv,ct,osl,rfl,lk,hcd⟩:=F.ex
  exact .all (h kV doc pm an cdv ct)
theorem fun_mk {x qual:Str}{st:Stmt}{f:Addr}{oc:Value}{od an:Option Addr}{osl:Array (Option Value)}{kV doc pm cdv ct:Value}(l:K.lookup f=some ⟨oc,od,.func (PySem.W.fnOf x qual (defArgs st) (defBody st) (defScope st) .none kV doc pm an cdv ct),osl⟩)
    (c:PySem.W.codeIn K cdv qual=true) (k:PySem.W.keepIn K (.ref f)=true):Fun K x qual st f (PySem.W.fnOf x qual (defArgs st) (defBody st) (defScope st) .none kV doc pm an cdv ct):=⟨⟨oc,od,kV,doc,pm,an,cdv,ct,osl,rfl,l,c⟩,k⟩
end
theorem hu_of {A:Around}{k:Nat}(hr:Room k A):A.units+1<cLine:=Nat.lt_of_le_of_lt (Nat.add_le_add_left (by decide:1≤64) _) hr.units
section
variable {X:Cx}
theorem pv (i:Nat) {x:Str}{pos:Pos}(hN:X.N[i]?=some x:=by rfl) (hv:Vis X.env.scope x:=by first | exact Or.inl rfl | exact Or.inr (Or.inl rfl) | exact Or.inr (Or.inr rfl)) (hd:(x==("__debug__" : Str))=false:=by decide)
    (hcd:(x==("__classdict__" : Str))=false:=by decide):PE X (.Name x pos) (tVar i):=pe_var hN hv hd hcd
end
theorem iteF {A B:Prop}(h:B):if false=true then A else B:=by
  rw [if_neg Bool.false_ne_true]
  exact h
theorem iteT {A B:Prop}(h:A):if true=true then A else B:=by
  rw [if_pos rfl]
  exact h
theorem ite2 {c A B:Prop} [Decidable c] (h1:c→A) (h2:¬c→B):if c then A else B:=by
  by_cases h:c
  · rw [if_pos h]
    exact h1 h
  · rw [if_neg h]
    exact h2 h
def Same (H H':Hp):Prop:=∀ b o,H b=some o→H' b=some o
theorem Same.refl (H:Hp):Same H H:=fun _ _ h=>h
theorem Same.trans {H H1 H2:Hp}(a:Same H H1) (b:Same H1 H2):Same H H2:=fun c o h=>b c o (a c o h)
theorem Same.free {H H':Hp}(e:Same H H') {l:Addr}(h:H' l=Option.none):H l=Option.none:=by
  cases q:H l with
  | none=>rfl
  | some o=>
    rw [e l o q] at h
    cases h
theorem Same.seq {K:PySem.W.Frag}{H H':Hp}{a:Addr}{xs:List V}(e:Same H H') (h:SqL K H a xs):SqL K H' a xs:=by
  rcases h with (h | ⟨o,h⟩) | h
  · exact .inl (.inl (e _ _ h))
  · exact .inl (.inr ⟨o,e _ _ h⟩)
  · exact .inr h
theorem Same.made {H H1:Hp}{x dx C:Addr}(nx:H x=Option.none) (nd:H dx=Option.none) (k:∀ b o,(upd (upd H dx (.own x)) x (.ins C dx [])) b=some o→b≠x→H1 b=some o):Same H H1:=fun b o e=>
  k b o (by rw [upd_ne (ne_of_none e nx),upd_ne (ne_of_none e nd)]; exact e) (ne_of_none e nx)
end L2
section
namespace L2
open PySem PySem.Spec PyProof.Rows
open PySem.W (WData Codec OpenSpec Well WellAll ReadsW ReadsAllW)
mutual
inductive Dw (K:PySem.W.Frag) (H:Hp):V→WData→Prop
  | non:Dw K H .non .none
  | bl (b:Bool):Dw K H (.bl b) (.bool b)
  | int (i:Int):Dw K H (.int i) (.int i)
  | str (x:Str):Dw K H (.str x) (.str x)
  | byt (b:Array UInt8):Dw K H (.byt b) (.bytes b.toList)
  | lst {a:Addr} {xs:List V} {ds:List WData}:SqL K H a xs→DwAll K H xs ds→Dw K H (.ref a) (.list ds)
  | tup {a:Addr} {xs:List V} {ds:List WData}:SqT K H a xs→DwAll K H xs ds→Dw K H (.ref a) (.tuple ds)
inductive DwAll (K:PySem.W.Frag) (H:Hp):List V→List WData→Prop
  | nil:DwAll K H [] []
  | cons {v:V} {vs:List V} {d:WData} {ds:List WData}:Dw K H v d→DwAll K H vs ds→DwAll K H (v::vs) (d::ds)
end
theorem dw_ints {K:PySem.W.Frag}{H:Hp}:∀ ns:List Int,DwAll K H (ns.map V.int) (ns.map WData.int)
  | []=>.nil
  | n::r=>.cons (.int n) (dw_ints r)
theorem ints_dw {K:PySem.W.Frag}{H:Hp}:∀ (ns:List Int) (xs:List V),DwAll K H xs (ns.map WData.int)→xs=ns.map V.int
  | [],xs,h=>by
    cases h
    rfl
  | n::r,xs,h=>by
    cases h with
    | cons h1 h2=>
      cases h1
      rw [ints_dw r _ h2] <;> rfl
section
variable {P:Program}{w:World}{K:PySem.W.Frag}{H:Hp}{h:Heap}{R:PySem.W.WRecords}{cl:Str→Option Addr}
theorem sqL_at {a:Addr}{xs:List V}(hok:HOk P w H h) (KX:K.In h) (q:SqL K H a xs):∃ (its:List Value) (o:Obj) (n:Nat),Vals xs its∧h.get? a=some o∧o.cls=.type "list" ∧ o.data=.seq its.toArray n:=by
  rcases q with q | ⟨o,its,n,e,hc,_,hd,_,hv⟩
  · obtain ⟨_,its,n,hv,e⟩:=(show ObjOk P w H h a (.lst xs) from q.ok hok)
    exact ⟨its,_,n,hv,e,rfl,rfl⟩
  · exact ⟨its.toList,o,n,hv,KX _ _ e,hc,by simp [hd]⟩
theorem sqT_at {a:Addr}{xs:List V}(hok:HOk P w H h) (KX:K.In h) (q:SqT K H a xs):∃ (its:List Value) (o:Obj) (n:Nat),Vals xs its∧h.get? a=some o∧o.cls=.type "tuple" ∧ o.data=.seq its.toArray n:=by
  rcases q with q | ⟨o,its,n,e,hc,hd,_,hv⟩
  · obtain ⟨_,its,hv,o,e,hc,n,hd⟩:=(show ObjOk P w H h a (.tup xs) from q.ok hok)
    exact ⟨its,o,n,hv,e,hc,hd⟩
  · exact ⟨its.toList,o,n,hv,KX _ _ e,hc,by simp [hd]⟩
mutual
theorem Dw.reads (hok:HOk P w H h) (KX:K.In h):∀ (d:WData) (v:V) (u:Value),Dw K H v d→RelV v u→∃ as,ReadsW R cl h u d as
  | .none,_,_,x,r=>by
    cases x
    cases r
    exact ⟨_,ReadsW.none⟩
  | .bool b,_,_,x,r=>by
    cases x
    cases r
    exact ⟨_,ReadsW.bool b⟩
  | .int i,_,_,x,r=>by
    cases x
    obtain ⟨t,rfl⟩:=r
    exact ⟨_,ReadsW.int i t⟩
  | .str s,_,_,x,r=>by
    cases x
    obtain ⟨t,rfl⟩:=r
    exact ⟨_,ReadsW.str s t⟩
  | .bytes b,_,_,x,r=>by
    cases x
    obtain ⟨t,rfl⟩:=r
    exact ⟨_,ReadsW.bytes _ t⟩
  | .list ds,_,_,x,r=>by
    cases x with
    | lst hs ha=>
      cases r
      obtain ⟨its,o,n,rv,ho,hc,hd⟩:=sqL_at hok KX hs
      obtain ⟨as,hr⟩:=Dw.readsAll hok KX ds _ its ha rv
      exact ⟨_,ReadsW.list ho hc hd hr⟩
  | .tuple ds,_,_,x,r=>by
    cases x with
    | tup hs ha=>
      cases r
      obtain ⟨its,o,n,rv,ho,hc,hd⟩:=sqT_at hok KX hs
      obtain ⟨as,hr⟩:=Dw.readsAll hok KX ds _ its ha rv
      exact ⟨_,ReadsW.tuple ho hc hd hr⟩
  | .float _,_,_,x,_=>by cases x
  | .dict _,_,_,x,_=>by cases x
  | .bytearray _,_,_,x,_=>by cases x
  | .set _,_,_,x,_=>by cases x
  | .frozenset _,_,_,x,_=>by cases x
  | .obj _ _,_,_,x,_=>by cases x
theorem Dw.readsAll (hok:HOk P w H h) (KX:K.In h):∀ (ds:List WData) (vs:List V) (us:List Value),DwAll K H vs ds→Vals vs us→∃ as,ReadsAllW R cl h us ds as
  | [],_,_,x,r=>by
    cases x
    cases r
    exact ⟨_,ReadsAllW.nil⟩
  | d::ds,_,_,x,r=>by
    cases x with
    | cons h1 h2=>
      cases r with
      | cons r1 r2=>
        obtain ⟨as,q1⟩:=Dw.reads hok KX d _ _ h1 r1
        obtain ⟨bs,q2⟩:=Dw.readsAll hok KX ds _ _ h2 r2
        exact ⟨_,ReadsAllW.cons q1 q2⟩
end
end
mutual
def plW:WData→Bool
  | .none=>true
  | .bool _=>true
  | .int _=>true
  | .str _=>true
  | .bytes _=>true
  | .list xs=>plWs xs
  | .tuple xs=>plWs xs
  | _=>false
def plWs:List WData→Bool
  | []=>true
  | x::r=>plW x&&plWs r
end
theorem plWs_map {α:Type}{f:α→WData}(h:∀ a,plW (f a)=true):∀ l:List α,plWs (l.map f)=true
  | []=>rfl
  | x::r=>by
    show (plW (f x)&&plWs (r.map f))=true
    rw [h x,plWs_map h r] <;> rfl
theorem pl_enc:∀ (c:Codec) (a:c.denote),plW (c.enc a)=true
  | .unit,_=>rfl
  | .bool,_=>rfl
  | .int _ _,_=>rfl
  | .nat _ _,_=>rfl
  | .u8,_=>rfl
  | .bytes _ _,_=>rfl
  | .text _ _ _ _,_=>rfl
  | .list _ _ c,a=>plWs_map (fun x=>pl_enc c x) a
  | .pair c d,a=>by
    show (plW (c.enc a.1)&&(plW (d.enc a.2)&&true))=true
    rw [pl_enc c a.1,pl_enc d a.2] <;> rfl
  | .triple c d e,a=>by
    show (plW (c.enc a.1)&&(plW (d.enc a.2.1)&&(plW (e.enc a.2.2)&&true)))=true
    rw [pl_enc c a.1,pl_enc d a.2.1,pl_enc e a.2.2] <;> rfl
  | .option c,none=>rfl
  | .option c,some x=>pl_enc c x
theorem pl_encAll:∀ (cs:List Codec) (a:Codec.denoteAll cs),plWs (Codec.encAll cs a)=true
  | [],_=>rfl
  | c::cs,a=>by
    show (plW (c.enc a.1)&&plWs (Codec.encAll cs a.2))=true
    rw [pl_enc c a.1,pl_encAll cs a.2] <;> rfl
theorem weight_mem:∀ {xs:List WData}{d:WData},d∈xs→d.weight≤WData.weightAll xs
  | [],d,h=>absurd h (by simp)
  | x::r,d,h=>by
    show d.weight≤x.weight+1+WData.weightAll r
    rcases List.mem_cons.mp h with e | m
    · rw [e]
      omega
    · have z:=weight_mem m
      omega
def toV:Value→V
  | .none=>.non
  | .bool b=>.bl b
  | .int i _=>.int i
  | .str x _=>.str x
  | .bytes b _=>.byt b
  | .ref a=>.ref a
  | _=>.non
def OkU (A:List Addr):Value→Prop
  | .none=>True
  | .bool _=>True
  | .int _ _=>True
  | .str _ _=>True
  | .bytes _ _=>True
  | .ref a=>a∈A
  | _=>False
theorem OkU.mono {A B:List Addr}(h:∀ a∈A,a∈B):∀ {u:Value},OkU A u→OkU B u:=fun {u} x=>by
  cases u with
  | ref a=>exact h a x
  | none=>trivial
  | bool b=>trivial
  | int i t=>trivial
  | str s t=>trivial
  | bytes b t=>trivial
  | _=>exact False.elim x
theorem relV_toV {A:List Addr}{u:Value}(x:OkU A u):RelV (toV u) u:=by
  cases u with
  | ref a=>rfl
  | none=>rfl
  | bool b=>rfl
  | int i t=>exact ⟨t,rfl⟩
  | str s t=>exact ⟨t,rfl⟩
  | bytes b t=>exact ⟨t,rfl⟩
  | _=>exact False.elim x
theorem vals_toV {A:List Addr}:∀ {vs:List Value},(∀ u∈vs,OkU A u)→Vals (vs.map toV) vs
  | [],_=>.nil
  | u::r,h=>.cons (relV_toV (h u (List.mem_cons_self ..))) (vals_toV fun x hx=>h x (List.mem_cons_of_mem _ hx))
def ArgOb (h:Heap) (A:List Addr) (a:Addr):Prop:=∃ vs:List Value,vs.length≤sizeLine∧(∀ u∈vs,OkU A u)∧
  (h.get? a=some { cls:=.type "list",data:=.seq vs.toArray }∨h.get? a=some { cls:=.type "tuple",data:=.seq vs.toArray })
theorem ArgOb.mono {h:Heap}{A B:List Addr}{a:Addr}(k:∀ a∈A,a∈B) (x:ArgOb h A a):ArgOb h B a:=by
  obtain ⟨vs,h1,h2,h3⟩:=x
  exact ⟨vs,h1,fun u hu=>(h2 u hu).mono k,h3⟩
theorem wellAll_len {P:Params}{h:Heap}:∀ {vs:List Value}{ds:List WData},WellAll P h vs ds→vs.length=ds.length
  | _,_,.nil=>rfl
  | _,_,.cons _ b=>by
    show _+1=_+1
    rw [wellAll_len b]
theorem well_list {P:Params}{h:Heap}{v:Value}{ds:List WData}(x:Well P h v (.list ds)):∃ (a:Addr) (vs:List Value),v=.ref a∧h.get? a=some { cls:=.type "list",data:=.seq vs.toArray }∧WellAll P h vs ds:=by
  cases x with
  | list ho hall=>exact ⟨_,_,rfl,ho,hall⟩
theorem well_tuple {P:Params}{h:Heap}{v:Value}{ds:List WData}(x:Well P h v (.tuple ds)):∃ (a:Addr) (vs:List Value),v=.ref a∧h.get? a=some { cls:=.type "tuple",data:=.seq vs.toArray }∧WellAll P h vs ds:=by
  cases x with
  | tuple ho hall=>exact ⟨_,_,rfl,ho,hall⟩
theorem well_cons {P:Params}{h:Heap}{us:List Value}{d:WData}{ds:List WData}(x:WellAll P h us (d::ds)):∃ (v:Value) (vs:List Value),us=v::vs∧Well P h v d∧WellAll P h vs ds:=by
  cases x with
  | cons a b=>exact ⟨_,_,rfl,a,b⟩
theorem line_of {n:Nat}(h:n≤1048576):n≤sizeLine:=Nat.le_trans h (by decide)
section
variable {P:Params}{h:Heap}
mutual
theorem area_one:∀ (d:WData) (v:Value),Well P h v d→plW d=true→d.weight≤1048576→∃ A:List Addr,OkU A v∧∀ a∈A,ArgOb h A a
  | .none,_,x,_,_=>by
    cases x
    exact ⟨[],trivial,fun a m=>absurd m (by simp)⟩
  | .bool b,_,x,_,_=>by
    cases x
    exact ⟨[],trivial,fun a m=>absurd m (by simp)⟩
  | .int i,_,x,_,_=>by
    cases x
    exact ⟨[],trivial,fun a m=>absurd m (by simp)⟩
  | .str s,_,x,_,_=>by
    cases x
    exact ⟨[],trivial,fun a m=>absurd m (by simp)⟩
  | .bytes b,_,x,_,_=>by
    cases x
    exact ⟨[],trivial,fun a m=>absurd m (by simp)⟩
  | .list ds,_,x,p,z=>by
    obtain ⟨a,vs,rfl,ho,hall⟩:=well_list x
    have z2:WData.weightAll ds≤1048576:=z
    obtain ⟨A,h1,h2⟩:=area_all ds _ hall p fun d hd=>Nat.le_trans (weight_mem hd) z2
    have k:∀ b∈A,b∈a::A:=fun b hb=>List.mem_cons_of_mem _ hb
    refine ⟨a::A,List.mem_cons_self ..,fun b hb=>?_⟩
    rcases List.mem_cons.mp hb with e | m
    · rw [e]
      exact ⟨vs,line_of (by rw [wellAll_len hall]; exact Nat.le_trans (PySem.W.length_le_weightAllW ds) z2),fun u hu=>(h1 u hu).mono k,.inl ho⟩
    · exact (h2 b m).mono k
  | .tuple ds,_,x,p,z=>by
    obtain ⟨a,vs,rfl,ho,hall⟩:=well_tuple x
    have z2:WData.weightAll ds≤1048576:=z
    obtain ⟨A,h1,h2⟩:=area_all ds _ hall p fun d hd=>Nat.le_trans (weight_mem hd) z2
    have k:∀ b∈A,b∈a::A:=fun b hb=>List.mem_cons_of_mem _ hb
    refine ⟨a::A,List.mem_cons_self ..,fun b hb=>?_⟩
    rcases List.mem_cons.mp hb with e | m
    · rw [e]
      exact ⟨vs,line_of (by rw [wellAll_len hall]; exact Nat.le_trans (PySem.W.length_le_weightAllW ds) z2),fun u hu=>(h1 u hu).mono k,.inr ho⟩
    · exact (h2 b m).mono k
  | .float _,_,_,p,_=>Bool.noConfusion (show false=true from p)
  | .dict _,_,_,p,_=>Bool.noConfusion (show false=true from p)
  | .bytearray _,_,_,p,_=>Bool.noConfusion (show false=true from p)
  | .set _,_,_,p,_=>Bool.noConfusion (show false=true from p)
  | .frozenset _,_,_,p,_=>Bool.noConfusion (show false=true from p)
  | .obj _ _,_,_,p,_=>Bool.noConfusion (show false=true from p)
theorem area_all:∀ (ds:List WData) (vs:List Value),WellAll P h vs ds→plWs ds=true→(∀ d∈ds,d.weight≤1048576)→∃ A:List Addr,(∀ u∈vs,OkU A u)∧∀ a∈A,ArgOb h A a
  | [],_,x,_,_=>by
    cases x
    exact ⟨[],fun u m=>absurd m (by simp),fun a m=>absurd m (by simp)⟩
  | d::ds,_,x,p,z=>by
    obtain ⟨v,vs,rfl,x1,x2⟩:=well_cons x
    have q:plW d=true∧plWs ds=true:=Bool.and_eq_true_iff.mp p
    obtain ⟨A,a1,a2⟩:=area_one d v x1 q.1 (z d (List.mem_cons_self ..))
    obtain ⟨B,b1,b2⟩:=area_all ds vs x2 q.2 fun e he=>z e (List.mem_cons_of_mem _ he)
    have kA:∀ b∈A,b∈A++B:=fun b hb=>List.mem_append.mpr (.inl hb)
    have kB:∀ b∈B,b∈A++B:=fun b hb=>List.mem_append.mpr (.inr hb)
    refine ⟨A++B,fun u hu=>?_,fun b hb=>?_⟩
    · rcases List.mem_cons.mp hu with e | m
      · rw [e]
        exact a1.mono kA
      · exact (b1 u m).mono kB
    · rcases List.mem_append.mp hb with m | m
      · exact (a2 b m).mono kA
      · exact (b2 b m).mono kB
end
end
def hoOf (o:Obj):Option HO:=match o.data with
  | .seq vs _=>if (o.cls==Value.type "list")=true then some (.frz o (.lst (vs.toList.map toV))) else some (.frz o (.tup (vs.toList.map toV)))
  | _=>none
def argH (K:PySem.W.Frag) (h:Heap) (A:List Addr):Hp:=fun b=>if b∈A then (if (K.lookup b).isNone=true then (h.get? b).bind hoOf else none) else none
def OnlyF (H:Hp):Prop:=∀ b,H b=none∨∃ o u,H b=some (.frz o u)
theorem hoOf_lst (vs:List Value):hoOf { cls:=.type "list",data:=.seq vs.toArray }=some (.frz { cls:=.type "list",data:=.seq vs.toArray } (.lst (vs.map toV))):=by
  show (if (Value.type "list" == Value.type "list")=true then some (HO.frz { cls:=.type "list",data:=.seq vs.toArray } (.lst (vs.toArray.toList.map toV))) else some (HO.frz { cls:=.type "list",data:=.seq vs.toArray } (.tup (vs.toArray.toList.map toV))))=_
  rw [if_pos (beq_self_eq_true _)]
theorem hoOf_tup (vs:List Value):hoOf { cls:=.type "tuple",data:=.seq vs.toArray }=some (.frz { cls:=.type "tuple",data:=.seq vs.toArray } (.tup (vs.map toV))):=by
  show (if (Value.type "tuple" == Value.type "list")=true then some (HO.frz { cls:=.type "tuple",data:=.seq vs.toArray } (.lst (vs.toArray.toList.map toV))) else some (HO.frz { cls:=.type "tuple",data:=.seq vs.toArray } (.tup (vs.toArray.toList.map toV))))=_
  rw [if_neg (by decide)]
section
variable {P:Program}{w:World}{K:PySem.W.Frag}{h:Heap}{A:List Addr}
theorem argH_at {b:Addr}{o:Obj}(hb:b∈A) (hk:K.lookup b=none) (e:h.get? b=some o):argH K h A b=hoOf o:=by
  unfold argH
  rw [if_pos hb,hk,if_pos (show (none:Option Obj).isNone=true from rfl),e] <;> rfl
theorem of_argH {b:Addr}{u:HO}(q:argH K h A b=some u):b∈A∧K.lookup b=none:=by
  unfold argH at q
  by_cases hb:b∈A
  · rw [if_pos hb] at q
    cases hk:K.lookup b with
    | none=>exact ⟨hb,rfl⟩
    | some o=>
      rw [hk,if_neg (by simp)] at q
      cases q
  · rw [if_neg hb] at q
    cases q
theorem argH_is (ar:∀ a∈A,ArgOb h A a) {b:Addr}{u:HO}(q:argH K h A b=some u):K.lookup b=none∧∃ vs:List Value,vs.length≤sizeLine∧(∀ u∈vs,OkU A u)∧
    ((h.get? b=some { cls:=.type "list",data:=.seq vs.toArray }∧u=.frz { cls:=.type "list",data:=.seq vs.toArray } (.lst (vs.map toV)))∨
     (h.get? b=some { cls:=.type "tuple",data:=.seq vs.toArray }∧u=.frz { cls:=.type "tuple",data:=.seq vs.toArray } (.tup (vs.map toV)))):=by
  obtain ⟨hb,hk⟩:=of_argH q
  obtain ⟨vs,h1,h2,h3⟩:=ar b hb
  refine ⟨hk,vs,h1,h2,?_⟩
  rcases h3 with e | e
  · rw [argH_at hb hk e,hoOf_lst] at q
    exact .inl ⟨e,(Option.some.inj q).symm⟩
  · rw [argH_at hb hk e,hoOf_tup] at q
    exact .inr ⟨e,(Option.some.inj q).symm⟩
theorem argH_only (ar:∀ a∈A,ArgOb h A a):OnlyF (argH K h A):=fun b=>by
  cases q:argH K h A b with
  | none=>exact .inl rfl
  | some u=>
    obtain ⟨_,vs,_,_,⟨_,e⟩ | ⟨_,e⟩⟩:=argH_is ar q
    · exact .inr ⟨_,_,by rw [e]⟩
    · exact .inr ⟨_,_,by rw [e]⟩
theorem argH_ok (ar:∀ a∈A,ArgOb h A a):HOk P w (argH K h A) h:=fun b u q=>by
  obtain ⟨_,vs,h1,h2,⟨e,rfl⟩ | ⟨e,rfl⟩⟩:=argH_is ar q
  · exact ⟨e,by rw [List.length_map]; exact h1,vs,_,vals_toV h2,e⟩
  · exact ⟨e,by rw [List.length_map]; exact h1,vs,vals_toV h2,_,e,rfl,_,rfl⟩
theorem seq_inj {c c':Value}{vs us:List Value}(e:(some { cls:=c,data:=.seq vs.toArray }:Option Obj)=some { cls:=c',data:=.seq us.toArray }):c=c'∧vs=us:=by
  have e1:=Option.some.inj e
  have e2:c=c':=congrArg Obj.cls e1
  have e3:Data.seq vs.toArray=Data.seq us.toArray:=congrArg Obj.data e1
  injection e3 with e4
  refine ⟨e2,?_⟩
  have e5:=congrArg Array.toList e4
  simpa using e5
theorem argL (KX:K.In h) (ar:∀ a∈A,ArgOb h A a) {a:Addr}{vs:List Value}(ha:a∈A) (e:h.get? a=some { cls:=.type "list",data:=.seq vs.toArray }):(∀ u∈vs,OkU A u)∧SqL K (argH K h A) a (vs.map toV):=by
  obtain ⟨us,h1,h2,h3⟩:=ar a ha
  have hu:us=vs:=by
    rcases h3 with q | q
    · rw [e] at q
      exact (seq_inj q).2.symm
    · rw [e] at q
      exact absurd (Value.type.inj (seq_inj q).1) (by decide)
  subst hu
  refine ⟨h2,?_⟩
  cases hk:K.lookup a with
  | none=>exact .inl (.inr ⟨_,by rw [argH_at ha hk e,hoOf_lst]⟩)
  | some o=>
    have e2:=KX a o hk
    rw [e] at e2
    obtain rfl:=Option.some.inj e2
    exact .inr ⟨_,us.toArray,_,hk,rfl,rfl,rfl,by rw [List.size_toArray]; exact h1,by simpa using vals_toV h2⟩
theorem argT (KX:K.In h) (ar:∀ a∈A,ArgOb h A a) {a:Addr}{vs:List Value}(ha:a∈A) (e:h.get? a=some { cls:=.type "tuple",data:=.seq vs.toArray }):(∀ u∈vs,OkU A u)∧SqT K (argH K h A) a (vs.map toV):=by
  obtain ⟨us,h1,h2,h3⟩:=ar a ha
  have hu:us=vs:=by
    rcases h3 with q | q
    · rw [e] at q
      exact absurd (Value.type.inj (seq_inj q).1) (by decide)
    · rw [e] at q
      exact (seq_inj q).2.symm
  subst hu
  refine ⟨h2,?_⟩
  cases hk:K.lookup a with
  | none=>exact .inl (.inr ⟨_,by rw [argH_at ha hk e,hoOf_tup]⟩)
  | some o=>
    have e2:=KX a o hk
    rw [e] at e2
    obtain rfl:=Option.some.inj e2
    exact .inr ⟨_,us.toArray,_,hk,rfl,rfl,by rw [List.size_toArray]; exact h1,by simpa using vals_toV h2⟩
mutual
theorem dw_one {Pm:Params}(KX:K.In h) (ar:∀ a∈A,ArgOb h A a):∀ (d:WData) (v:Value),Well Pm h v d→plW d=true→OkU A v→Dw K (argH K h A) (toV v) d
  | .none,_,x,_,_=>by
    cases x
    exact .non
  | .bool b,_,x,_,_=>by
    cases x
    exact .bl b
  | .int i,_,x,_,_=>by
    cases x
    exact .int i
  | .str s,_,x,_,_=>by
    cases x
    exact .str s
  | .bytes b,_,x,_,_=>by
    cases x
    have z:=Dw.byt (K:=K) (H:=argH K h A) b.toArray
    exact z
  | .list ds,_,x,p,hu=>by
    obtain ⟨a,vs,rfl,ho,hall⟩:=well_list x
    obtain ⟨h2,hs⟩:=argL KX ar hu ho
    exact .lst hs (dw_all KX ar ds _ hall p h2)
  | .tuple ds,_,x,p,hu=>by
    obtain ⟨a,vs,rfl,ho,hall⟩:=well_tuple x
    obtain ⟨h2,hs⟩:=argT KX ar hu ho
    exact .tup hs (dw_all KX ar ds _ hall p h2)
  | .float _,_,_,p,_=>Bool.noConfusion (show false=true from p)
  | .dict _,_,_,p,_=>Bool.noConfusion (show false=true from p)
  | .bytearray _,_,_,p,_=>Bool.noConfusion (show false=true from p)
  | .set _,_,_,p,_=>Bool.noConfusion (show false=true from p)
  | .frozenset _,_,_,p,_=>Bool.noConfusion (show false=true from p)
  | .obj _ _,_,_,p,_=>Bool.noConfusion (show false=true from p)
theorem dw_all {Pm:Params}(KX:K.In h) (ar:∀ a∈A,ArgOb h A a):∀ (ds:List WData) (vs:List Value),WellAll Pm h vs ds→plWs ds=true→(∀ u∈vs,OkU A u)→DwAll K (argH K h A) (vs.map toV) ds
  | [],_,x,_,_=>by
    cases x
    exact .nil
  | d::ds,_,x,p,hu=>by
    obtain ⟨v,vs,rfl,x1,x2⟩:=well_cons x
    have q:plW d=true∧plWs ds=true:=Bool.and_eq_true_iff.mp p
    exact .cons (dw_one KX ar d v x1 q.1 (hu _ (List.mem_cons_self ..))) (dw_all KX ar ds vs x2 q.2 fun u m=>hu u (List.mem_cons_of_mem _ m))
end
end
theorem layable_weight {ds:List WData}(h:WData.layableAll ds=true):∀ d∈ds,d.weight≤1048576:=fun d hd=>
  (PySem.W.layableW_iff.mp (List.all_eq_true.mp h d hd)).2.2
theorem encAll_len:∀ (cs:List Codec) (a:Codec.denoteAll cs),(Codec.encAll cs a).length=cs.length
  | [],_=>rfl
  | c::cs,a=>by
    show (Codec.encAll cs a.2).length+1=cs.length+1
    rw [encAll_len cs a.2]
end L2
end
end
section
namespace L2
open PySem PySem.Spec PyProof.Rows
section
variable {X:Cx}
theorem get_list:PGet X (rIxL X.K):=by
  intro pins s σ H x y v u Q I rx ry h
  obtain ⟨p,xs,i,z,rfl,rfl,hq,he,q⟩:=h
  cases rx
  obtain ⟨t,rfl⟩:=ry
  obtain ⟨its,r,pl,hz⟩:=I.list hq
  obtain ⟨j,h1,h2,h3,h4,h5⟩:=atI_get he
  obtain ⟨w,ew,rw'⟩:=r.get h2
  have hl:=r.length
  have hn:=line63
  have fin:EP X pins σ Q w s:=⟨z,H,I,rw',q⟩
  by_cases h0:0≤i
  · have hj:i.toNat=j:=by
      rw [seqIndex_of h0 h5] at h1
      exact Option.some.inj h1
    exact wpAny_getItem_list pl.isList h0 (by omega) (by rw [hj]; simpa using ew) fin
  · have hj:(i+(its.toArray.size:Int)).toNat=j:=by
      rw [seqIndex_neg (by omega) h4] at h1
      rw [List.size_toArray,←hl]
      exact Option.some.inj h1
    exact wpAny_getItem_list_neg pl.isList (by omega) (by rw [List.size_toArray] <;> omega) (by omega) (by rw [hj]; simpa using ew) fin
end
structure KDict (K:PySem.W.Frag) (w:World) (a:Addr) (kvs:List (Str×V)):Prop where
  ex:∃ (o:Obj) (es:Array DictEntry) (n:Nat),K.lookup a=some o∧o.ExactDict∧o.data=.dict es n∧Paired (fun (p:Str×V) (e:DictEntry)=>(∃ t,e.key=.str p.1 t)∧e.hash=hashStr w p.1∧RelV p.2 e.val) kvs es.toList
  nd:(kvs.map (·.1)).Nodup
  ns:(a==sysModules)=false
theorem kd_pairs {P:Program}{w:World}:∀ {kvs:List (Str×V)}{es:List DictEntry},Paired (fun (p:Str×V) (e:DictEntry)=>(∃ t,e.key=.str p.1 t)∧e.hash=hashStr w p.1∧RelV p.2 e.val) kvs es→
    Pairs (mixKind P w) es (es.map fun e=>((match e.key with | .str x _=>Sum.inr x | _=>Sum.inl 0:Key),e.val))∧KV (kvs.map fun p=>((Sum.inr p.1:Key),p.2)) (es.map fun e=>((match e.key with | .str x _=>Sum.inr x | _=>Sum.inl 0:Key),e.val))
  | _,_,.nil=>⟨.nil,.nil⟩
  | _,_,.cons (a:=p) (b:=e) ⟨⟨t,hk⟩,hh,hv⟩ r=>by
    obtain ⟨r1,r2⟩:=kd_pairs (P:=P) r
    refine ⟨.cons ?_ rfl r1,.cons ?_ r2⟩
    · dsimp only
      rw [hk]
      exact mixKind_str P w p.1 t
    · dsimp only
      rw [hk]
      exact ⟨rfl,hv⟩
theorem KDict.map {X:Cx}{pins:List (Addr×Obj)}{σ:St}{H:Hp}{s:Shared}{a:Addr}{kvs:List (Str×V)}(I:Inv X pins σ H s) (D:KDict X.K X.w a kvs) :
    ∃ f:Key→Option Value,s.heap.MapOf (mixKind X.prog X.w) a f∧∀ k,RelO (valV (kvs.map fun p=>((Sum.inr p.1:Key),p.2)) k) (f k):=by
  obtain ⟨o,es,n,hl,hx,hd,hp⟩:=D.ex
  obtain ⟨h1,h2⟩:=kd_pairs (P:=X.prog) hp
  refine ⟨_,⟨o,es,n,I.kIn a o hl,hx,hd,?_,fun k=>?_⟩,fun k=>KV.val h2 k⟩
  · intro e he
    have go:∀ {kvs:List (Str×V)} {es:List DictEntry},Paired (fun (p:Str×V) (e:DictEntry)=>(∃ t,e.key=.str p.1 t)∧e.hash=hashStr X.w p.1∧RelV p.2 e.val) kvs es→∀ e∈es,∃ k,(mixKind X.prog X.w).is k e.key=true∧e.hash=(mixKind X.prog X.w).hash k:=by
      intro kvs es q
      induction q with
      | nil=>intro e he; cases he
      | cons hq t ih=>
        intro e he
        rcases List.mem_cons.mp he with rfl | he
        · obtain ⟨⟨t,hk⟩,hh,_⟩:=hq
          exact ⟨Sum.inr _,by rw [hk]; exact mixKind_str X.prog X.w _ t,hh⟩
        · exact ih e he
    exact go hp e (Array.mem_toList_iff.mpr he)
  · have z:=h1.find k
    rw [←z]
    obtain ⟨l⟩:=es
    simp [findBy]
section
variable {X:Cx}{o i:Expr}{pos:Pos}{td ty:TE}
def tKGet (K:PySem.W.Frag) (w:World) (td ty:TE):TE:=fun σ H Q=>td σ H fun x H1=>ty σ H1 fun y H2=>∃ a kvs k v,x=.ref a∧y=.str k∧KDict K w a kvs∧kvs.lookup k=some v∧Q v H2
def tKIn (K:PySem.W.Frag) (w:World) (ty td:TE):TE:=fun σ H Q=>ty σ H fun y H1=>td σ H1 fun x H2=>∃ a kvs k,x=.ref a∧y=.str k∧KDict K w a kvs∧Q (.bl (kvs.lookup k).isSome) H2
theorem valV_keys (k:Str):∀ kvs:List (Str×V),valV (kvs.map fun p=>((Sum.inr p.1:Key),p.2)) (Sum.inr k)=kvs.lookup k
  | []=>rfl
  | (x,v)::r=>by
    have ih:=valV_keys k r
    by_cases e:x=k
    · subst e
      rw [List.map_cons,valV_pos rfl]
      simp [List.lookup]
    · rw [List.map_cons,valV_neg (fun z=>e (Sum.inr.inj z)),ih]
      have:(k==x)=false:=by simpa using fun z:k=x=>e z.symm
      simp [List.lookup,this]
theorem pe_kget (ho:PE X o td) (hi:PE X i ty) (hs:NoSl i):PE X (.Subscript o i pos) (tKGet X.K X.w td ty):=by
  intro pins s σ H Q I h
  refine subD_of PySem.F.slot_dict_getitem.lookup hs (thn (ho pins s σ H _ I h) fun u s1 ⟨x,H1,I1,rx,q1⟩=>thn (hi pins s1 σ H1 _ I1 q1) fun iv s2 ⟨y,H2,I2,ry,a,kvs,k,v,ex,ey,D,l,q2⟩=>?_)
  subst ex ey
  obtain rfl:u=Value.ref a:=rx
  obtain ⟨f,m,hf⟩:=D.map I2
  have hk:=hf (Sum.inr k)
  rw [valV_keys,l] at hk
  obtain ⟨w',hw,rw'⟩:=RelO.some_of hk
  exact ⟨m.typeIs,wpAny_getItem_of (kV_is (k:=Sum.inr k) ry) m hw ⟨v,H2,I2.tok _,rw',q2⟩⟩
theorem pc_kin (hi:PE X i ty) (ho:PE X o td):PC X .In i o (tKIn X.K X.w ty td):=by
  intro pins s σ H Q I h
  refine thn (hi pins s σ H _ I h) fun iv s1 ⟨y,H1,I1,ry,q1⟩=>thn (ho pins s1 σ H1 _ I1 q1) fun u s2 ⟨x,H2,I2,rx,a,kvs,k,ex,ey,D,q2⟩=>?_
  subst ex ey
  obtain rfl:u=Value.ref a:=rx
  obtain ⟨f,m,hf⟩:=D.map I2
  have hk:=(hf (Sum.inr k)).isSome_eq
  rw [valV_keys] at hk
  refine wpAny_in_of (kV_is (k:=Sum.inr k) ry) D.ns m ?_
  rw [←hk]
  exact ⟨.bl _,H2,I2.tok _,rfl,q2⟩
end
theorem for_str {x:Str}{g:TG}{tb:TS}{D:Ends}{σ:St}{H:Hp}(Pv:Nat→St→Hp→Prop) (h0:Pv 0 σ H)
    (hs:∀ i c σ H,x.cps.toList[i]?=some c→Pv i σ H→g (.str ⟨#[c]⟩) σ H fun σ2 H2=>tb { D with nx:=Pv (i+1),ct:=Pv (i+1),bk:=D.nx } σ2 H2) (hd:∀ σ H,Pv x.cps.toList.length σ H→D.nx σ H) :
    ∃ W:Nat→Nat→St→Hp→Prop,(∃ m,W 0 m σ H)∧∀ i m σ H,W i m σ H→
      ((Its x).stop i H∧D.nx σ H)∨((Its x).go i H∧∃ N:St→Hp→Prop,(∀ σ' H',N σ' H'→∃ m',m'<m∧W (i+1) m' σ' H')∧∀ y H',(Its x).yld i H y H'→g y σ H' fun σ2 H2=>tb { D with nx:=N,ct:=N,bk:=D.nx } σ2 H2):=by
  have hn:x.cps.toList.length=x.cps.size:=by simp
  refine ⟨fun i m σ H=>m=x.cps.size-i∧i≤x.cps.size∧Pv i σ H,⟨x.cps.size,by simp,Nat.zero_le _,h0⟩,?_⟩
  rintro i m σ H ⟨rfl,hi,p⟩
  by_cases hlt:i<x.cps.size
  · refine .inr ⟨hlt,Pv (i+1),fun σ' H' p'=>⟨x.cps.size-(i+1),by omega,rfl,hlt,p'⟩,fun y H' z=>?_⟩
    obtain ⟨e,c,hc,rfl⟩:=z
    subst e
    exact hs i c σ _ (by simpa using hc) p
  · have e:i=x.cps.size:=by omega
    subst e
    exact .inl ⟨Nat.le_refl _,hd σ H (by rw [hn]; exact p)⟩
theorem for_enum {K:PySem.W.Frag}{a:Addr}{xs:List V}{g:TG}{tb:TS}{D:Ends}{σ:St}{H:Hp}(Pv:Nat→St→Hp→Prop) (h0:Pv 0 σ H) (hl:∀ i σ H,i≤xs.length→Pv i σ H→SqL K H a xs)
    (hs:∀ i x σ H T,xs[i]?=some x→Pv i σ H→H T=none→g (.ref T) σ (upd H T (.tup [.int (i:Nat),x])) fun σ2 H2=>tb { D with nx:=Pv (i+1),ct:=Pv (i+1),bk:=D.nx } σ2 H2) (hd:∀ σ H,Pv xs.length σ H→D.nx σ H) :
    ∃ W:Nat→Nat→St→Hp→Prop,(∃ m,W 0 m σ H)∧∀ i m σ H,W i m σ H→
      ((Ite K a).stop i H∧D.nx σ H)∨((Ite K a).go i H∧∃ N:St→Hp→Prop,(∀ σ' H',N σ' H'→∃ m',m'<m∧W (i+1) m' σ' H')∧∀ x H',(Ite K a).yld i H x H'→g x σ H' fun σ2 H2=>tb { D with nx:=N,ct:=N,bk:=D.nx } σ2 H2):=by
  refine ⟨fun i m σ H=>m=xs.length-i∧i≤xs.length∧Pv i σ H,⟨xs.length,by simp,Nat.zero_le _,h0⟩,?_⟩
  rintro i m σ H ⟨rfl,hi,p⟩
  have q:=hl i σ H hi p
  by_cases hlt:i<xs.length
  · refine .inr ⟨⟨xs,xs[i],q,by simp [hlt]⟩,Pv (i+1),fun σ' H' p'=>⟨xs.length-(i+1),by omega,rfl,hlt,p'⟩,fun x H' y=>?_⟩
    obtain ⟨T,z,rfl,hT,rfl,hz⟩:=y
    exact hs i z σ H T (hz xs q) p hT
  · have e:i=xs.length:=by omega
    subst e
    exact .inl ⟨⟨xs,q,Nat.le_refl _⟩,hd σ H p⟩
def OffD (D:Addr) (H H':Hp):Prop:=∀ b o,b≠D→H b=some o→H' b=some o
theorem OffD.refl {D:Addr}{H:Hp}:OffD D H H:=fun _ _ _ e=>e
theorem OffD.trans {D:Addr}{H H1 H2:Hp}(a:OffD D H H1) (b:OffD D H1 H2):OffD D H H2:=fun c o n e=>b c o n (a c o n e)
theorem OffD.upd {D:Addr}{H:Hp}{o:HO}:OffD D H (upd H D o):=fun b u n e=>by
  rw [upd_ne n]
  exact e
def EachV {β:Type}(H:Hp) (p:Addr) (S:Hp→V→β→Prop) (ys:List β):Prop:=∃ vs:List V,H p=some (.lst vs)∧Paired (fun v y=>S H v y) vs ys
theorem paired_app {α β:Type}{G:α→β→Prop}:∀ {l:List α}{m:List β}{a:α}{b:β},Paired G l m→G a b→Paired G (l++[a]) (m++[b])
  | _,_,_,_,.nil,h=>.cons h .nil
  | _,_,_,_,.cons r t,h=>.cons r (paired_app t h)
theorem paired_len {α β:Type}{G:α→β→Prop}:∀ {l:List α}{m:List β},Paired G l m→l.length=m.length
  | _,_,.nil=>rfl
  | _,_,.cons _ t=>by rw [List.length_cons,List.length_cons,paired_len t]
theorem paired_at {α β:Type}{G:α→β→Prop}:∀ {l:List α}{m:List β}{i:Nat}{a:α}{b:β},Paired G l m→l[i]?=some a→m[i]?=some b→G a b
  | _,_,_,_,_,.nil,h,_=>by simp at h
  | _,_,0,_,_,.cons r _,h,k=>by
    simp at h k
    subst h k
    exact r
  | _,_,i+1,_,_,.cons _ t,h,k=>by
    simp at h k
    exact paired_at t h k
section
variable {α β:Type}{g:TG}{tt:TT}{te:TE}{vs:List Nat}{σ:St}{H1:Hp}{D:Addr}{Qd:Hp→Prop}{p:α→Bool}{f:α→β}{S:Hp→V→β→Prop}
def LcTurn (g:TG) (tt:TT) (te:TE) (vs:List Nat) (σ:St) (D:Addr) (p:α→Bool) (f:α→β) (S:Hp→V→β→Prop) (v:V) (x:α) (H':Hp):Prop:=
  ∀ (Fin:V→Hp→Prop) (Nx:Hp→Prop),(p x=true→∀ H2 y,Same H' H2→S H2 y (f x)→Fin y H2)→(p x=false→∀ H2,Same H' H2→Nx H2)→
    g v (wipe σ vs) H' fun σ2 H2=>wipe σ2 vs=wipe σ vs∧tt σ2 H2 fun b H3=>if b=true then te σ2 H3 Fin else Nx H3
def LcInv (H1:Hp) (D:Addr) (p:α→Bool) (f:α→β) (S:Hp→V→β→Prop) (xs:List α) (i:Nat) (H:Hp):Prop:=
  OffD D H1 H∧EachV H D S (((xs.take i).filter p).map f)
theorem take_next {xs:List α}{i:Nat}{x:α}(h:xs[i]?=some x):xs.take (i+1)=xs.take i++[x]:=by
  rw [List.take_add_one,h]
  rfl
theorem lc_step {xs:List α}{i:Nat}{x:α}{v:V}{H:Hp}(hz:xs.length≤100000) (hD:H1 D=none) (mono:∀ H H' y z acc,H D=some (.lst acc)→OffD D H H'→S H y z→S H' y z) (hx:xs[i]?=some x) (inv:LcInv H1 D p f S xs i H)
    (turn:LcTurn g tt te vs σ D p f S v x H) :
    g v (wipe σ vs) H fun σ2 H2=>wipe σ2 vs=wipe σ vs∧tt σ2 H2 fun b H3=>if b=true then te σ2 H3 fun y H4=>∃ acc,H4 D=some (.lst acc)∧acc.length<sizeLine∧LcInv H1 D p f S xs (i+1) (upd H4 D (.lst (acc++[y]))) else LcInv H1 D p f S xs (i+1) H3:=by
  obtain ⟨o1,acc,e1,pr⟩:=inv
  have hi:=(List.getElem?_eq_some_iff.mp hx).1
  have sD:∀ H2,Same H H2→OffD D H H2:=fun H2 s b o _ e=>s b o e
  refine turn (fun y H4=>∃ acc,H4 D=some (.lst acc)∧acc.length<sizeLine∧LcInv H1 D p f S xs (i+1) (upd H4 D (.lst (acc++[y])))) (LcInv H1 D p f S xs (i+1)) (fun hp H4 y s hS=>⟨acc,s _ _ e1,?_,?_,acc++[y],upd_same,?_⟩) (fun hp H3 s=>⟨?_,acc,s _ _ e1,?_⟩)
  · rw [paired_len pr,List.length_map]
    refine Nat.lt_of_le_of_lt (Nat.le_trans (List.length_filter_le _ _) ?_) (show 100000<sizeLine by decide)
    rw [List.length_take]
    omega
  · exact (o1.trans (sD _ s)).trans OffD.upd
  · rw [take_next hx,List.filter_append,List.map_append,List.filter_cons,if_pos hp]
    refine paired_app (Paired.mapP pr fun v y h=>mono _ _ _ _ acc (s _ _ e1) OffD.upd (mono _ _ _ _ acc e1 (sD _ s) h)) (mono _ _ _ _ acc (s _ _ e1) OffD.upd hS)
  · exact o1.trans (sD _ s)
  · rw [take_next hx,List.filter_append,List.map_append,List.filter_cons,if_neg (by rw [hp]; exact Bool.false_ne_true)]
    rw [List.filter_nil,List.map_nil,List.append_nil]
    exact Paired.mapP pr fun v y h=>mono _ _ _ _ acc e1 (sD _ s) h
theorem lc_zero {xs:List α}(hD:H1 D=none):LcInv H1 D p f S xs 0 (upd H1 D (.lst [])):=⟨OffD.upd,[],upd_same,by rw [List.take_zero]; exact .nil⟩
theorem lc_mapL {K:PySem.W.Frag}{a:Addr}{as:List V}{xs:List α}(hl:as.length=xs.length) (hz:xs.length≤100000) (hD:H1 D=none) (hS:SqL K H1 a as) (mono:∀ H H' y z acc,H D=some (.lst acc)→OffD D H H'→S H y z→S H' y z)
    (turn:∀ (i:Nat) (v:V) (x:α) (H':Hp),as[i]?=some v→xs[i]?=some x→Same H1 H'→LcTurn g tt te vs σ D p f S v x H') (hd:∀ H,Same H1 H→EachV H D S ((xs.filter p).map f)→Qd H) :
    ∃ W:Nat→Nat→Hp→Prop,(∃ m,W 0 m (upd H1 D (.lst [])))∧∀ i m H,W i m H→
      ((Itl K a).stop i H∧Qd H)∨((Itl K a).go i H∧∃ Nx:Hp→Prop,(∀ H',Nx H'→∃ m',m'<m∧W (i+1) m' H')∧∀ x H',(Itl K a).yld i H x H'→g x (wipe σ vs) H' fun σ2 H2=>wipe σ2 vs=wipe σ vs∧tt σ2 H2 fun b H3=>
        if b=true then te σ2 H3 fun y H4=>∃ acc,H4 D=some (.lst acc)∧acc.length<sizeLine∧Nx (upd H4 D (.lst (acc++[y]))) else Nx H3):=by
  refine lc_list (K:=K) (a:=a) (xs:=as) (LcInv H1 D p f S xs) (lc_zero hD) (fun i H _ inv=>?_) (fun i v H hv inv=>?_) (fun H inv=>?_)
  · rcases hS with (h | ⟨o,h⟩) | h
    · exact .inl (.inl (inv.1 _ _ (ne_of_none h hD) h))
    · exact .inl (.inr ⟨o,inv.1 _ _ (ne_of_none h hD) h⟩)
    · exact .inr h
  · have hi:=(List.getElem?_eq_some_iff.mp hv).1
    obtain ⟨x,hx⟩:∃ x,xs[i]?=some x:=⟨_,List.getElem?_eq_getElem (by omega)⟩
    exact lc_step hz hD mono hx inv (turn i v x H hv hx fun b o e=>inv.1 b o (ne_of_none e hD) e)
  · have:=inv.2
    rw [hl,List.take_length] at this
    exact hd H (fun b o e=>inv.1 b o (ne_of_none e hD) e) this
end
section
variable {β:Type}{g:TG}{tt:TT}{te:TE}{vs:List Nat}{σ:St}{H1:Hp}{D:Addr}{Qd:Hp→Prop}{p:Nat→Bool}{f:Nat→β}{S:Hp→V→β→Prop}
theorem lc_mapR {lo:Int}{n:Nat}(hz:n≤100000) (hD:H1 D=none) (mono:∀ H H' y z acc,H D=some (.lst acc)→OffD D H H'→S H y z→S H' y z)
    (turn:∀ i H',i<n→Same H1 H'→LcTurn g tt te vs σ D p f S (.int (lo+i)) i H') (hd:∀ H,Same H1 H→EachV H D S (((List.range n).filter p).map f)→Qd H) :
    ∃ W:Nat→Nat→Hp→Prop,(∃ m,W 0 m (upd H1 D (.lst [])))∧∀ i m H,W i m H→
      ((Itr lo n).stop i H∧Qd H)∨((Itr lo n).go i H∧∃ Nx:Hp→Prop,(∀ H',Nx H'→∃ m',m'<m∧W (i+1) m' H')∧∀ x H',(Itr lo n).yld i H x H'→g x (wipe σ vs) H' fun σ2 H2=>wipe σ2 vs=wipe σ vs∧tt σ2 H2 fun b H3=>
        if b=true then te σ2 H3 fun y H4=>∃ acc,H4 D=some (.lst acc)∧acc.length<sizeLine∧Nx (upd H4 D (.lst (acc++[y]))) else Nx H3):=by
  refine lc_range (lo:=lo) (n:=n) (LcInv H1 D p f S (List.range n)) (lc_zero hD) (fun i H hi inv=>?_) (fun H inv=>?_)
  · exact lc_step (by rw [List.length_range]; exact hz) hD mono (List.getElem?_range hi) inv (turn i H hi fun b o e=>inv.1 b o (ne_of_none e hD) e)
  · have:=inv.2
    rw [List.take_of_length_le (by rw [List.length_range]; exact Nat.le_refl _)] at this
    exact hd H (fun b o e=>inv.1 b o (ne_of_none e hD) e) this
theorem lc_mapS {x:Str}(hz:x.cps.size≤100000) (hD:H1 D=none) (mono:∀ H H' y z acc,H D=some (.lst acc)→OffD D H H'→S H y z→S H' y z)
    (turn:∀ (i c:Nat) (H':Hp),x.cps.toList[i]?=some c→Same H1 H'→LcTurn g tt te vs σ D p f S (.str ⟨#[c]⟩) c H') (hd:∀ H,Same H1 H→EachV H D S ((x.cps.toList.filter p).map f)→Qd H) :
    ∃ W:Nat→Nat→Hp→Prop,(∃ m,W 0 m (upd H1 D (.lst [])))∧∀ i m H,W i m H→
      ((Its x).stop i H∧Qd H)∨((Its x).go i H∧∃ Nx:Hp→Prop,(∀ H',Nx H'→∃ m',m'<m∧W (i+1) m' H')∧∀ y H',(Its x).yld i H y H'→g y (wipe σ vs) H' fun σ2 H2=>wipe σ2 vs=wipe σ vs∧tt σ2 H2 fun b H3=>
        if b=true then te σ2 H3 fun y H4=>∃ acc,H4 D=some (.lst acc)∧acc.length<sizeLine∧Nx (upd H4 D (.lst (acc++[y]))) else Nx H3):=by
  have hn:x.cps.toList.length=x.cps.size:=by simp
  refine ⟨fun i m H=>m=x.cps.size-i∧i≤x.cps.size∧LcInv H1 D p f S x.cps.toList i H,⟨x.cps.size,by simp,Nat.zero_le _,lc_zero hD⟩,?_⟩
  rintro i m H ⟨rfl,hi,inv⟩
  by_cases hlt:i<x.cps.size
  · refine .inr ⟨hlt,LcInv H1 D p f S x.cps.toList (i+1),fun H' p'=>⟨x.cps.size-(i+1),by omega,rfl,hlt,p'⟩,fun y H' z=>?_⟩
    obtain ⟨e,c,hc,rfl⟩:=z
    subst e
    have hc':x.cps.toList[i]?=some c:=by simpa using hc
    exact lc_step (by rw [hn]; exact hz) hD mono hc' inv (turn i c _ hc' fun b o e=>inv.1 b o (ne_of_none e hD) e)
  · have e:i=x.cps.size:=by omega
    subst e
    refine .inl ⟨Nat.le_refl _,hd H (fun b o e=>inv.1 b o (ne_of_none e hD) e) ?_⟩
    have:=inv.2
    rw [←hn,List.take_length] at this
    exact this
end
theorem sq {t u:TS}{D:Ends}{σ:St}{H:Hp}(h:t { D with nx:=u D } σ H):tSeq t u D σ H:=h
theorem yes_do {σ:St}{H:Hp}{te:TE}{Fin:VK}{Nx:Hp→Prop}(h:te σ H Fin):tYes σ H fun b H3=>if b=true then te σ H3 Fin else Nx H3:=by
  show if true=true then te σ H Fin else Nx H
  rw [if_pos rfl]
  exact h
theorem flt_all {α:Type}(l:List α):l.filter (fun _=>true)=l:=List.filter_eq_self.mpr fun _ _=>rfl
theorem if_join {tc:TT}{t u:TS}{D:Ends}{σ:St}{H:Hp}(Post:St→Hp→Prop) (hk:∀ σ' H',Post σ' H'→D.nx σ' H') (h:(∀ σ' H',Post σ' H'→D.nx σ' H')→tIfS tc t u D σ H):tIfS tc t u D σ H:=h hk
section
variable {X:Cx}
def rSetOf (K:PySem.W.Frag):List V→Hp→VK→Prop:=fun vs H Q=>∃ (a:Addr) (ns:List Int),vs=[V.ref a]∧SqL K H a (ns.map V.int)∧ns.length≤1000∧
  ∀ p,H p=none→Q (.ref p) (upd H p (.set (fun k=>(firstMet (fun i=>ns.getD i 0) ns.length).any (·==k)) (firstMet (fun i=>ns.getD i 0) ns.length).length))
theorem cr_set (hc:X.calm=true):CallR X (.type "set") (rSetOf X.K):=by
  intro pins s σ H vs us Q I r h
  obtain ⟨a,ns,rfl,hs,hz,q⟩:=h
  obtain ⟨its,rv,hl,_⟩:=I.list hs
  rw [Vals.ref1 r]
  have hi:=rv.ints
  have hlen:its.length=ns.length:=by
    have:=rv.length
    rw [List.length_map] at this
    exact this.symm
  refine PySem.call_set_list (I.ok.hd hc) hl.isList (by simpa using hi) (by rw [List.size_toArray,hlen]; unfold scanBound; omega) fun h' tk hS hk=>?_
  have es:its.toArray.size=ns.length:=by rw [List.size_toArray,hlen]
  rw [es] at hS
  exact ⟨.ref s.heap.objs.size,_,I.laid (o:=.set (fun k=>(firstMet (fun i=>ns.getD i 0) ns.length).any (·==k)) (firstMet (fun i=>ns.getD i 0) ns.length).length) (t':=tk) (fun b o e=>hk b o (Heap.lt_size e) e) (Nat.le_refl _) hS,rfl,q _ (I.hok.fresh (Nat.le_refl _))⟩
theorem call_lenS:CallR X (.builtin "len") (fun xs H Q=>∃ a S n,xs=[V.ref a]∧H a=some (.set S n)∧n≤1000∧Q (.int (n:Nat)) H):=by
  intro pins s σ H xs us Q I r h
  obtain ⟨a,S,n,rfl,ha,hn,q⟩:=h
  rw [Vals.ref1 r]
  obtain ⟨o,es,ep,t,e,hx,hd,_,_,_,hf,rfl⟩:=I.hok a _ ha
  exact PySem.call_len_set e hx hd hf (by omega) ⟨.int _,H,(I.tok _).tok _,⟨_,rfl⟩,q⟩
end
structure KDictI (K:PySem.W.Frag) (a:Addr) (kvs:List (Int×V)):Prop where
  ex:∃ (o:Obj) (es:Array DictEntry) (n:Nat),K.lookup a=some o∧o.ExactDict∧o.data=.dict es n∧Paired (fun (p:Int×V) (e:DictEntry)=>(∃ t,e.key=.int p.1 t)∧e.hash=hashInt p.1∧RelV p.2 e.val) kvs es.toList
  ns:(a==sysModules)=false
theorem kdi_pairs {P:Program}{w:World}:∀ {kvs:List (Int×V)}{es:List DictEntry},Paired (fun (p:Int×V) (e:DictEntry)=>(∃ t,e.key=.int p.1 t)∧e.hash=hashInt p.1∧RelV p.2 e.val) kvs es→
    Pairs (mixKind P w) es (es.map fun e=>((match e.key with | .int x _=>Sum.inl x | _=>Sum.inl 0:Key),e.val))∧KV (kvs.map fun p=>((Sum.inl p.1:Key),p.2)) (es.map fun e=>((match e.key with | .int x _=>Sum.inl x | _=>Sum.inl 0:Key),e.val))∧∀ e∈es,∃ k,(mixKind P w).is k e.key=true∧e.hash=(mixKind P w).hash k
  | _,_,.nil=>⟨.nil,.nil,fun e he=>by cases he⟩
  | _,_,.cons (a:=p) (b:=e) ⟨⟨t,hk⟩,hh,hv⟩ r=>by
    obtain ⟨r1,r2,r3⟩:=kdi_pairs (P:=P) (w:=w) r
    refine ⟨.cons ?_ rfl r1,.cons ?_ r2,fun e' he=>?_⟩
    · dsimp only
      rw [hk]
      exact mixKind_int P w p.1 t
    · dsimp only
      rw [hk]
      exact ⟨rfl,hv⟩
    · rcases List.mem_cons.mp he with rfl | he
      · exact ⟨Sum.inl p.1,by rw [hk]; exact mixKind_int P w p.1 t,hh⟩
      · exact r3 e' he
theorem KDictI.map {X:Cx}{pins:List (Addr×Obj)}{σ:St}{H:Hp}{s:Shared}{a:Addr}{kvs:List (Int×V)}(I:Inv X pins σ H s) (D:KDictI X.K a kvs) :
    ∃ f:Key→Option Value,s.heap.MapOf (mixKind X.prog X.w) a f∧∀ k,RelO (valV (kvs.map fun p=>((Sum.inl p.1:Key),p.2)) k) (f k):=by
  obtain ⟨o,es,n,hl,hx,hd,hp⟩:=D.ex
  obtain ⟨h1,h2,h3⟩:=kdi_pairs (P:=X.prog) (w:=X.w) hp
  refine ⟨_,⟨o,es,n,I.kIn a o hl,hx,hd,fun e he=>h3 e (Array.mem_toList_iff.mpr he),fun k=>?_⟩,fun k=>KV.val h2 k⟩
  have z:=h1.find k
  rw [←z]
  obtain ⟨l⟩:=es
  simp [findBy]
theorem valV_ints (k:Int):∀ kvs:List (Int×V),valV (kvs.map fun p=>((Sum.inl p.1:Key),p.2)) (Sum.inl k)=kvs.lookup k
  | []=>rfl
  | (x,v)::r=>by
    have ih:=valV_ints k r
    by_cases e:x=k
    · subst e
      rw [List.map_cons,valV_pos rfl]
      simp [List.lookup]
    · rw [List.map_cons,valV_neg (fun z=>e (Sum.inl.inj z)),ih]
      have:(k==x)=false:=by simpa using fun z:k=x=>e z.symm
      simp [List.lookup,this]
section
variable {X:Cx}{o i:Expr}{pos:Pos}{td ty:TE}
def tKGetI (K:PySem.W.Frag) (td ty:TE):TE:=fun σ H Q=>td σ H fun x H1=>ty σ H1 fun y H2=>∃ a kvs k v,x=.ref a∧y=.int k∧KDictI K a kvs∧kvs.lookup k=some v∧Q v H2
def tKInI (K:PySem.W.Frag) (neg:Bool) (ty td:TE):TE:=fun σ H Q=>ty σ H fun y H1=>td σ H1 fun x H2=>∃ a kvs k,x=.ref a∧y=.int k∧KDictI K a kvs∧Q (.bl (if neg then !(kvs.lookup k).isSome else (kvs.lookup k).isSome)) H2
theorem pe_kgetI (ho:PE X o td) (hi:PE X i ty) (hs:NoSl i):PE X (.Subscript o i pos) (tKGetI X.K td ty):=by
  intro pins s σ H Q I h
  refine subD_of PySem.F.slot_dict_getitem.lookup hs (thn (ho pins s σ H _ I h) fun u s1 ⟨x,H1,I1,rx,q1⟩=>thn (hi pins s1 σ H1 _ I1 q1) fun iv s2 ⟨y,H2,I2,ry,a,kvs,k,v,ex,ey,D,l,q2⟩=>?_)
  subst ex ey
  obtain rfl:u=Value.ref a:=rx
  obtain ⟨f,m,hf⟩:=D.map I2
  have hk:=hf (Sum.inl k)
  rw [valV_ints,l] at hk
  obtain ⟨w',hw,rw'⟩:=RelO.some_of hk
  exact ⟨m.typeIs,wpAny_getItem_of (kV_is (k:=Sum.inl k) ry) m hw ⟨v,H2,I2.tok _,rw',q2⟩⟩
theorem pc_kinI (hi:PE X i ty) (ho:PE X o td):PC X .In i o (tKInI X.K false ty td):=by
  intro pins s σ H Q I h
  refine thn (hi pins s σ H _ I h) fun iv s1 ⟨y,H1,I1,ry,q1⟩=>thn (ho pins s1 σ H1 _ I1 q1) fun u s2 ⟨x,H2,I2,rx,a,kvs,k,ex,ey,D,q2⟩=>?_
  subst ex ey
  obtain rfl:u=Value.ref a:=rx
  obtain ⟨f,m,hf⟩:=D.map I2
  have hk:=(hf (Sum.inl k)).isSome_eq
  rw [valV_ints] at hk
  refine wpAny_in_of (kV_is (k:=Sum.inl k) ry) D.ns m ?_
  rw [←hk]
  exact ⟨.bl _,H2,I2.tok _,rfl,q2⟩
theorem pc_knotI (hi:PE X i ty) (ho:PE X o td):PC X .NotIn i o (tKInI X.K true ty td):=by
  intro pins s σ H Q I h
  refine thn (hi pins s σ H _ I h) fun iv s1 ⟨y,H1,I1,ry,q1⟩=>thn (ho pins s1 σ H1 _ I1 q1) fun u s2 ⟨x,H2,I2,rx,a,kvs,k,ex,ey,D,q2⟩=>?_
  subst ex ey
  obtain rfl:u=Value.ref a:=rx
  obtain ⟨f,m,hf⟩:=D.map I2
  have hk:=(hf (Sum.inl k)).isSome_eq
  rw [valV_ints] at hk
  refine wpAny_notIn_of (kV_is (k:=Sum.inl k) ry) D.ns m ?_
  rw [←hk]
  exact ⟨.bl _,H2,I2.tok _,rfl,q2⟩
end
section
variable {X:Cx}
theorem mt_rjust:MtR X "str.rjust" (fun x xs H Q=>∃ a i,x=.str a∧xs=[.int i]∧PadOk i=true∧Q (.str (Txt.rjust a i)) H):=by
  intro pins s σ H x xs v us Q I rx rs h
  obtain ⟨a,i,rfl,rfl,hp,q⟩:=h
  obtain ⟨t,rfl⟩:=rx
  obtain ⟨u,rfl,⟨t',rfl⟩⟩:=vals1 rs
  exact PySem.SC.rjust hp fun t2 k=>⟨.str _,H,I.tok k,⟨t2,rfl⟩,q⟩
theorem op_mulS:OpR X (binaryOp .Mult) (fun x y H Q=>∃ a n,x=.str a∧y=.int n∧MulOk a n∧Q (.str (Txt.mul a n)) H):=by
  intro pins s σ H x y v u Q I rx ry h
  obtain ⟨a,n,rfl,rfl,ok,q⟩:=h
  obtain ⟨t,rfl⟩:=rx
  obtain ⟨t',rfl⟩:=ry
  exact PySem.SB.mul ok fun t2 k=>⟨.str _,H,I.tok k,⟨t2,rfl⟩,q⟩
end
theorem eqv_ints:∀ (l m:List Int),PyData.eqvAll (l.map PyData.int) (m.map PyData.int)=decide (l=m)
  | [],[]=>by simp [PyData.eqvAll]
  | [],_::_=>by simp [PyData.eqvAll]
  | _::_,[]=>by simp [PyData.eqvAll]
  | a::l,b::m=>by
    rw [List.map_cons,List.map_cons,PyData.eqvAll,eqv_ints l m]
    apply Bool.eq_iff_iff.mpr
    simp [PyData.eqv]
theorem lay_ints:∀ l:List Int,SeqAt.shaped (.list (l.map PyData.int))=true:=by
  intro l
  have d:∀ l:List Int,PyData.depthAll (l.map PyData.int)≤1:=by
    intro l
    induction l with
    | nil=>simp [PyData.depthAll]
    | cons a l ih=>
      rw [List.map_cons]
      simp only [PyData.depthAll,PyData.depth]
      omega
  have c:∀ l:List Int,PyData.canLayAll0 (l.map PyData.int)=true:=by
    intro l
    induction l with
    | nil=>simp [PyData.canLayAll0]
    | cons a l ih=>
      rw [List.map_cons]
      simp only [PyData.canLayAll0,PyData.canLay0,ih]
      rfl
  have:=d l
  unfold SeqAt.shaped
  rw [Bool.and_eq_true]
  exact ⟨by rw [PyData.canLay0]; exact c l,decide_eq_true (by rw [PyData.depth]; omega)⟩
section
variable {X:Cx}
theorem dp_ints {K:PySem.W.Frag}{H:Hp}:∀ l:List Int,DpAll K H (l.map V.int) (l.map PyData.int)
  | []=>.nil
  | a::l=>.cons (.int a) (dp_ints l)
def rNeL (K:PySem.W.Frag):R2:=fun x y H Q=>∃ (a b:Addr) (l m:List Int),x=.ref a∧y=.ref b∧SqL K H a (l.map V.int)∧SqL K H b (m.map V.int)∧Q (.bl (!decide (l=m))) H
theorem op_neL (hu:X.A.units+64<cLine):OpR X (compareOp .NotEq) (rNeL X.K):=by
  intro pins s σ H x y v u Q I rx ry h
  obtain ⟨a,b,l,m,rfl,rfl,h1,h2,q⟩:=h
  refine op_neD hu pins s σ H _ _ v u Q I rx ry ⟨_,_,.lst h1 (dp_ints l),.lst h2 (dp_ints m),lay_ints l,lay_ints m,?_⟩
  rw [PyData.eqv,eqv_ints]
  exact q
end
theorem for_zip {K:PySem.W.Frag}{a b:Addr}{xs ys:List V}{g:TG}{tb:TS}{D:Ends}{σ:St}{H:Hp}(hlen:xs.length=ys.length) (Pv:Nat→St→Hp→Prop) (h0:Pv 0 σ H) (hl:∀ i σ H,i≤xs.length→Pv i σ H→SqL K H a xs∧SqL K H b ys)
    (hs:∀ i x y σ H T,xs[i]?=some x→ys[i]?=some y→Pv i σ H→H T=none→g (.ref T) σ (upd H T (.tup [x,y])) fun σ2 H2=>tb { D with nx:=Pv (i+1),ct:=Pv (i+1),bk:=D.nx } σ2 H2) (hd:∀ σ H,Pv xs.length σ H→D.nx σ H) :
    ∃ W:Nat→Nat→St→Hp→Prop,(∃ m,W 0 m σ H)∧∀ i m σ H,W i m σ H→
      ((Itz K a b).stop i H∧D.nx σ H)∨((Itz K a b).go i H∧∃ N:St→Hp→Prop,(∀ σ' H',N σ' H'→∃ m',m'<m∧W (i+1) m' σ' H')∧∀ x H',(Itz K a b).yld i H x H'→g x σ H' fun σ2 H2=>tb { D with nx:=N,ct:=N,bk:=D.nx } σ2 H2):=by
  refine ⟨fun i m σ H=>m=xs.length-i∧i≤xs.length∧Pv i σ H,⟨xs.length,by simp,Nat.zero_le _,h0⟩,?_⟩
  rintro i m σ H ⟨rfl,hi,p⟩
  obtain ⟨q1,q2⟩:=hl i σ H hi p
  by_cases hlt:i<xs.length
  · refine .inr ⟨⟨xs,ys,xs[i],ys[i]'(by omega),q1,q2,by simp [hlt],by simp [show i<ys.length by omega]⟩,Pv (i+1),fun σ' H' p'=>⟨xs.length-(i+1),by omega,rfl,hlt,p'⟩,fun x H' y=>?_⟩
    obtain ⟨T,z1,z2,rfl,hT,rfl,e1,e2⟩:=y
    exact hs i z1 z2 σ H T (e1 xs q1) (e2 ys q2) p hT
  · have e:i=xs.length:=by omega
    subst e
    exact .inl ⟨⟨xs,ys,q1,q2,.inl (Nat.le_refl _)⟩,hd σ H p⟩
end L2
end
section
namespace JM
open Pu
def digit (c:UInt8):Bool:=decide (48≤c.toNat)&&decide (c.toNat≤57)
def dv (c:UInt8):Nat:=c.toNat-48
theorem valueOf_snoc (d:Bytes) (c:UInt8):valueOf (d++[c])=10 * valueOf d+dv c:=by
  unfold valueOf dv
  rw [List.foldl_append]
  rfl
theorem digitChar_byte:∀ d:Nat,d<10→(UInt8.ofNat (Nat.digitChar d).toNat)=UInt8.ofNat (48+d):=by decide
theorem dec_lt {n:Nat}(h:n<10):dec n=[UInt8.ofNat (48+n)]:=by
  unfold dec
  rw [Nat.toDigits_of_lt_base h]
  show [UInt8.ofNat (Nat.digitChar n).toNat]=_
  rw [digitChar_byte n h]
theorem dec_step {n:Nat}(h:10≤n):dec n=dec (n / 10)++[UInt8.ofNat (48+n % 10)]:=by
  have hm:n % 10<10:=Nat.mod_lt n (by decide)
  have t:Nat.toDigits 10 (n / 10)++Nat.toDigits 10 (n % 10)=Nat.toDigits 10 (10 * (n / 10)+n % 10):=Nat.toDigits_append_toDigits (by decide) (by omega) hm
  rw [Nat.div_add_mod] at t
  unfold dec
  rw [←t,List.map_append,Nat.toDigits_of_lt_base hm]
  show _++[UInt8.ofNat (Nat.digitChar (n % 10)).toNat]=_
  rw [digitChar_byte _ hm]
theorem byte_of {c:UInt8}(h:digit c=true):UInt8.ofNat (48+dv c)=c:=by
  unfold digit at h
  simp only [Bool.and_eq_true,decide_eq_true_eq] at h
  unfold dv
  rw [show 48+(c.toNat-48)=c.toNat by omega]
  exact UInt8.ofNat_toNat
theorem dv_lt {c:UInt8}(h:digit c=true):dv c<10:=by
  unfold digit at h
  simp only [Bool.and_eq_true,decide_eq_true_eq] at h
  unfold dv
  omega
theorem dv_byte:∀ d:Nat,d<10→dv (UInt8.ofNat (48+d))=d:=by decide
theorem digit_byte:∀ d:Nat,d<10→digit (UInt8.ofNat (48+d))=true:=by decide
theorem dec_digits (n:Nat):∀ c∈dec n,digit c=true:=by
  induction n using Nat.strongRecOn with
  | _ n ih=>
    by_cases h:n<10
    · rw [dec_lt h]
      intro c hc
      rw [List.mem_singleton.mp hc]
      exact digit_byte n h
    · rw [dec_step (by omega)]
      intro c hc
      rcases List.mem_append.mp hc with hc | hc
      · exact ih (n / 10) (by omega) c hc
      · rw [List.mem_singleton.mp hc]
        exact digit_byte _ (Nat.mod_lt n (by decide))
theorem valueOf_dec (n:Nat):valueOf (dec n)=n:=by
  induction n using Nat.strongRecOn with
  | _ n ih=>
    by_cases h:n<10
    · rw [dec_lt h]
      show 10 * 0+dv (UInt8.ofNat (48+n))=n
      rw [dv_byte n h]
      omega
    · rw [dec_step (by omega),valueOf_snoc,ih (n / 10) (by omega),dv_byte _ (Nat.mod_lt n (by decide))]
      omega
theorem dec_snoc {v:Nat}{c:UInt8}(hv:v≠0) (hc:digit c=true):dec (10 * v+dv c)=dec v++[c]:=by
  have h:=dv_lt hc
  rw [dec_step (by omega),show (10 * v+dv c) / 10=v by omega,show (10 * v+dv c) % 10=dv c by omega,byte_of hc]
theorem dec_one {c:UInt8}(hc:digit c=true):dec (dv c)=[c]:=by rw [dec_lt (dv_lt hc),byte_of hc]
theorem fold_ge:∀ (e:Bytes) (b:Nat),b≤e.foldl (fun (a:Nat) (c:UInt8)=>10 * a+(c.toNat-48)) b
  | [],b=>Nat.le_refl b
  | c::e,b=>Nat.le_trans (by omega) (fold_ge e (10 * b+(c.toNat-48)))
theorem valueOf_mono (d e:Bytes):valueOf d≤valueOf (d++e):=by
  unfold valueOf
  rw [List.foldl_append]
  exact fold_ge e _
def Rg (lo hi:Nat):Prop:=(lo,hi)∈[(0,79),(0,11),(1,80),(0,131),(2,20)]
def cbF:Nat→Nat→Nat→Nat→Nat→Bool
  | 0,_,_,_,_=>false
  | f+1,a,b,lo,hi=>if a≤hi then (if lo≤b then true else cbF f (a * 10) (b * 10+9) lo hi) else false
def canBegin (v lo hi:Nat):Bool:=if v=0 then lo==0 else cbF 4 v v lo hi
def anyN (d:Bytes) (lo hi:Nat):Bool:=(List.range (hi+1)).any fun (n:Nat)=>decide (lo≤n)&&d.isPrefixOf (dec n)
set_option maxRecDepth 100000 in
theorem fin1:∀ v,v<132→∀ p∈[(0,79),(0,11),(1,80),(0,131),(2,20)],canBegin v p.1 p.2=anyN (dec v) p.1 p.2:=by decide +kernel
theorem prefix_take {d e:Bytes}(h:d.isPrefixOf e=true):d=e.take d.length:=by
  obtain ⟨t,rfl⟩:=List.isPrefixOf_iff_prefix.mp h
  simp
theorem prefix_val {d e:Bytes}(h:d.isPrefixOf e=true):valueOf d≤valueOf e:=by
  obtain ⟨t,rfl⟩:=List.isPrefixOf_iff_prefix.mp h
  exact valueOf_mono d t
theorem canBegin_any {v lo hi:Nat}(h:Rg lo hi):canBegin v lo hi=anyN (dec v) lo hi:=by
  by_cases hv:v<132
  · exact fin1 v hv (lo,hi) h
  · have hh:hi<v:=by
      unfold Rg at h
      simp at h
      omega
    have e1:canBegin v lo hi=false:=by
      unfold canBegin cbF
      rw [if_neg (by omega),if_neg (by omega)]
    rw [e1]
    symm
    unfold anyN
    rw [List.any_eq_false]
    intro n hn
    have hn:=List.mem_range.mp hn
    intro q
    rw [Bool.and_eq_true] at q
    have z:=prefix_val q.2
    rw [valueOf_dec,valueOf_dec] at z
    omega
set_option maxRecDepth 100000 in
theorem fin2:∀ n,n<132→∀ k,k<4→k≠0→dec (valueOf ((dec n).take k))=(dec n).take k:=by decide +kernel
theorem fin3:∀ n,n<132→(dec n).length≤3:=by decide +kernel
theorem Rg.hi {lo hi:Nat}(h:Rg lo hi):hi<132:=by
  unfold Rg at h
  simp at h
  omega
theorem anyN_iff {d:Bytes}{lo hi:Nat}:anyN d lo hi=true↔∃ n,lo≤n∧n≤hi∧d.isPrefixOf (dec n)=true:=by
  unfold anyN
  rw [List.any_eq_true]
  constructor
  · rintro ⟨n,h1,h2⟩
    rw [Bool.and_eq_true,decide_eq_true_eq] at h2
    exact ⟨n,h2.1,by have:=List.mem_range.mp h1; omega,h2.2⟩
  · rintro ⟨n,h1,h2,h3⟩
    exact ⟨n,List.mem_range.mpr (by omega),by rw [Bool.and_eq_true,decide_eq_true_eq]; exact ⟨h1,h3⟩⟩
theorem any_len {d:Bytes}{lo hi:Nat}(h:Rg lo hi) (g:anyN d lo hi=true):d.length≤3:=by
  obtain ⟨n,_,h2,h3⟩:=anyN_iff.mp g
  have:=h.hi
  have z:=fin3 n (by omega)
  have e:=prefix_take h3
  have:=congrArg List.length e
  rw [List.length_take] at this
  omega
theorem any_dec {d:Bytes}{lo hi:Nat}(h:Rg lo hi) (g:anyN d lo hi=true) (hd:d≠[]):dec (valueOf d)=d:=by
  obtain ⟨n,_,h2,h3⟩:=anyN_iff.mp g
  have:=h.hi
  have l:=any_len h g
  have e:=prefix_take h3
  have q:=fin2 n (by omega) d.length (by omega) (by
    intro z
    exact hd (List.length_eq_zero_iff.mp z))
  rw [←e] at q
  exact q
theorem begins_any {d:Bytes}{lo hi:Nat}(h:Rg lo hi):numberBegins lo hi d=(d==[] || anyN d lo hi):=by
  unfold numberBegins
  cases e:anyN d lo hi with
  | true=>
    have:=any_len h e
    unfold anyN at e
    rw [e,decide_eq_true (show d.length≤6 by omega)]
    rfl
  | false=>
    unfold anyN at e
    rw [e,Bool.and_false]
theorem begins_snoc {d:Bytes}{c:UInt8}{lo hi:Nat}(h:Rg lo hi) (g:numberBegins lo hi d=true) :
    numberBegins lo hi (d++[c])=(digit c&&!(decide (d≠[])&&decide (valueOf d=0))&&canBegin (10 * valueOf d+dv c) lo hi):=by
  rw [begins_any h] at g ⊢
  have e0:(d++[c]==[])=false:=by
    cases d <;> rfl
  rw [e0,Bool.false_or]
  by_cases hc:digit c=true
  · rw [hc,Bool.true_and]
    by_cases hd:d=[]
    · subst hd
      rw [canBegin_any h]
      show anyN [c] lo hi=(!(decide (([]:Bytes)≠[])&&_)&&anyN (dec (10 * 0+dv c)) lo hi)
      rw [show 10 * 0+dv c=dv c by omega,dec_one hc]
      simp
    · have gd:anyN d lo hi=true:=by
        have:(d==[])=false:=by
          cases d with
          | nil=>exact absurd rfl hd
          | cons _ _=>rfl
        rw [this,Bool.false_or] at g
        exact g
      have ed:=any_dec h gd hd
      by_cases hv:valueOf d=0
      · rw [hv,decide_eq_true hd]
        show _=false
        cases e:anyN (d++[c]) lo hi with
        | false=>rfl
        | true=>
          exfalso
          have z:=any_dec h e (by cases d <;> simp)
          rw [valueOf_snoc,hv,show 10 * 0+dv c=dv c by omega,dec_one hc] at z
          have:=congrArg List.length z
          simp at this
          exact hd this
      · rw [decide_eq_false hv,Bool.and_false]
        rw [canBegin_any h,dec_snoc hv hc,ed]
        rfl
  · have hc':digit c=false:=by simpa using hc
    rw [hc',Bool.false_and,Bool.false_and]
    cases e:anyN (d++[c]) lo hi with
    | false=>rfl
    | true=>
      exfalso
      obtain ⟨n,_,_,h3⟩:=anyN_iff.mp e
      obtain ⟨t,et⟩:=List.isPrefixOf_iff_prefix.mp h3
      exact hc (dec_digits n c (by rw [←et]; simp))
def greedy (lo hi:Nat):Nat→Bool→Bytes→Nat
  | _,_,[]=>0
  | v,st,c::r=>if digit c=true∧¬(st=true∧v=0)∧canBegin (10 * v+dv c) lo hi=true then greedy lo hi (10 * v+dv c) true r+1 else 0
theorem greedy_le (lo hi:Nat):∀ (L:Bytes) (v:Nat) (st:Bool),greedy lo hi v st L≤L.length
  | [],v,st=>Nat.le_refl _
  | c::r,v,st=>by
    unfold greedy
    split
    · have:=greedy_le lo hi r (10 * v+dv c) true
      rw [List.length_cons]
      omega
    · exact Nat.zero_le _
theorem greedy_begins {lo hi:Nat}(h:Rg lo hi):∀ (r d:Bytes),numberBegins lo hi d=true→∀ k,k≤r.length→
    (numberBegins lo hi (d++r.take k)=true↔k≤greedy lo hi (valueOf d) (decide (d≠[])) r)
  | [],d,g,k,hk=>by
    have:k=0:=by simpa using hk
    subst this
    simp [g]
  | c::r,d,g,0,hk=>by simp [g]
  | c::r,d,g,k+1,hk=>by
    have s:=begins_snoc (c:=c) h g
    have e:d++(c::r).take (k+1)=(d++[c])++r.take k:=by simp
    rw [e]
    unfold greedy
    by_cases q:digit c=true∧¬(decide (d≠[])=true∧valueOf d=0)∧canBegin (10 * valueOf d+dv c) lo hi=true
    · rw [if_pos q]
      have gc:numberBegins lo hi (d++[c])=true:=by
        rw [s,q.1,q.2.2]
        simp only [Bool.true_and,Bool.and_true]
        have q2:=q.2.1
        simp only [decide_eq_true_eq] at q2
        simp only [Bool.not_eq_true',Bool.and_eq_false_iff,decide_eq_false_iff_not]
        by_cases hd:d=[]
        · exact .inl (by simpa using hd)
        · exact .inr fun z=>q2 ⟨hd,z⟩
      have ih:=greedy_begins h r (d++[c]) gc k (by simpa using hk)
      rw [valueOf_snoc,show decide (d++[c]≠[])=true by simp] at ih
      rw [ih]
      omega
    · rw [if_neg q]
      constructor
      · intro z
        exfalso
        have gc:numberBegins lo hi (d++[c])=true:=by
          rw [begins_any h] at z ⊢
          rw [Bool.or_eq_true] at z ⊢
          rcases z with z | z
          · exfalso
            have:=eq_of_beq z
            simp at this
          · refine .inr ?_
            obtain ⟨n,h1,h2,h3⟩:=anyN_iff.mp z
            refine anyN_iff.mpr ⟨n,h1,h2,?_⟩
            obtain ⟨t,et⟩:=List.isPrefixOf_iff_prefix.mp h3
            exact List.isPrefixOf_iff_prefix.mpr ⟨r.take k++t,by rw [←et]; simp⟩
        rw [s] at gc
        simp only [Bool.and_eq_true,Bool.not_eq_true',Bool.and_eq_false_iff,decide_eq_false_iff_not] at gc
        refine q ⟨gc.1.1,?_,gc.2⟩
        rintro ⟨a,b⟩
        rcases gc.1.2 with z | z
        · exact z (of_decide_eq_true a)
        · exact z b
      · intro z
        omega
def figs (lo hi:Nat) (L:Bytes):Nat:=greedy lo hi 0 false L
theorem figs_le (lo hi:Nat) (L:Bytes):figs lo hi L≤L.length:=greedy_le lo hi L 0 false
theorem figs_iff {lo hi:Nat}(h:Rg lo hi) (L:Bytes) {k:Nat}(hk:k≤L.length):numberBegins lo hi (L.take k)=true↔k≤figs lo hi L:=by
  have e:=greedy_begins h L [] (by rfl) k hk
  exact e
theorem figs_digits {lo hi:Nat}:∀ (L:Bytes) (v:Nat) (st:Bool) (i:Nat),i<greedy lo hi v st L→∃ c,L[i]?=some c∧digit c=true
  | [],v,st,i,hi'=>by simp [greedy] at hi'
  | c::r,v,st,i,hi'=>by
    unfold greedy at hi'
    split at hi'
    · rename_i q
      match i with
      | 0=>exact ⟨c,rfl,q.1⟩
      | i+1=>exact figs_digits (lo:=lo) (hi:=hi) r (10 * v+dv c) true i (by omega)
    · omega
theorem figs_dec {lo hi:Nat}(h:Rg lo hi) (L:Bytes) {k:Nat}(hk:k≤figs lo hi L) (h0:k≠0):dec (valueOf (L.take k))=L.take k:=by
  have hl:=figs_le lo hi L
  have g:=(figs_iff h L (Nat.le_trans hk hl)).mpr hk
  rw [begins_any h,Bool.or_eq_true] at g
  have ne:L.take k≠[]:=by
    intro z
    have:=congrArg List.length z
    rw [List.length_take,List.length_nil] at this
    omega
  rcases g with g | g
  · exact absurd (eq_of_beq g) ne
  · exact any_dec h g ne
theorem figs_three {lo hi:Nat}(h:Rg lo hi) (L:Bytes):figs lo hi L≤3:=by
  by_cases z:figs lo hi L=0
  · omega
  · have g:=(figs_iff h L (figs_le lo hi L)).mpr (Nat.le_refl _)
    have hl:=figs_le lo hi L
    rw [begins_any h,Bool.or_eq_true] at g
    rcases g with g | g
    · have:=congrArg List.length (eq_of_beq g)
      rw [List.length_take,List.length_nil] at this
      omega
    · have:=any_len h g
      rw [List.length_take] at this
      omega
theorem figs_take {lo hi:Nat}(h:Rg lo hi) (L:Bytes) {k:Nat}(hk:k≤L.length) (hp:figs lo hi L≤k):figs lo hi (L.take k)=figs lo hi L:=by
  have l1:=figs_le lo hi (L.take k)
  have len:(L.take k).length=k:=by rw [List.length_take]; omega
  have a:figs lo hi (L.take k)≤figs lo hi L:=by
    have:=(figs_iff h (L.take k) l1).mpr (Nat.le_refl _)
    rw [List.take_take,show min (figs lo hi (L.take k)) k=figs lo hi (L.take k) by omega] at this
    exact (figs_iff h L (by omega)).mp this
  have b:figs lo hi L≤figs lo hi (L.take k):=by
    have:=(figs_iff h L (figs_le lo hi L)).mpr (Nat.le_refl _)
    refine (figs_iff h (L.take k) (by omega)).mp ?_
    rw [List.take_take,show min (figs lo hi L) k=figs lo hi L by omega]
    exact this
  omega
def within (lo hi v:Nat):Bool:=decide (lo≤v)&&decide (v≤hi)
theorem numbers_any {lo hi:Nat}(h:Rg lo hi) (L:Bytes) (F:Bytes→Bool) (hF:∀ c r,digit c=true→F (c::r)=false) :
    ((numbersIn lo hi L).any F)=(decide (figs lo hi L≠0)&&within lo hi (valueOf (L.take (figs lo hi L)))&&F (L.drop (figs lo hi L))):=by
  have hl:=figs_le lo hi L
  have h3:=figs_three h L
  apply Bool.eq_iff_iff.mpr
  constructor
  · intro q
    obtain ⟨r,hr,hFr⟩:=List.any_eq_true.mp q
    obtain ⟨i,hi',he⟩:=List.mem_filterMap.mp hr
    have hi1:=List.mem_range.mp hi'
    dsimp only at he
    split at he
    · rename_i c
      obtain ⟨c1,c2,c3,c4⟩:=c
      cases he
      have hle:i+1≤L.length:=by omega
      have vEq:(List.foldl (fun (a:Nat) (c:UInt8)=>10 * a+(c.toNat-48)) 0 (L.take (i+1)))=valueOf (L.take (i+1)):=rfl
      rw [vEq] at c2 c3 c4
      have g:numberBegins lo hi (L.take (i+1))=true:=by
        rw [begins_any h,Bool.or_eq_true]
        refine .inr (anyN_iff.mpr ⟨valueOf (L.take (i+1)),c3,c4,?_⟩)
        rw [c2]
        exact List.isPrefixOf_iff_prefix.mpr (List.prefix_refl _)
      have hp:=(figs_iff h L hle).mp g
      by_cases lt:i+1<figs lo hi L
      · exfalso
        obtain ⟨c,hc,hdc⟩:=figs_digits L 0 false (i+1) lt
        obtain ⟨hlt,ec⟩:=List.getElem?_eq_some_iff.mp hc
        rw [List.drop_eq_getElem_cons hlt,ec,hF c _ hdc] at hFr
        cases hFr
      · have e:figs lo hi L=i+1:=by omega
        rw [e]
        simp only [Bool.and_eq_true,decide_eq_true_eq,within]
        exact ⟨⟨by omega,c3,c4⟩,hFr⟩
    · cases he
  · intro q
    simp only [Bool.and_eq_true,decide_eq_true_eq,within] at q
    obtain ⟨⟨q1,q2,q3⟩,q4⟩:=q
    refine List.any_eq_true.mpr ⟨_,List.mem_filterMap.mpr ⟨figs lo hi L-1,List.mem_range.mpr (by omega),?_⟩,q4⟩
    dsimp only
    rw [show figs lo hi L-1+1=figs lo hi L by omega]
    have vEq:(List.foldl (fun (a:Nat) (c:UInt8)=>10 * a+(c.toNat-48)) 0 (L.take (figs lo hi L)))=valueOf (L.take (figs lo hi L)):=rfl
    rw [vEq]
    have ed:=figs_dec h L (Nat.le_refl _) q1
    rw [if_pos]
    refine ⟨?_,ed,q2,q3⟩
    rw [List.all_eq_true]
    intro c hc
    have:=dec_digits _ c (by rw [ed]; exact hc)
    exact this
def lcp:Bytes→Bytes→Nat
  | a::w,c::r=>if a=c then lcp w r+1 else 0
  | _,_=>0
theorem lcp_le:∀ (w L:Bytes),lcp w L≤w.length∧lcp w L≤L.length
  | [],_=>⟨Nat.le_refl _,Nat.zero_le _⟩
  | _::_,[]=>⟨Nat.zero_le _,Nat.le_refl _⟩
  | a::w,c::r=>by
    unfold lcp
    have:=lcp_le w r
    split <;> simp <;> omega
theorem lcp_iff:∀ (w L:Bytes) (k:Nat),k≤L.length→((L.take k).isPrefixOf w=true↔k≤lcp w L)
  | w,L,0,_=>by simp
  | [],[],k+1,h=>by simp at h
  | [],c::r,k+1,h=>by simp [lcp,List.isPrefixOf]
  | a::w,[],k+1,h=>by simp at h
  | a::w,c::r,k+1,h=>by
    have ih:=lcp_iff w r k (by simpa using h)
    unfold lcp
    by_cases e:a=c
    · subst e
      rw [if_pos rfl]
      simp [List.isPrefixOf,ih]
    · rw [if_neg e]
      have e':¬c=a:=fun z=>e z.symm
      simp [List.isPrefixOf,e']
theorem lcp_full {w L:Bytes}(h:w.isPrefixOf L=true):lcp w L=w.length:=by
  obtain ⟨t,rfl⟩:=List.isPrefixOf_iff_prefix.mp h
  induction w with
  | nil=>simp [lcp]
  | cons a w ih=>
    show lcp (a::w) (a::(w++t))=_
    unfold lcp
    rw [if_pos rfl,ih (by simp)]
    rfl
theorem lcp_part {w L:Bytes}(h:w.isPrefixOf L=false):lcp w L<w.length:=by
  have:=(lcp_le w L).1
  apply Nat.lt_of_le_of_ne this
  intro e
  have q:=(lcp_iff w L (lcp w L) (lcp_le w L).2).mpr (Nat.le_refl _)
  have z:=List.isPrefixOf_iff_prefix.mp q
  have l1:(L.take (lcp w L)).length=w.length:=by
    rw [List.length_take]
    have:=(lcp_le w L).2
    omega
  have z2:=z.eq_of_length l1
  have:w.isPrefixOf L=true:=List.isPrefixOf_iff_prefix.mpr (by rw [←z2]; exact List.take_prefix _ _)
  rw [h] at this
  cases this
def run:List Part→Bytes→Nat×Option (List Nat)
  | [],_=>(0,some [])
  | .word w::l,L=>if w.isPrefixOf L=true then ((run l (L.drop w.length)).1+w.length,(run l (L.drop w.length)).2) else (lcp w L,none)
  | .num lo hi::l,L=>if (decide (figs lo hi L≠0)&&within lo hi (valueOf (L.take (figs lo hi L))))=true then
      ((run l (L.drop (figs lo hi L))).1+figs lo hi L,(run l (L.drop (figs lo hi L))).2.map (valueOf (L.take (figs lo hi L))::·)) else (figs lo hi L,none)
  | .tray::_,_=>(0,none)
def wf:List Part→Bool
  | []=>true
  | .word _::l=>wf l
  | .num lo hi::l=>decide ((lo,hi)∈[(0,79),(0,11),(1,80),(0,131),(2,20)])&&(match l with
    | .word (c::_)::_=>!digit c
    | _=>false)&&wf l
  | .tray::_=>false
theorem wf_num {lo hi:Nat}{l:List Part}(h:wf (.num lo hi::l)=true):Rg lo hi∧wf l=true∧∃ c w l',l=.word (c::w)::l'∧digit c=false:=by
  unfold wf at h
  rw [Bool.and_eq_true,Bool.and_eq_true] at h
  refine ⟨by unfold Rg; exact of_decide_eq_true h.1.1,h.2,?_⟩
  have h2:=h.1.2
  split at h2
  · rename_i c w l'
    exact ⟨c,w,l',rfl,by simpa using h2⟩
  · cases h2
theorem isBy_fig {c:UInt8}{w:Bytes}{l:List Part}(hc:digit c=false) (d:UInt8) (r:Bytes) (hd:digit d=true):isBy (.word (c::w)::l) (d::r)=false:=by
  have ne:¬c=d:=fun z=>by rw [z,hd] at hc; cases hc
  unfold isBy behind
  have:(c::w).isPrefixOf (d::r)=false:=by simp [List.isPrefixOf,ne]
  dsimp only
  rw [this]
  rfl
theorem beginsBy_fig {c:UInt8}{w:Bytes}{l:List Part}(hc:digit c=false) (d:UInt8) (r:Bytes) (hd:digit d=true):beginsBy (.word (c::w)::l) (d::r)=false:=by
  have ne:¬c=d:=fun z=>by rw [z,hd] at hc; cases hc
  have ne':¬d=c:=fun z=>ne z.symm
  unfold beginsBy behind beginsPart
  have e1:(c::w).isPrefixOf (d::r)=false:=by simp [List.isPrefixOf,ne]
  have e2:(d::r).isPrefixOf (c::w)=false:=by simp [List.isPrefixOf,ne']
  dsimp only
  rw [e1,e2]
  rfl
theorem run_le:∀ (f:List Part) (L:Bytes),(run f L).1≤L.length
  | [],L=>Nat.zero_le _
  | .word w::l,L=>by
    unfold run
    split
    · rename_i h
      have ih:=run_le l (L.drop w.length)
      have:=(List.isPrefixOf_iff_prefix.mp h).length_le
      rw [List.length_drop] at ih
      dsimp only
      omega
    · exact (lcp_le w L).2
  | .num lo hi::l,L=>by
    unfold run
    have hl:=figs_le lo hi L
    split
    · have ih:=run_le l (L.drop (figs lo hi L))
      rw [List.length_drop] at ih
      dsimp only
      omega
    · exact hl
  | .tray::_,L=>Nat.zero_le _
theorem run_begins:∀ (f:List Part),wf f=true→∀ (L:Bytes) (k:Nat),k≤L.length→(beginsBy f (L.take k)=true↔k≤(run f L).1)
  | [],_,L,k,hk=>by
    unfold run beginsBy
    constructor
    · intro q
      have:=congrArg List.length (eq_of_beq q)
      rw [List.length_take,List.length_nil] at this
      dsimp only
      omega
    · intro q
      have:k=0:=by dsimp only at q; omega
      subst this
      rfl
  | .word w::l,h,L,k,hk=>by
    have h':wf l=true:=h
    unfold beginsBy beginsPart behind
    dsimp only
    rw [Bool.or_eq_true,lcp_iff w L k hk]
    unfold run
    have ll:=lcp_le w L
    by_cases hp:w.isPrefixOf L=true
    · rw [if_pos hp]
      dsimp only
      rw [lcp_full hp]
      have hw:=(List.isPrefixOf_iff_prefix.mp hp).length_le
      have ih:=run_begins l h' (L.drop w.length) (k-w.length) (by rw [List.length_drop]; omega)
      by_cases hk2:k≤w.length
      · simp only [hk2,true_or,true_iff]
        omega
      · have hp2:w.isPrefixOf (L.take k)=true:=by
          obtain ⟨t,rfl⟩:=List.isPrefixOf_iff_prefix.mp hp
          rw [List.isPrefixOf_iff_prefix]
          rw [List.take_append,List.take_of_length_le (by omega)]
          exact List.prefix_append _ _
        rw [if_pos hp2]
        simp only [List.any_cons,List.any_nil,Bool.or_false,hk2,false_or]
        rw [List.drop_take,ih]
        omega
    · rw [if_neg hp]
      dsimp only
      have hp2:¬w.isPrefixOf (L.take k)=true:=by
        intro q
        apply hp
        exact List.isPrefixOf_iff_prefix.mpr (List.IsPrefix.trans (List.isPrefixOf_iff_prefix.mp q) (List.take_prefix _ _))
      rw [if_neg hp2]
      simp
  | .num lo hi::l,h,L,k,hk=>by
    obtain ⟨rg,h',c,w,l',el,hc⟩:=wf_num h
    unfold beginsBy beginsPart behind
    dsimp only
    rw [Bool.or_eq_true,figs_iff rg L hk]
    have hl:=figs_le lo hi L
    have hF:∀ d r,digit d=true→beginsBy l (d::r)=false:=fun d r hd=>by rw [el]; exact beginsBy_fig hc d r hd
    unfold run
    by_cases hk2:k≤figs lo hi L
    · simp only [hk2,true_or,true_iff]
      split <;> dsimp only <;> omega
    · simp only [hk2,false_or]
      rw [numbers_any rg (L.take k) _ hF,figs_take rg L hk (by omega),List.take_take,show min (figs lo hi L) k=figs lo hi L by omega,List.drop_take]
      have ih:=run_begins l h' (L.drop (figs lo hi L)) (k-figs lo hi L) (by rw [List.length_drop]; omega)
      by_cases q:(decide (figs lo hi L≠0)&&within lo hi (valueOf (L.take (figs lo hi L))))=true
      · rw [if_pos q,q,Bool.true_and,ih]
        dsimp only
        omega
      · rw [if_neg q]
        rw [show (decide (figs lo hi L≠0)&&within lo hi (valueOf (L.take (figs lo hi L))))=false by simpa using q,Bool.false_and]
        dsimp only
        simp
        omega
  | .tray::_,h,L,k,hk=>by cases h
theorem run_isBy:∀ (f:List Part),wf f=true→∀ (L:Bytes),(isBy f L=true↔(run f L).2.isSome=true∧(run f L).1=L.length)
  | [],_,L=>by
    unfold run isBy
    dsimp only
    constructor
    · intro q
      rw [eq_of_beq q]
      exact ⟨rfl,rfl⟩
    · rintro ⟨_,q⟩
      rw [List.length_eq_zero_iff.mp q.symm]
      rfl
  | .word w::l,h,L=>by
    have h':wf l=true:=h
    unfold isBy behind run
    by_cases hp:w.isPrefixOf L=true
    · dsimp only
      rw [if_pos hp,if_pos hp]
      have hw:=(List.isPrefixOf_iff_prefix.mp hp).length_le
      have ih:=run_isBy l h' (L.drop w.length)
      simp only [List.any_cons,List.any_nil,Bool.or_false]
      rw [ih,List.length_drop]
      constructor
      · rintro ⟨a,b⟩
        exact ⟨a,by omega⟩
      · rintro ⟨a,b⟩
        exact ⟨a,by omega⟩
    · dsimp only
      rw [if_neg hp,if_neg hp]
      simp
  | .num lo hi::l,h,L=>by
    obtain ⟨rg,h',c,w,l',el,hc⟩:=wf_num h
    have hl:=figs_le lo hi L
    have hF:∀ d r,digit d=true→isBy l (d::r)=false:=fun d r hd=>by rw [el]; exact isBy_fig hc d r hd
    unfold isBy behind run
    dsimp only
    rw [numbers_any rg L _ hF]
    have ih:=run_isBy l h' (L.drop (figs lo hi L))
    by_cases q:(decide (figs lo hi L≠0)&&within lo hi (valueOf (L.take (figs lo hi L))))=true
    · rw [if_pos q,q,Bool.true_and,ih,List.length_drop,Option.isSome_map]
      dsimp only
      constructor
      · rintro ⟨a,b⟩
        exact ⟨a,by omega⟩
      · rintro ⟨a,b⟩
        exact ⟨a,by omega⟩
    · rw [if_neg q]
      rw [show (decide (figs lo hi L≠0)&&within lo hi (valueOf (L.take (figs lo hi L))))=false by simpa using q,Bool.false_and]
      simp
  | .tray::_,h,L=>by cases h
theorem forms_wf:∀ f∈reportForms,wf f=true:=by decide +kernel
def mxLen:List Part→Nat
  | []=>0
  | .word w::l=>w.length+mxLen l
  | .num _ _::l=>3+mxLen l
  | .tray::_=>0
theorem forms_len:∀ f∈reportForms,mxLen f≤80:=by decide +kernel
theorem run_mx:∀ (f:List Part),wf f=true→∀ L,(run f L).1≤mxLen f
  | [],_,L=>Nat.zero_le _
  | .word w::l,h,L=>by
    unfold run mxLen
    split
    · have:=run_mx l h (L.drop w.length)
      dsimp only
      omega
    · have:=(lcp_le w L).1
      dsimp only
      omega
  | .num lo hi::l,h,L=>by
    obtain ⟨rg,h',_⟩:=wf_num h
    have:=figs_three rg L
    have:=run_mx l h' (L.drop (figs lo hi L))
    unfold run mxLen
    split <;> dsimp only <;> omega
  | .tray::_,h,L=>by cases h
abbrev Rd:=Nat×Option (Nat×List Nat)
def better (b q:Rd):Rd:=if b.1<q.1 then q else b
def formAt (i:Nat):List Part:=reportForms.getD i []
def readBy (i:Nat) (L:Bytes):Rd:=((run (formAt i) L).1,(run (formAt i) L).2.map fun vs=>(i,vs))
def bestTo (L:Bytes):Nat→Rd
  | 0=>(0,none)
  | n+1=>better (bestTo L n) (readBy n L)
def readLine (L:Bytes):Rd:=bestTo L 10
theorem forms_ten:reportForms.length=10:=by decide +kernel
theorem formAt_mem {i:Nat}(h:i<10):formAt i∈reportForms:=by
  unfold formAt
  rw [List.getD_eq_getElem?_getD,List.getElem?_eq_getElem (by rw [forms_ten]; exact h)]
  exact List.getElem_mem _
theorem mem_formAt {f:List Part}(h:f∈reportForms):∃ i,i<10∧formAt i=f:=by
  obtain ⟨i,hi,e⟩:=List.mem_iff_getElem.mp h
  refine ⟨i,by rw [forms_ten] at hi; exact hi,?_⟩
  unfold formAt
  rw [List.getD_eq_getElem?_getD,List.getElem?_eq_getElem hi]
  exact e
theorem best_ge (L:Bytes):∀ n i,i<n→(readBy i L).1≤(bestTo L n).1
  | 0,i,h=>by omega
  | n+1,i,h=>by
    show _≤(better (bestTo L n) (readBy n L)).1
    unfold better
    by_cases e:i=n
    · subst e
      split <;> omega
    · have:=best_ge L n i (by omega)
      split <;> omega
theorem best_is (L:Bytes):∀ n,bestTo L n=(0,none)∨∃ i,i<n∧bestTo L n=readBy i L
  | 0=>.inl rfl
  | n+1=>by
    show better (bestTo L n) (readBy n L)=_∨_
    unfold better
    split
    · refine .inr ⟨n,by omega,?_⟩
      show better (bestTo L n) (readBy n L)=_
      unfold better
      rw [if_pos (by assumption)]
    · rename_i q
      rcases best_is L n with h | ⟨i,hi,h⟩
      · exact .inl h
      · refine .inr ⟨i,by omega,?_⟩
        show better (bestTo L n) (readBy n L)=_
        unfold better
        rw [if_neg q]
        exact h
theorem find_rev {p:Nat→Bool}{M:Nat}:∀ n,M≤n→(∀ k,k≤n→(p k=true↔k≤M))→(List.range (n+1)).reverse.find? p=some M
  | 0,hM,h=>by
    have:M=0:=by omega
    subst this
    have:=(h 0 (by omega)).mpr (by omega)
    simp [this]
  | n+1,hM,h=>by
    rw [List.range_succ,List.reverse_append]
    show ((n+1)::(List.range (n+1)).reverse).find? p=_
    rw [List.find?_cons]
    by_cases e:M=n+1
    · rw [(h (n+1) (by omega)).mpr (by omega),e]
    · have:p (n+1)=false:=by
        cases q:p (n+1) with
        | false=>rfl
        | true=>
          have:=(h (n+1) (by omega)).mp q
          omega
      rw [this]
      exact find_rev n (by omega) fun k hk=>h k (by omega)
theorem readLine_le (L:Bytes):(readLine L).1≤min L.length 80:=by
  unfold readLine
  rcases best_is L 10 with h | ⟨i,hi,h⟩
  · rw [h]
    exact Nat.zero_le _
  · rw [h]
    have m:=formAt_mem hi
    have a:=run_le (formAt i) L
    have b:=run_mx _ (forms_wf _ m) L
    have c:=forms_len _ m
    show (run (formAt i) L).1≤_
    omega
theorem rightTo_read (L:Bytes):rightTo reportForms L=(readLine L).1:=by
  unfold rightTo
  rw [find_rev (M:=(readLine L).1) _ (readLine_le L)]
  · rfl
  · intro k hk
    have hk':k≤L.length:=by omega
    rw [List.any_eq_true]
    constructor
    · rintro ⟨f,hf,q⟩
      obtain ⟨i,hi,rfl⟩:=mem_formAt hf
      have:=(run_begins _ (forms_wf _ hf) L k hk').mp q
      exact Nat.le_trans this (best_ge L 10 i hi)
    · intro q
      rcases best_is L 10 with h | ⟨i,hi,h⟩
      · have:k=0:=by
          unfold readLine at q
          rw [h] at q
          exact Nat.le_zero.mp q
        subst this
        exact ⟨formAt 0,formAt_mem (by decide),(run_begins _ (forms_wf _ (formAt_mem (by decide))) L 0 hk').mpr (Nat.zero_le _)⟩
      · have m:=formAt_mem hi
        refine ⟨formAt i,m,(run_begins _ (forms_wf _ m) L k hk').mpr ?_⟩
        unfold readLine at q
        rw [h] at q
        exact q
def ends10:List Part→Bool
  | []=>false
  | [.word w]=>w==[10]
  | .word w::p::l=>!w.contains 10&&ends10 (p::l)
  | .num _ _::l=>ends10 l
  | .tray::_=>false
theorem forms_end:∀ f∈reportForms,ends10 f=true:=by decide +kernel
theorem run_end:∀ (f:List Part),wf f=true→ends10 f=true→∀ (L:Bytes) (i:Nat),i<(run f L).1→L[i]?=some 10→(run f L).2.isSome=true∧(run f L).1=i+1
  | [],_,h,L,i,hi,e=>by cases h
  | [.word w],hw,h,L,i,hi,e=>by
    have ew:w=[10]:=eq_of_beq h
    subst ew
    unfold run at hi ⊢
    by_cases q:([10]:Bytes).isPrefixOf L=true
    · rw [if_pos q] at hi ⊢
      unfold run at hi ⊢
      dsimp only at hi ⊢
      have:i=0:=by simp at hi; exact hi
      subst this
      exact ⟨rfl,rfl⟩
    · rw [if_neg q] at hi
      dsimp only at hi
      have:=lcp_part (w:=[10]) (L:=L) ((Bool.not_eq_true _).mp q)
      simp at this
      omega
  | .word w::p::l,hw,h,L,i,hi,e=>by
    have h1:¬10∈w:=by
      unfold ends10 at h
      rw [Bool.and_eq_true] at h
      simpa using h.1
    have h2:ends10 (p::l)=true:=by
      unfold ends10 at h
      rw [Bool.and_eq_true] at h
      exact h.2
    have nl:∀ j,j<lcp w L→L[j]?≠some 10:=fun j hj e'=>by
      have q:=(lcp_iff w L (lcp w L) (lcp_le w L).2).mpr (Nat.le_refl _)
      obtain ⟨t,et⟩:=List.isPrefixOf_iff_prefix.mp q
      apply h1
      rw [←et]
      refine List.mem_append_left _ (List.mem_of_getElem? (i:=j) ?_)
      rw [List.getElem?_take_of_lt hj]
      exact e'
    unfold run at hi ⊢
    by_cases q:w.isPrefixOf L=true
    · rw [if_pos q] at hi ⊢
      dsimp only at hi ⊢
      have ge:w.length≤i:=by
        apply Nat.le_of_not_lt
        intro lt
        exact nl i (by rw [lcp_full q]; exact lt) e
      have ih:=run_end (p::l) hw h2 (L.drop w.length) (i-w.length) (by omega) (by rw [List.getElem?_drop,show w.length+(i-w.length)=i by omega]; exact e)
      exact ⟨ih.1,by omega⟩
    · rw [if_neg q] at hi
      exact absurd e (nl i hi)
  | .num lo hi'::l,hw,h,L,i,hi,e=>by
    obtain ⟨rg,hw',c,w,l',el,hc⟩:=wf_num hw
    have h2:ends10 l=true:=h
    have nl:∀ j,j<figs lo hi' L→L[j]?≠some 10:=fun j hj e'=>by
      obtain ⟨c,hc,hd⟩:=figs_digits L 0 false j hj
      rw [e'] at hc
      cases hc
      revert hd
      decide
    unfold run at hi ⊢
    by_cases q:(decide (figs lo hi' L≠0)&&within lo hi' (valueOf (L.take (figs lo hi' L))))=true
    · rw [if_pos q] at hi ⊢
      dsimp only at hi ⊢
      have ge:figs lo hi' L≤i:=Nat.le_of_not_lt fun lt=>nl i lt e
      have ih:=run_end l hw' h2 (L.drop (figs lo hi' L)) (i-figs lo hi' L) (by omega) (by rw [List.getElem?_drop,show figs lo hi' L+(i-figs lo hi' L)=i by omega]; exact e)
      exact ⟨by rw [Option.isSome_map]; exact ih.1,by omega⟩
    · rw [if_neg q] at hi
      exact absurd e (nl i hi)
  | .tray::_,_,h,L,i,hi,e=>by cases h
theorem run_last:∀ (f:List Part),wf f=true→ends10 f=true→∀ (L:Bytes),(run f L).2.isSome=true→(run f L).1≠0∧L[(run f L).1-1]?=some 10
  | [],_,h,L,e=>by cases h
  | [.word w],hw,h,L,e=>by
    have ew:w=[10]:=eq_of_beq h
    subst ew
    unfold run at e ⊢
    by_cases q:([10]:Bytes).isPrefixOf L=true
    · rw [if_pos q]
      unfold run
      refine ⟨by simp,?_⟩
      obtain ⟨t,rfl⟩:=List.isPrefixOf_iff_prefix.mp q
      rfl
    · rw [if_neg q] at e
      cases e
  | .word w::p::l,hw,h,L,e=>by
    have h2:ends10 (p::l)=true:=by
      unfold ends10 at h
      rw [Bool.and_eq_true] at h
      exact h.2
    rw [run] at e ⊢
    by_cases q:w.isPrefixOf L=true
    · rw [if_pos q] at e ⊢
      dsimp only at e ⊢
      have ih:=run_last (p::l) hw h2 (L.drop w.length) e
      refine ⟨by omega,?_⟩
      have z:=ih.2
      rw [List.getElem?_drop] at z
      rw [←z]
      congr 1
      omega
    · rw [if_neg q] at e
      cases e
  | .num lo hi'::l,hw,h,L,e=>by
    obtain ⟨rg,hw',c,w,l',el,hc⟩:=wf_num hw
    have h2:ends10 l=true:=h
    rw [run] at e ⊢
    by_cases q:(decide (figs lo hi' L≠0)&&within lo hi' (valueOf (L.take (figs lo hi' L))))=true
    · rw [if_pos q] at e ⊢
      dsimp only at e ⊢
      have ih:=run_last l hw' h2 (L.drop (figs lo hi' L)) (by rw [Option.isSome_map] at e; exact e)
      refine ⟨by omega,?_⟩
      have z:=ih.2
      rw [List.getElem?_drop] at z
      rw [←z]
      congr 1
      omega
    · rw [if_neg q] at e
      cases e
  | .tray::_,_,h,L,e=>by cases h
def Piece (L:Bytes):Prop:=L≠[]∧∀ i,L[i]?=some 10→i+1=L.length
theorem piece_whole {L:Bytes}(P:Piece L) {f:List Part}(hf:f∈reportForms):isBy f L=(run f L).2.isSome:=by
  apply Bool.eq_iff_iff.mpr
  rw [run_isBy f (forms_wf f hf) L]
  constructor
  · exact fun q=>q.1
  · intro q
    obtain ⟨a,b⟩:=run_last f (forms_wf f hf) (forms_end f hf) L q
    have:=P.2 _ b
    exact ⟨q,by omega⟩
theorem piece_full {L:Bytes}(P:Piece L) {f g:List Part}(hf:f∈reportForms) (hg:g∈reportForms) (w:(run g L).2.isSome=true) (le:(run g L).1≤(run f L).1):(run f L).2.isSome=true:=by
  obtain ⟨a,b⟩:=run_last g (forms_wf g hg) (forms_end g hg) L w
  exact (run_end f (forms_wf f hf) (forms_end f hf) L _ (by omega) b).1
theorem readLine_none {L:Bytes}(P:Piece L):(readLine L).2=none↔(reportForms.any fun f=>isBy f L)=false:=by
  constructor
  · intro q
    rw [List.any_eq_false]
    intro g hg w
    rw [piece_whole P hg] at w
    obtain ⟨j,hj,rfl⟩:=mem_formAt hg
    have ge:=best_ge L 10 j hj
    have nz:=(run_last _ (forms_wf _ hg) (forms_end _ hg) L w).1
    unfold readLine at q
    rcases best_is L 10 with h | ⟨i,hi,h⟩
    · rw [h] at ge
      exact nz (Nat.le_zero.mp ge)
    · rw [h] at ge q
      have full:=piece_full P (formAt_mem hi) hg w ge
      have q':((run (formAt i) L).2.map fun vs=>(i,vs))=none:=q
      cases e:(run (formAt i) L).2 with
      | none=>rw [e] at full; cases full
      | some vs=>rw [e] at q'; cases q'
  · intro q
    rw [List.any_eq_false] at q
    unfold readLine
    rcases best_is L 10 with h | ⟨i,hi,h⟩
    · rw [h]
    · rw [h]
      have z:=q _ (formAt_mem hi)
      rw [piece_whole P (formAt_mem hi)] at z
      show ((run (formAt i) L).2.map fun vs=>(i,vs))=none
      cases e:(run (formAt i) L).2 with
      | none=>rfl
      | some vs=>rw [e] at z; exact absurd rfl z
theorem readLine_some {L:Bytes}{i:Nat}{vs:List Nat}(h:(readLine L).2=some (i,vs)):i<10∧(run (formAt i) L).2=some vs∧(readLine L).1=(run (formAt i) L).1:=by
  unfold readLine at h ⊢
  rcases best_is L 10 with q | ⟨j,hj,q⟩
  · rw [q] at h
    cases h
  · rw [q] at h ⊢
    have h':((run (formAt j) L).2.map fun vs=>(j,vs))=some (i,vs):=h
    cases e:(run (formAt j) L).2 with
    | none=>rw [e] at h'; cases h'
    | some us=>
      rw [e] at h'
      have:=Option.some.inj h'
      cases this
      exact ⟨hj,e,rfl⟩
def render:List Part→List Nat→Bytes
  | .word w::l,vs=>w++render l vs
  | .num _ _::l,v::vs=>dec v++render l vs
  | _,_=>[]
def fits:List Part→List Nat→Bool
  | [],[]=>true
  | .word _::l,vs=>fits l vs
  | .num lo hi::l,v::vs=>within lo hi v&&fits l vs
  | _,_=>false
theorem run_render:∀ (f:List Part),wf f=true→∀ (L:Bytes) (vs:List Nat),(run f L).2=some vs→L.take (run f L).1=render f vs∧fits f vs=true
  | [],_,L,vs,e=>by
    unfold run at e ⊢
    cases e
    exact ⟨rfl,rfl⟩
  | .word w::l,h,L,vs,e=>by
    rw [run] at e ⊢
    by_cases q:w.isPrefixOf L=true
    · rw [if_pos q] at e ⊢
      dsimp only at e ⊢
      obtain ⟨a,b⟩:=run_render l h (L.drop w.length) vs e
      refine ⟨?_,b⟩
      rw [render,←a]
      obtain ⟨t,rfl⟩:=List.isPrefixOf_iff_prefix.mp q
      rw [List.drop_left,Nat.add_comm,List.take_length_add_append]
    · rw [if_neg q] at e
      cases e
  | .num lo hi::l,h,L,vs,e=>by
    obtain ⟨rg,h',_⟩:=wf_num h
    rw [run] at e ⊢
    by_cases q:(decide (figs lo hi L≠0)&&within lo hi (valueOf (L.take (figs lo hi L))))=true
    · rw [if_pos q] at e ⊢
      dsimp only at e ⊢
      rw [Bool.and_eq_true,decide_eq_true_eq] at q
      cases er:(run l (L.drop (figs lo hi L))).2 with
      | none=>rw [er] at e; cases e
      | some us=>
        rw [er] at e
        have e':=Option.some.inj e
        subst e'
        obtain ⟨a,b⟩:=run_render l h' (L.drop (figs lo hi L)) us er
        refine ⟨?_,?_⟩
        · rw [render,←a,figs_dec rg L (Nat.le_refl _) q.1,Nat.add_comm,List.take_add]
        · rw [fits,Bool.and_eq_true]
          exact ⟨q.2,b⟩
    · rw [if_neg q] at e
      cases e
  | .tray::_,h,L,vs,e=>by cases h
def plain (w:Bytes):Prop:=∀ c∈w,c≠32∧c≠10
theorem words_cut:∀ (w:Bytes) (s:UInt8) (r:Bytes),plain w→(s=32∨s=10)→wordsOf (w++s::r)=w::wordsOf r
  | [],s,r,_,hs=>by
    show wordsOf (s::r)=_
    rw [wordsOf,if_pos hs]
  | c::w,s,r,hw,hs=>by
    have hc:=hw c (by simp)
    show wordsOf (c::(w++s::r))=_
    rw [wordsOf,if_neg (by
      rintro (z | z)
      · exact hc.1 z
      · exact hc.2 z),words_cut w s r (fun d hd=>hw d (by simp [hd])) hs]
theorem dec_plain (n:Nat):plain (dec n):=fun c hc=>by
  have:=dec_digits n c hc
  constructor <;> rintro rfl <;> revert this <;> decide
def plainB (w:Bytes):Bool:=w.all fun c=>decide (c≠32)&&decide (c≠10)
theorem plain_of {w:Bytes}(h:plainB w=true):plain w:=fun c hc=>by
  have:=List.all_eq_true.mp h c hc
  rw [Bool.and_eq_true,decide_eq_true_eq,decide_eq_true_eq] at this
  exact this
theorem sp_eq:ascii " " = [32]:=by decide +kernel
theorem nl_eq:ascii (String.ofList [Char.ofNat 10])=[10]:=by decide +kernel
def mkR (i:Nat) (vs:List Nat):RLine:=
  match i with
  | 0=>.where_ ⟨vs.getD 0 0,vs.getD 1 0,true⟩
  | 1=>.where_ ⟨vs.getD 0 0,vs.getD 1 0,false⟩
  | 2=>.key ⟨vs.getD 0 0,vs.getD 1 0,vs.getD 2 0,true⟩
  | 3=>.key ⟨vs.getD 0 0,vs.getD 1 0,vs.getD 2 0,false⟩
  | 4=>.total ⟨false,vs.getD 0 0,vs.getD 1 0,vs.getD 2 0,vs.getD 3 0⟩
  | 5=>.total ⟨true,0,0,vs.getD 0 0,vs.getD 1 0⟩
  | 6=>.seen ⟨vs.getD 0 0,vs.getD 1 0,vs.getD 2 0⟩
  | 7=>.list 1
  | 8=>.list 2
  | _=>.list 0
def valsOk:Nat→List Nat→Prop
  | 0,vs | 1,vs=>∃ c r,vs=[c,r]∧c≤79∧r≤11
  | 2,vs | 3,vs | 6,vs=>∃ c n p,vs=[c,n,p]∧c≤79∧1≤n∧n≤80∧p≤131
  | 4,vs=>∃ c n p w,vs=[c,n,p,w]∧c≤79∧1≤n∧n≤80∧p≤131∧2≤w∧w≤20
  | 5,vs=>∃ p w,vs=[p,w]∧p≤131∧2≤w∧w≤20
  | _,vs=>vs=[]
theorem fits_num {lo hi:Nat}{l:List Part}{vs:List Nat}(h:fits (.num lo hi::l) vs=true):∃ v us,vs=v::us∧lo≤v∧v≤hi∧fits l us=true:=by
  cases vs with
  | nil=>cases h
  | cons v us=>
    rw [fits,Bool.and_eq_true] at h
    unfold within at h
    simp only [Bool.and_eq_true,decide_eq_true_eq] at h
    exact ⟨v,us,rfl,h.1.1,h.1.2,h.2⟩
theorem fits_word {w:Bytes}{l:List Part}{vs:List Nat}(h:fits (.word w::l) vs=true):fits l vs=true:=h
theorem fits_nil {vs:List Nat}(h:fits [] vs=true):vs=[]:=by
  cases vs with
  | nil=>rfl
  | cons _ _=>cases h
theorem form_where (b:Bool):formAt (if b=true then 0 else 1)=[word_ "where",word_ " ",.num 0 79,word_ " ",.num 0 11,word_ " ",word_ (if b=true then "yes" else "no"),word_ (String.ofList [Char.ofNat 10])]:=by
  cases b <;> rfl
theorem form_key (b:Bool):formAt (if b=true then 2 else 3)=[word_ "key",word_ " ",.num 0 79,word_ " ",.num 1 80,word_ " ",word_ "at",word_ " ",.num 0 131,word_ " ",word_ "by",word_ " ",word_ (if b=true then "holes" else "top"),word_ (String.ofList [Char.ofNat 10])]:=by
  cases b <;> rfl
theorem form_sum:formAt 4=[word_ "sum",word_ " ",.num 0 79,word_ " ",.num 1 80,word_ " ",word_ "at",word_ " ",.num 0 131,word_ " ",.num 2 20,word_ (String.ofList [Char.ofNat 10])]:=rfl
theorem form_count:formAt 5=[word_ "count",word_ " ",word_ "at",word_ " ",.num 0 131,word_ " ",.num 2 20,word_ (String.ofList [Char.ofNat 10])]:=rfl
theorem form_see:formAt 6=[word_ "see",word_ " ",.num 0 79,word_ " ",.num 1 80,word_ " ",word_ "at",word_ " ",.num 0 131,word_ (String.ofList [Char.ofNat 10])]:=rfl
theorem fits_vals {i:Nat}{vs:List Nat}(hi:i<10) (h:fits (formAt i) vs=true):valsOk i vs:=by
  match i,hi with
  | 0,_=>
    rw [show formAt 0=_ from form_where true] at h
    obtain ⟨c,us,rfl,_,h1,h⟩:=fits_num (fits_word (fits_word h))
    obtain ⟨r,us,rfl,_,h2,h⟩:=fits_num (fits_word h)
    cases fits_nil (fits_word (fits_word (fits_word h)))
    exact ⟨c,r,rfl,h1,h2⟩
  | 1,_=>
    rw [show formAt 1=_ from form_where false] at h
    obtain ⟨c,us,rfl,_,h1,h⟩:=fits_num (fits_word (fits_word h))
    obtain ⟨r,us,rfl,_,h2,h⟩:=fits_num (fits_word h)
    cases fits_nil (fits_word (fits_word (fits_word h)))
    exact ⟨c,r,rfl,h1,h2⟩
  | 2,_=>
    rw [show formAt 2=_ from form_key true] at h
    obtain ⟨c,us,rfl,_,h1,h⟩:=fits_num (fits_word (fits_word h))
    obtain ⟨n,us,rfl,h2,h3,h⟩:=fits_num (fits_word h)
    obtain ⟨p,us,rfl,_,h4,h⟩:=fits_num (fits_word (fits_word (fits_word h)))
    cases fits_nil (fits_word (fits_word (fits_word (fits_word (fits_word h)))))
    exact ⟨c,n,p,rfl,h1,h2,h3,h4⟩
  | 3,_=>
    rw [show formAt 3=_ from form_key false] at h
    obtain ⟨c,us,rfl,_,h1,h⟩:=fits_num (fits_word (fits_word h))
    obtain ⟨n,us,rfl,h2,h3,h⟩:=fits_num (fits_word h)
    obtain ⟨p,us,rfl,_,h4,h⟩:=fits_num (fits_word (fits_word (fits_word h)))
    cases fits_nil (fits_word (fits_word (fits_word (fits_word (fits_word h)))))
    exact ⟨c,n,p,rfl,h1,h2,h3,h4⟩
  | 4,_=>
    rw [form_sum] at h
    obtain ⟨c,us,rfl,_,h1,h⟩:=fits_num (fits_word (fits_word h))
    obtain ⟨n,us,rfl,h2,h3,h⟩:=fits_num (fits_word h)
    obtain ⟨p,us,rfl,_,h4,h⟩:=fits_num (fits_word (fits_word (fits_word h)))
    obtain ⟨w,us,rfl,h5,h6,h⟩:=fits_num (fits_word h)
    cases fits_nil (fits_word h)
    exact ⟨c,n,p,w,rfl,h1,h2,h3,h4,h5,h6⟩
  | 5,_=>
    rw [form_count] at h
    obtain ⟨p,us,rfl,_,h4,h⟩:=fits_num (fits_word (fits_word (fits_word (fits_word h))))
    obtain ⟨w,us,rfl,h5,h6,h⟩:=fits_num (fits_word h)
    cases fits_nil (fits_word h)
    exact ⟨p,w,rfl,h4,h5,h6⟩
  | 6,_=>
    rw [form_see] at h
    obtain ⟨c,us,rfl,_,h1,h⟩:=fits_num (fits_word (fits_word h))
    obtain ⟨n,us,rfl,h2,h3,h⟩:=fits_num (fits_word h)
    obtain ⟨p,us,rfl,_,h4,h⟩:=fits_num (fits_word (fits_word (fits_word h)))
    cases fits_nil (fits_word h)
    exact ⟨c,n,p,rfl,h1,h2,h3,h4⟩
  | 7,_=>exact fits_nil (fits_word (fits_word (fits_word (fits_word (show fits (formAt 7) vs=true from h)))))
  | 8,_=>exact fits_nil (fits_word (fits_word (fits_word (fits_word (show fits (formAt 8) vs=true from h)))))
  | 9,_=>exact fits_nil (fits_word (fits_word (fits_word (fits_word (show fits (formAt 9) vs=true from h)))))
  | i+10,h=>omega
theorem rline_render {i:Nat}{vs:List Nat}(hi:i<10) (h:valsOk i vs):rlineOf (render (formAt i) vs)=mkR i vs:=by
  have cut:∀ (w r:Bytes),plain w→wordsOf (w++([32]++r))=w::wordsOf r:=fun w r hw=>words_cut w 32 r hw (.inl rfl)
  have cute:∀ (w r:Bytes),plain w→wordsOf (w++([10]++r))=w::wordsOf r:=fun w r hw=>words_cut w 10 r hw (.inr rfl)
  have wn:wordsOf []=[]:=rfl
  match i,hi with
  | 0,_=>
    obtain ⟨c,r,rfl,_,_⟩:=h
    rw [show formAt 0=_ from form_where true]
    simp only [word_,render,sp_eq,nl_eq,if_true]
    unfold rlineOf
    rw [cut _ _ (plain_of (by decide +kernel)),cut _ _ (dec_plain c),cut _ _ (dec_plain r),cute _ _ (plain_of (by decide +kernel)),wn]
    dsimp only
    rw [if_pos rfl]
    show RLine.where_ ⟨valueOf (dec c),valueOf (dec r),_⟩=_
    rw [valueOf_dec,valueOf_dec]
    rfl
  | 1,_=>
    obtain ⟨c,r,rfl,_,_⟩:=h
    rw [show formAt 1=_ from form_where false]
    simp only [word_,render,sp_eq,nl_eq]
    unfold rlineOf
    rw [cut _ _ (plain_of (by decide +kernel)),cut _ _ (dec_plain c),cut _ _ (dec_plain r),cute _ _ (plain_of (by decide +kernel)),wn]
    dsimp only
    rw [if_pos rfl]
    show RLine.where_ ⟨valueOf (dec c),valueOf (dec r),_⟩=_
    rw [valueOf_dec,valueOf_dec]
    rfl
  | 2,_=>
    obtain ⟨c,n,p,rfl,_⟩:=h
    rw [show formAt 2=_ from form_key true]
    simp only [word_,render,sp_eq,nl_eq,if_true]
    unfold rlineOf
    rw [cut _ _ (plain_of (by decide +kernel)),cut _ _ (dec_plain c),cut _ _ (dec_plain n),cut _ _ (plain_of (by decide +kernel)),cut _ _ (dec_plain p),cut _ _ (plain_of (by decide +kernel)),cute _ _ (plain_of (by decide +kernel)),wn]
    dsimp only
    rw [if_neg (by decide +kernel),if_pos rfl]
    show RLine.key ⟨valueOf (dec c),valueOf (dec n),valueOf (dec p),_⟩=_
    rw [valueOf_dec,valueOf_dec,valueOf_dec]
    rfl
  | 3,_=>
    obtain ⟨c,n,p,rfl,_⟩:=h
    rw [show formAt 3=_ from form_key false]
    simp only [word_,render,sp_eq,nl_eq]
    unfold rlineOf
    rw [cut _ _ (plain_of (by decide +kernel)),cut _ _ (dec_plain c),cut _ _ (dec_plain n),cut _ _ (plain_of (by decide +kernel)),cut _ _ (dec_plain p),cut _ _ (plain_of (by decide +kernel)),cute _ _ (plain_of (by decide +kernel)),wn]
    dsimp only
    rw [if_neg (by decide +kernel),if_pos rfl]
    show RLine.key ⟨valueOf (dec c),valueOf (dec n),valueOf (dec p),_⟩=_
    rw [valueOf_dec,valueOf_dec,valueOf_dec]
    rfl
  | 4,_=>
    obtain ⟨c,n,p,w,rfl,_⟩:=h
    rw [form_sum]
    simp only [word_,render,sp_eq,nl_eq]
    unfold rlineOf
    rw [cut _ _ (plain_of (by decide +kernel)),cut _ _ (dec_plain c),cut _ _ (dec_plain n),cut _ _ (plain_of (by decide +kernel)),cut _ _ (dec_plain p),cute _ _ (dec_plain w),wn]
    dsimp only
    rw [if_neg (by decide +kernel),if_neg (by decide +kernel),if_pos rfl]
    show RLine.total ⟨false,valueOf (dec c),valueOf (dec n),valueOf (dec p),valueOf (dec w)⟩=_
    rw [valueOf_dec,valueOf_dec,valueOf_dec,valueOf_dec]
    rfl
  | 5,_=>
    obtain ⟨p,w,rfl,_⟩:=h
    rw [form_count]
    simp only [word_,render,sp_eq,nl_eq]
    unfold rlineOf
    rw [cut _ _ (plain_of (by decide +kernel)),cut _ _ (plain_of (by decide +kernel)),cut _ _ (dec_plain p),cute _ _ (dec_plain w),wn]
    dsimp only
    rw [if_neg (by decide +kernel),if_neg (by decide +kernel),if_neg (by decide +kernel),if_pos rfl]
    show RLine.total ⟨true,0,0,valueOf (dec p),valueOf (dec w)⟩=_
    rw [valueOf_dec,valueOf_dec]
    rfl
  | 6,_=>
    obtain ⟨c,n,p,rfl,_⟩:=h
    rw [form_see]
    simp only [word_,render,sp_eq,nl_eq]
    unfold rlineOf
    rw [cut _ _ (plain_of (by decide +kernel)),cut _ _ (dec_plain c),cut _ _ (dec_plain n),cut _ _ (plain_of (by decide +kernel)),cute _ _ (dec_plain p),wn]
    dsimp only
    rw [if_neg (by decide +kernel),if_neg (by decide +kernel),if_neg (by decide +kernel),if_neg (by decide +kernel),if_pos rfl]
    show RLine.seen ⟨valueOf (dec c),valueOf (dec n),valueOf (dec p)⟩=_
    rw [valueOf_dec,valueOf_dec,valueOf_dec]
    rfl
  | 7,_=>
    obtain rfl:vs=[]:=h
    decide +kernel
  | 8,_=>
    obtain rfl:vs=[]:=h
    decide +kernel
  | 9,_=>
    obtain rfl:vs=[]:=h
    decide +kernel
  | i+10,h=>omega
theorem pieces_line:∀ (w r:Bytes),(10:UInt8) ∉ w→pieces (w++10::r)=(w++[10])::pieces r
  | [],r,_=>by
    show pieces (10::r)=_
    rw [pieces,if_pos rfl]
    rfl
  | c::w,r,h=>by
    have hc:¬c=10:=fun z=>h (by rw [z]; simp)
    show pieces (c::(w++10::r))=_
    rw [pieces,if_neg hc,pieces_line w r (fun z=>h (by simp [z]))]
    rfl
theorem pieces_last:∀ (w:Bytes),(10:UInt8) ∉ w→w≠[]→pieces w=[w]
  | [],_,h=>absurd rfl h
  | [c],h,_=>by
    have hc:¬c=10:=fun z=>h (by rw [z]; simp)
    rw [pieces,if_neg hc]
    rfl
  | c::d::w,h,_=>by
    have hc:¬c=10:=fun z=>h (by rw [z]; simp)
    rw [pieces,if_neg hc,pieces_last (d::w) (fun z=>h (by simp [z])) (by simp)]
theorem first_ten:∀ {l:Bytes},(10:UInt8)∈l→∃ w t,l=w++10::t∧(10:UInt8) ∉ w
  | [],h=>by cases h
  | c::l,h=>by
    by_cases hc:c=10
    · exact ⟨[],l,by rw [hc]; rfl,by simp⟩
    · rcases List.mem_cons.mp h with z | z
      · exact absurd z.symm hc
      · obtain ⟨w,t,e,hw⟩:=first_ten z
        refine ⟨c::w,t,by rw [e]; rfl,?_⟩
        intro q
        rcases List.mem_cons.mp q with q | q
        · exact hc q.symm
        · exact hw q
theorem pieces_are:∀ (n:Nat) (b:Bytes),b.length≤n→∀ p∈pieces b,Piece p
  | n,[],_,p,hp=>by cases hp
  | 0,c::r,h,p,hp=>by simp at h
  | n+1,c::r,h,p,hp=>by
    by_cases hm:(10:UInt8)∈c::r
    · obtain ⟨w,t,e,hw⟩:∃ w t,c::r=w++10::t∧(10:UInt8) ∉ w:=first_ten hm
      rw [e,pieces_line w t hw] at hp
      rcases List.mem_cons.mp hp with rfl | hp
      · refine ⟨by simp,fun i hi=>?_⟩
        by_cases lt:i<w.length
        · rw [List.getElem?_append_left lt] at hi
          exact absurd (List.mem_of_getElem? hi) hw
        · have:=(List.getElem?_eq_some_iff.mp hi).1
          rw [List.length_append,List.length_singleton] at this ⊢
          omega
      · have hl:=congrArg List.length e
        simp at hl h
        exact pieces_are n t (by omega) p hp
    · rw [pieces_last _ hm (by simp)] at hp
      rcases List.mem_singleton.mp hp with rfl
      refine ⟨by simp,fun i hi=>absurd (List.mem_of_getElem? hi) hm⟩
abbrev Pt:=Nat×List Nat
def readParts:List Bytes→List Pt
  | []=>[]
  | L::r=>match (readLine L).2 with
    | none=>[]
    | some x=>x::readParts r
def rl (x:Pt):RLine:=mkR x.1 x.2
theorem parts_len:∀ (ls:List Bytes),(readParts ls).length≤ls.length
  | []=>Nat.le_refl _
  | L::r=>by
    unfold readParts
    split
    · exact Nat.zero_le _
    · have:=parts_len r
      simp
      omega
theorem parts_get:∀ (ls:List Bytes) (i:Nat),i<(readParts ls).length→∃ L x,ls[i]?=some L∧(readParts ls)[i]?=some x∧(readLine L).2=some x
  | [],i,h=>by simp [readParts] at h
  | L::r,i,h=>by
    unfold readParts at h ⊢
    cases e:(readLine L).2 with
    | none=>rw [e] at h; simp at h
    | some x=>
      rw [e] at h
      dsimp only at h ⊢
      match i with
      | 0=>exact ⟨L,x,rfl,rfl,e⟩
      | i+1=>exact parts_get r i (by simpa using h)
theorem parts_stop:∀ (ls:List Bytes),(readParts ls).length<ls.length→∃ L,ls[(readParts ls).length]?=some L∧(readLine L).2=none
  | [],h=>by simp at h
  | L::r,h=>by
    unfold readParts at h ⊢
    cases e:(readLine L).2 with
    | none=>exact ⟨L,rfl,e⟩
    | some x=>
      rw [e] at h
      dsimp only at h ⊢
      exact parts_stop r (by simpa using h)
theorem find_idx {α:Type}{p:α×Nat→Bool}:∀ (l:List α) (o n:Nat),(∀ i,i<n→∀ x,l[i]?=some x→p (x,i+o)=false)→(∀ x,l[n]?=some x→p (x,n+o)=true)→
    (l.zipIdx o).find? p=l[n]?.map fun x=>(x,n+o)
  | [],o,n,_,_=>by simp
  | a::l,o,0,_,h=>by
    rw [List.zipIdx_cons,List.find?_cons]
    have:=h a rfl
    rw [Nat.zero_add] at this
    rw [this]
    simp
  | a::l,o,n+1,h1,h2=>by
    rw [List.zipIdx_cons,List.find?_cons]
    have:=h1 0 (by omega) a rfl
    rw [Nat.zero_add] at this
    rw [this]
    dsimp only
    rw [find_idx l (o+1) n (fun i hi x hx=>by
      have:=h1 (i+1) (by omega) x (by simpa using hx)
      rw [show i+(o+1)=i+1+o by omega]
      exact this) (fun x hx=>by
      have:=h2 x (by simpa using hx)
      rw [show n+(o+1)=n+1+o by omega]
      exact this)]
    rw [List.getElem?_cons_succ]
    congr 1
    funext x
    rw [show n+(o+1)=n+1+o by omega]
theorem fault_ls (ls:List Bytes) (P:∀ p∈ls,Piece p):(ls.zipIdx.find? fun (x:Bytes×Nat)=>decide (REPORTLINES≤x.2) || !reportForms.any fun (f:List Part)=>isBy f x.1) =
    ls[(readParts (ls.take 64)).length]?.map fun L=>(L,(readParts (ls.take 64)).length):=by
  have hlen:(readParts (ls.take 64)).length≤64:=by
    have:=parts_len (ls.take 64)
    rw [List.length_take] at this
    omega
  refine find_idx ls 0 (readParts (ls.take 64)).length ?_ ?_
  · intro i hi x hx
    obtain ⟨L,y,e1,e2,e3⟩:=parts_get (ls.take 64) i hi
    rw [List.getElem?_take_of_lt (by omega),hx] at e1
    cases e1
    have e4:¬(readLine x).2=none:=by rw [e3]; simp
    rw [readLine_none (P x (List.mem_of_getElem? hx))] at e4
    dsimp only
    rw [decide_eq_false (show ¬REPORTLINES≤i+0 by show ¬64≤i+0; omega),Bool.false_or]
    simpa using e4
  · intro x hx
    have hl:=(List.getElem?_eq_some_iff.mp hx).1
    dsimp only
    by_cases e:(readParts (ls.take 64)).length=64
    · rw [decide_eq_true (show REPORTLINES≤(readParts (ls.take 64)).length+0 by show 64≤_+0; omega),Bool.true_or]
    · obtain ⟨L,e1,e2⟩:=parts_stop (ls.take 64) (by rw [List.length_take]; omega)
      rw [List.getElem?_take_of_lt (by omega),hx] at e1
      cases e1
      rw [readLine_none (P x (List.mem_of_getElem? hx))] at e2
      rw [e2]
      simp
theorem text_fault (b:Bytes):textFault reportForms REPORTLINES b =
    (pieces b)[(readParts ((pieces b).take 64)).length]?.map fun L=>((readParts ((pieces b).take 64)).length,if (readParts ((pieces b).take 64)).length=64 then 0 else (readLine L).1):=by
  have hlen:(readParts ((pieces b).take 64)).length≤64:=by
    have:=parts_len ((pieces b).take 64)
    rw [List.length_take] at this
    omega
  unfold textFault
  rw [fault_ls (pieces b) (pieces_are b.length b (Nat.le_refl _)),Option.map_map]
  congr 1
  funext L
  show ((readParts ((pieces b).take 64)).length,if 64≤(readParts ((pieces b).take 64)).length then 0 else rightTo reportForms L)=_
  rw [rightTo_read]
  by_cases e:(readParts ((pieces b).take 64)).length=64
  · rw [if_pos e,if_pos (by omega)]
  · rw [if_neg e,if_neg (by omega)]
theorem readLine_vals {L:Bytes}{x:Pt}(P:Piece L) (h:(readLine L).2=some x):x.1<10∧valsOk x.1 x.2∧rlineOf L=rl x:=by
  obtain ⟨i,vs⟩:=x
  obtain ⟨hi,h2,_⟩:=readLine_some h
  have m:=formAt_mem hi
  have w:=forms_wf _ m
  obtain ⟨e1,e2⟩:=run_render (formAt i) w L vs h2
  have by_:isBy (formAt i) L=true:=by
    rw [piece_whole P m,h2]
    rfl
  have full:=((run_isBy (formAt i) w L).mp by_).2
  rw [full,List.take_length] at e1
  have ok:=fits_vals hi e2
  refine ⟨hi,ok,?_⟩
  rw [e1]
  exact rline_render hi ok
theorem parts_map:∀ (ls:List Bytes),(∀ p∈ls,Piece p)→(readParts ls).length=ls.length→ls.map rlineOf=(readParts ls).map rl
  | [],_,_=>rfl
  | L::r,P,h=>by
    unfold readParts at h ⊢
    cases e:(readLine L).2 with
    | none=>rw [e] at h; simp at h
    | some x=>
      rw [e] at h
      dsimp only at h ⊢
      rw [List.map_cons,List.map_cons,(readLine_vals (P L (by simp)) e).2.2,parts_map r (fun p hp=>P p (by simp [hp])) (by simpa using h)]
theorem parts_ok:∀ (ls:List Bytes),(∀ p∈ls,Piece p)→∀ x∈readParts ls,x.1<10∧valsOk x.1 x.2
  | [],_,x,hx=>by cases hx
  | L::r,P,x,hx=>by
    unfold readParts at hx
    cases e:(readLine L).2 with
    | none=>rw [e] at hx; cases hx
    | some y=>
      rw [e] at hx
      rcases List.mem_cons.mp hx with rfl | hx
      · have:=readLine_vals (P L (by simp)) e
        exact ⟨this.1,this.2.1⟩
      · exact parts_ok r (fun p hp=>P p (by simp [hp])) x hx
def psOf (b:Bytes):List Pt:=readParts ((pieces b).take 64)
def unfit (l:List RLine):Option Nat:=(List.range l.length).find? fun (i:Nat)=>!lineFine l i
def faultM (b:Bytes):List Int:=
  if (psOf b).length<(pieces b).length then [1,((psOf b).length:Int),if (psOf b).length=64 then 0 else ((readLine ((pieces b).getD (psOf b).length [])).1:Int)]
  else match unfit ((psOf b).map rl) with
    | some i=>[2,(i:Int),0]
    | none=>if ((psOf b).map rl).getLast?.map RLine.sort=some 4 then [] else [3,((psOf b).length:Int),0]
theorem ps_all {b:Bytes}(h:¬(psOf b).length<(pieces b).length):(pieces b).map rlineOf=(psOf b).map rl:=by
  have l1:=parts_len ((pieces b).take 64)
  have e:(pieces b).take 64=pieces b:=by
    rw [List.length_take] at l1
    apply List.take_of_length_le
    show _≤64
    have:(readParts ((pieces b).take 64)).length=(psOf b).length:=rfl
    omega
  have P:=pieces_are b.length b (Nat.le_refl _)
  unfold psOf at h ⊢
  rw [e] at h ⊢ l1
  exact parts_map (pieces b) P (by omega)
theorem read_report (b:Bytes):readReport b=if faultM b=[] then .ok (reportOf ((psOf b).map rl)) else .error ⟨((faultM b).getD 0 0).toNat,((faultM b).getD 1 0).toNat,((faultM b).getD 2 0).toNat⟩:=by
  unfold readReport
  rw [text_fault]
  unfold faultM
  by_cases h:(psOf b).length<(pieces b).length
  · rw [if_pos h]
    have:(pieces b)[(psOf b).length]?=some ((pieces b).getD (psOf b).length []):=by
      rw [List.getD_eq_getElem?_getD,List.getElem?_eq_getElem h]
      rfl
    unfold psOf at this ⊢
    rw [this]
    dsimp only [Option.map_some]
    by_cases e:(readParts ((pieces b).take 64)).length=64
    · rw [if_pos e,if_pos e,if_neg (List.cons_ne_nil _ _)]
      rfl
    · rw [if_neg e,if_neg e,if_neg (List.cons_ne_nil _ _)]
      rfl
  · rw [if_neg h]
    have:(pieces b)[(psOf b).length]?=none:=by
      rw [List.getElem?_eq_none_iff]
      omega
    unfold psOf at this ⊢
    rw [this]
    dsimp only [Option.map_none]
    rw [ps_all h]
    unfold psOf unfit
    cases e:(List.range (List.map rl (readParts ((pieces b).take 64))).length).find? fun (i:Nat)=>!lineFine (List.map rl (readParts ((pieces b).take 64))) i with
    | some i=>
      dsimp only
      rw [if_neg (List.cons_ne_nil _ _)]
      rfl
    | none=>
      dsimp only
      split
      · rw [if_pos rfl]
      · rw [if_neg (List.cons_ne_nil _ _),List.length_map]
        rfl
def sortAt (k:Nat):Nat:=if k<2 then 0 else if k<4 then 1 else if k<6 then 2 else if k<7 then 3 else 4
theorem sort_rl (x:Pt):(rl x).sort=sortAt x.1:=by
  obtain ⟨k,vs⟩:=x
  unfold rl mkR sortAt
  match k with
  | 0 | 1 | 2 | 3 | 4 | 5 | 6 | 7 | 8 | 9=>rfl
  | k+10=>
    show 4=_
    rw [if_neg (by show ¬k+10<2; omega),if_neg (by show ¬k+10<4; omega),if_neg (by show ¬k+10<6; omega),if_neg (by show ¬k+10<7; omega)]
def roomM (x:Pt):Bool:=match x.1 with
  | 2 | 3 | 6=>decide (x.2.getD 0 0+x.2.getD 1 0≤80)&&decide (x.2.getD 2 0+x.2.getD 1 0≤132)
  | 4=>(decide (x.2.getD 0 0+x.2.getD 1 0≤80)&&decide (x.2.getD 1 0≤18))&&decide (x.2.getD 2 0+x.2.getD 3 0≤132)
  | 5=>decide (x.2.getD 0 0+x.2.getD 1 0≤132)
  | _=>true
def passM (x:Pt):Nat:=match x.1 with
  | 2=>12 * x.2.getD 1 0
  | 3=>x.2.getD 1 0
  | _=>0
def PtOk (x:Pt):Prop:=x.1<10∧valsOk x.1 x.2
theorem fine_room {x:Pt}(h:PtOk x):(rl x).fine=roomM x:=by
  obtain ⟨k,vs⟩:=x
  obtain ⟨hk,h⟩:=h
  dsimp only at hk h
  match k,hk with
  | 0,_=>
    obtain ⟨c,r,rfl,h1,h2⟩:=h
    show (decide (c<80)&&decide (r<12))=true
    rw [decide_eq_true (by omega),decide_eq_true (by omega)]
    rfl
  | 1,_=>
    obtain ⟨c,r,rfl,h1,h2⟩:=h
    show (decide (c<80)&&decide (r<12))=true
    rw [decide_eq_true (by omega),decide_eq_true (by omega)]
    rfl
  | 2,_=>
    obtain ⟨c,n,p,rfl,h1,h2,h3,h4⟩:=h
    show ((decide (1≤n)&&decide (c+n≤80))&&decide (p+n≤132))=(decide (c+n≤80)&&decide (p+n≤132))
    rw [decide_eq_true h2,Bool.true_and]
  | 3,_=>
    obtain ⟨c,n,p,rfl,h1,h2,h3,h4⟩:=h
    show ((decide (1≤n)&&decide (c+n≤80))&&decide (p+n≤132))=(decide (c+n≤80)&&decide (p+n≤132))
    rw [decide_eq_true h2,Bool.true_and]
  | 4,_=>
    obtain ⟨c,n,p,w,rfl,h1,h2,h3,h4,h5,h6⟩:=h
    show ((if false=true then _ else (decide (1≤n)&&decide (c+n≤80))&&decide (n≤18))&&(decide (2≤w)&&(decide (w≤20)&&decide (p+w≤132))))=((decide (c+n≤80)&&decide (n≤18))&&decide (p+w≤132))
    rw [if_neg (by decide),decide_eq_true h2,decide_eq_true h5,decide_eq_true h6,Bool.true_and,Bool.true_and,Bool.true_and]
  | 5,_=>
    obtain ⟨p,w,rfl,h4,h5,h6⟩:=h
    show ((if true=true then ((0:Nat)==0&&(0:Nat)==0) else (isField 0 0&&decide (0≤MOSTFIGURES)))&&(decide (2≤w)&&(decide (w≤20)&&decide (p+w≤132))))=decide (p+w≤132)
    rw [if_pos rfl,decide_eq_true h5,decide_eq_true h6,Bool.true_and,Bool.true_and]
    rfl
  | 6,_=>
    obtain ⟨c,n,p,rfl,h1,h2,h3,h4⟩:=h
    show ((decide (1≤n)&&decide (c+n≤80))&&decide (p+n≤132))=(decide (c+n≤80)&&decide (p+n≤132))
    rw [decide_eq_true h2,Bool.true_and]
  | 7,_=>rfl
  | 8,_=>rfl
  | 9,_=>rfl
  | k+10,h=>omega
theorem pass_rl (x:Pt):passesIn [rl x]=passM x:=by
  obtain ⟨k,vs⟩:=x
  unfold rl mkR passM
  match k with
  | 0 | 1 | 2 | 3 | 4 | 5 | 6 | 7 | 8 | 9=>rfl
  | k+10=>rfl
theorem passesIn_append (l m:List RLine):passesIn (l++m)=passesIn l+passesIn m:=by
  unfold passesIn
  rw [List.map_append,List.sum_append]
theorem passesIn_snoc (l:List RLine) (x:Pt):passesIn (l++[rl x])=passesIn l+passM x:=by
  rw [passesIn_append,pass_rl]
theorem passes_map:∀ ps:List Pt,passesIn (ps.map rl)=(ps.map passM).sum
  | []=>rfl
  | x::r=>by
    have e:passesIn ((x::r).map rl)=passesIn ([rl x]++r.map rl):=rfl
    rw [e,passesIn_append,pass_rl,passes_map r,List.map_cons,List.sum_cons]
theorem take_snoc {α:Type}{l:List α}{i:Nat}{x:α}(h:l[i]?=some x):l.take (i+1)=l.take i++[x]:=by
  rw [List.take_add_one,h]
  rfl
def cnt (ps:List Pt) (s:Nat):Nat:=(ps.filter fun y=>sortAt y.1==s).length
def lastSort (ps:List Pt):Nat:=(ps.getLast?.map fun y=>sortAt y.1).getD 0
theorem last_ge {ps:List Pt}:∀ i,i≤ps.length→(∀ j,j<i→lineFine (ps.map rl) j=true)→∀ y∈ps.take i,sortAt y.1≤lastSort (ps.take i)
  | 0,_,_,y,hy=>by simp at hy
  | i+1,hi,h,y,hy=>by
    have hx:ps[i]?=some ps[i]:=List.getElem?_eq_getElem (by omega)
    rw [take_snoc hx] at hy ⊢
    have el:lastSort (ps.take i++[ps[i]])=sortAt ps[i].1:=by
      unfold lastSort
      rw [List.getLast?_append]
      rfl
    rw [el]
    rcases List.mem_append.mp hy with hy | hy
    · have f:=h i (by omega)
      unfold lineFine at f
      rw [List.getElem?_map,hx] at f
      dsimp only [Option.map_some] at f
      rw [Bool.and_eq_true] at f
      have a:=List.all_eq_true.mp f.1 (rl y) (by rw [←List.map_take]; exact List.mem_map_of_mem hy)
      rw [sort_rl,sort_rl] at a
      exact of_decide_eq_true a
    · rw [List.mem_singleton.mp hy]
      exact Nat.le_refl _
theorem cnt_map (ps:List Pt) (s:Nat):((ps.map rl).filter fun (y:RLine)=>y.sort==s).length=cnt ps s:=by
  unfold cnt
  rw [List.filter_map,List.length_map]
  congr 2
  funext y
  show ((rl y).sort==s)=_
  rw [sort_rl]
def fineM (ps:List Pt) (i:Nat) (x:Pt):Bool:=
  !(decide (sortAt x.1<lastSort (ps.take i)) || decide (mostOf (sortAt x.1)<cnt (ps.take i) (sortAt x.1)+1))&&!(decide (250<((ps.take i).map passM).sum+passM x) || !roomM x)
theorem cnt_snoc (ps:List Pt) (x:Pt):cnt (ps++[x]) (sortAt x.1)=cnt ps (sortAt x.1)+1:=by
  unfold cnt
  rw [List.filter_append,List.length_append]
  simp
theorem line_fine {ps:List Pt}{i:Nat}{x:Pt}(hx:ps[i]?=some x) (ok:PtOk x) (h:∀ j,j<i→lineFine (ps.map rl) j=true):lineFine (ps.map rl) i=fineM ps i x:=by
  have hi:i<ps.length:=(List.getElem?_eq_some_iff.mp hx).1
  have hx':(ps.map rl)[i]?=some (rl x):=by rw [List.getElem?_map,hx]; rfl
  unfold lineFine fineM
  rw [hx']
  dsimp only
  have e1:((List.map rl ps).take i).all (fun (y:RLine)=>decide (y.sort≤(rl x).sort))=!decide (sortAt x.1<lastSort (ps.take i)):=by
    rw [←List.map_take,sort_rl]
    apply Bool.eq_iff_iff.mpr
    rw [List.all_eq_true]
    constructor
    · intro q
      rw [Bool.not_eq_true',decide_eq_false_iff_not]
      intro lt
      unfold lastSort at lt
      cases e:(ps.take i).getLast? with
      | none=>rw [e] at lt; simp at lt
      | some z=>
        rw [e] at lt
        have m:=List.mem_of_getLast? e
        have:=of_decide_eq_true (q (rl z) (List.mem_map_of_mem m))
        rw [sort_rl] at this
        simp at lt
        omega
    · intro q y hy
      rw [Bool.not_eq_true',decide_eq_false_iff_not] at q
      obtain ⟨z,hz,rfl⟩:=List.mem_map.mp hy
      have:=last_ge i (by omega) h z hz
      rw [sort_rl]
      exact decide_eq_true (by omega)
  have e2:((List.map rl ps).take (i+1)).filter (fun (y:RLine)=>y.sort==(rl x).sort)=((List.map rl (ps.take (i+1))).filter fun (y:RLine)=>y.sort==(rl x).sort):=by rw [List.map_take]
  rw [e1,e2,cnt_map,sort_rl,take_snoc hx,cnt_snoc,fine_room ok]
  rw [←List.map_take,take_snoc hx,List.map_append]
  show (_&&(_&&(_&&decide (passesIn (List.map rl (ps.take i)++[rl x])≤PASSES))))=_
  rw [passesIn_snoc,passes_map]
  show _=_
  have e3:decide (((ps.take i).map passM).sum+passM x≤PASSES)=!decide (250<((ps.take i).map passM).sum+passM x):=by
    by_cases q:250<((ps.take i).map passM).sum+passM x
    · rw [decide_eq_true q,decide_eq_false (by show ¬_≤250; omega)]
      rfl
    · rw [decide_eq_false q,decide_eq_true (by show _≤250; omega)]
      rfl
  have e4:decide (cnt (ps.take i) (sortAt x.1)+1≤mostOf (sortAt x.1))=!decide (mostOf (sortAt x.1)<cnt (ps.take i) (sortAt x.1)+1):=by
    by_cases q:mostOf (sortAt x.1)<cnt (ps.take i) (sortAt x.1)+1
    · rw [decide_eq_true q,decide_eq_false (by omega)]
      rfl
    · rw [decide_eq_false q,decide_eq_true (by omega)]
      rfl
  rw [e3,e4]
  generalize decide (sortAt x.1<lastSort (ps.take i))=a
  generalize decide (mostOf (sortAt x.1)<cnt (ps.take i) (sortAt x.1)+1)=b
  generalize decide (250<((ps.take i).map passM).sum+passM x)=c
  generalize roomM x=d
  revert a b c d
  decide
theorem find_range {p:Nat→Bool}:∀ n i,i<n→(∀ j,j<i→p j=false)→p i=true→(List.range n).find? p=some i
  | 0,i,h,_,_=>by omega
  | n+1,i,h,h1,h2=>by
    rw [List.range_succ,List.find?_append]
    by_cases e:i<n
    · rw [find_range n i e h1 h2]
      rfl
    · have:i=n:=by omega
      subst this
      have z:(List.range i).find? p=none:=by
        rw [List.find?_eq_none]
        intro j hj
        rw [h1 j (List.mem_range.mp hj)]
        decide
      rw [z]
      simp [h2]
theorem unfit_some {l:List RLine}{i:Nat}(hi:i<l.length) (h:∀ j,j<i→lineFine l j=true) (e:lineFine l i=false):unfit l=some i:=by
  unfold unfit
  exact find_range l.length i hi (fun j hj=>by rw [h j hj]; rfl) (by rw [e]; rfl)
theorem unfit_none {l:List RLine}(h:∀ j,j<l.length→lineFine l j=true):unfit l=none:=by
  unfold unfit
  rw [List.find?_eq_none]
  intro j hj
  rw [h j (List.mem_range.mp hj)]
  decide
def rangeOf (c:Nat):Option (Nat×Nat):=if c=67 then some (0,79) else if c=82 then some (0,11) else if c=78 then some (1,80) else if c=80 then some (0,131) else if c=87 then some (2,20) else none
theorem rangeOf_rg {c lo hi:Nat}(h:rangeOf c=some (lo,hi)):Rg lo hi:=by
  unfold rangeOf at h
  unfold Rg
  repeat' split at h
  all_goals first | (cases h; done) | (cases h; decide)
def letterOf (lo hi:Nat):Nat:=if hi=79 then 67 else if hi=11 then 82 else if hi=80 then 78 else if hi=131 then 80 else 87
theorem letter_range {lo hi:Nat}(h:Rg lo hi):rangeOf (letterOf lo hi)=some (lo,hi):=by
  unfold Rg at h
  simp at h
  rcases h with ⟨rfl,rfl⟩ | ⟨rfl,rfl⟩ | ⟨rfl,rfl⟩ | ⟨rfl,rfl⟩ | ⟨rfl,rfl⟩ <;> rfl
def stepN (c:Nat) (L:Bytes):Nat:=match rangeOf c with
  | some (lo,hi)=>figs lo hi L
  | none=>match L with
    | b::_=>if b.toNat=c then 1 else 0
    | []=>0
def wholeM (c:Nat) (d:Bytes):Bool:=decide (d≠[])&&(match rangeOf c with
  | some (lo,hi)=>within lo hi (valueOf d)
  | none=>true)
theorem stepN_le (c:Nat) (L:Bytes):stepN c L≤L.length:=by
  unfold stepN
  split
  · exact figs_le _ _ L
  · split
    · split <;> simp
    · exact Nat.zero_le _
theorem stepN_digits {c:Nat}{L:Bytes}(h:(rangeOf c).isSome=true):∀ x∈L.take (stepN c L),digit x=true:=by
  intro x hx
  unfold stepN at hx
  cases e:rangeOf c with
  | none=>rw [e] at h; cases h
  | some p=>
    rw [e] at hx
    obtain ⟨lo,hi⟩:=p
    dsimp only at hx
    obtain ⟨i,hi',ex⟩:=List.mem_iff_getElem.mp hx
    rw [List.length_take] at hi'
    obtain ⟨d,hd,hdd⟩:=figs_digits L 0 false i (show i<figs lo hi L by omega)
    rw [List.getElem_take] at ex
    obtain ⟨z1,z2⟩:=List.getElem?_eq_some_iff.mp hd
    rw [←ex,z2]
    exact hdd
def readS:List Nat→Bytes→Nat×Option (List Nat)
  | [],_=>(0,some [])
  | c::s,L=>if wholeM c (L.take (stepN c L))=true then ((readS s (L.drop (stepN c L))).1+stepN c L,(readS s (L.drop (stepN c L))).2.map fun vs=>if (rangeOf c).isSome=true then valueOf (L.take (stepN c L))::vs else vs) else (stepN c L,none)
def sgs:List Part→List Nat
  | []=>[]
  | .word w::l=>w.map UInt8.toNat++sgs l
  | .num lo hi::l=>letterOf lo hi::sgs l
  | .tray::_=>[]
def plainS:List Part→Bool
  | []=>true
  | .word w::l=>(w.all fun c=>(rangeOf c.toNat).isNone)&&plainS l
  | .num _ _::l=>plainS l
  | .tray::_=>false
theorem forms_plain:∀ f∈reportForms,plainS f=true:=by decide +kernel
theorem readS_word (s:List Nat) (X:Bytes→Nat×Option (List Nat)) (hX:∀ L,readS s L=X L):∀ (w L:Bytes),(w.all fun c=>(rangeOf c.toNat).isNone)=true→
    readS (w.map UInt8.toNat++s) L=if w.isPrefixOf L=true then ((X (L.drop w.length)).1+w.length,(X (L.drop w.length)).2) else (lcp w L,none)
  | [],L,_=>by
    show readS s L=_
    rw [hX]
    simp
  | c::w,L,h=>by
    rw [List.all_cons,Bool.and_eq_true] at h
    have hc:rangeOf c.toNat=none:=by simpa using h.1
    show readS (c.toNat::(w.map UInt8.toNat++s)) L=_
    rw [readS]
    cases L with
    | nil=>
      have:stepN c.toNat []=0:=by unfold stepN; rw [hc]
      rw [this]
      have w0:wholeM c.toNat ([].take 0)=false:=by unfold wholeM; simp
      rw [if_neg (by rw [w0]; decide)]
      rw [if_neg (by simp)]
      rfl
    | cons b r=>
      by_cases e:c=b
      · subst e
        have:stepN c.toNat (c::r)=1:=by unfold stepN; rw [hc]; simp
        rw [this]
        have w1:wholeM c.toNat ((c::r).take 1)=true:=by unfold wholeM; rw [hc]; simp
        rw [if_pos w1]
        have d1:(c::r).drop 1=r:=rfl
        rw [d1,readS_word s X hX w r h.2]
        have pe:(c::w).isPrefixOf (c::r)=w.isPrefixOf r:=by simp [List.isPrefixOf]
        rw [pe]
        by_cases q:w.isPrefixOf r=true
        · rw [if_pos q,if_pos q]
          dsimp only
          rw [hc]
          have d2:(c::r).drop (c::w).length=r.drop w.length:=rfl
          rw [d2]
          simp [Nat.add_assoc]
        · rw [if_neg q,if_neg q]
          dsimp only [Option.map_none]
          rw [show lcp (c::w) (c::r)=lcp w r+1 by rw [lcp,if_pos rfl]]
      · have ne:¬b.toNat=c.toNat:=fun z=>e (UInt8.toNat_inj.mp z.symm)
        have:stepN c.toNat (b::r)=0:=by unfold stepN; rw [hc]; simp [ne]
        rw [this]
        have w0:wholeM c.toNat ((b::r).take 0)=false:=by unfold wholeM; simp
        rw [if_neg (by rw [w0]; decide)]
        rw [if_neg (by simp [List.isPrefixOf,e])]
        unfold lcp
        rw [if_neg e]
theorem readS_run:∀ (f:List Part),wf f=true→plainS f=true→∀ L,readS (sgs f) L=run f L
  | [],_,_,L=>rfl
  | .word w::l,h1,h2,L=>by
    rw [plainS,Bool.and_eq_true] at h2
    rw [sgs,readS_word (sgs l) (run l) (readS_run l h1 h2.2) w L h2.1,run]
  | .num lo hi::l,h1,h2,L=>by
    obtain ⟨rg,h1',_⟩:=wf_num h1
    have hr:=letter_range rg
    rw [sgs,readS,run]
    have e1:stepN (letterOf lo hi) L=figs lo hi L:=by unfold stepN; rw [hr]
    rw [e1]
    have e2:wholeM (letterOf lo hi) (L.take (figs lo hi L))=(decide (figs lo hi L≠0)&&within lo hi (valueOf (L.take (figs lo hi L)))):=by
      unfold wholeM
      rw [hr]
      dsimp only
      congr 1
      apply Bool.eq_iff_iff.mpr
      rw [decide_eq_true_eq,decide_eq_true_eq]
      have hl:=figs_le lo hi L
      constructor
      · intro q z
        apply q
        rw [z]
        rfl
      · intro q z
        have:=congrArg List.length z
        rw [List.length_take,List.length_nil] at this
        omega
    rw [e2,readS_run l h1' h2,hr]
    rfl
  | .tray::_,h,_,L=>by cases h
def forms:List String:=["where C R yes\n", "where C R no\n", "key C N at P by holes\n", "key C N at P by top\n", "sum C N at P W\n", "count at P W\n", "see C N at P\n", "list all\n", "list first\n", "list none\n"]
def codes (i:Nat):List Nat:=(forms.getD i "").toList.map Char.toNat
theorem codes_are:∀ i,i<10→codes i=sgs (formAt i):=by decide +kernel
theorem read_by {i:Nat}(h:i<10) (L:Bytes):readBy i L=((readS (codes i) L).1,(readS (codes i) L).2.map fun vs=>(i,vs)):=by
  have m:=formAt_mem h
  rw [codes_are i h,readS_run _ (forms_wf _ m) (forms_plain _ m)]
  rfl
def letters (cs:List Nat):List Nat:=cs.filter fun c=>(rangeOf c).isSome
theorem letters_nd:∀ i,i<10→(letters (codes i)).Nodup:=by decide +kernel
theorem cb_step (f a b lo hi:Nat):cbF (f+1) a b lo hi=if a≤hi then (if lo≤b then true else cbF f (a * 10) (b * 10+9) lo hi) else false:=rfl
def refM (b:Bytes):List Int:=if 4096<b.length then [-1] else if faultM b=[] then [] else -6::faultM b
theorem fault_back (b:Bytes) (f:¬faultM b=[]):[(((faultM b).getD 0 0).toNat:Int),(((faultM b).getD 1 0).toNat:Int),(((faultM b).getD 2 0).toNat:Int)]=faultM b:=by
  unfold faultM at f ⊢
  by_cases h1:(psOf b).length<(pieces b).length
  · rw [if_pos h1]
    by_cases e:(psOf b).length=64
    · rw [if_pos e]
      rfl
    · rw [if_neg e]
      rfl
  · rw [if_neg h1] at f ⊢
    cases u:unfit ((psOf b).map rl) with
    | some i=>rfl
    | none=>
      rw [u] at f
      dsimp only at f ⊢
      split
      · rename_i z
        rw [if_pos z] at f
        exact absurd rfl f
      · rfl
def repOf (b:Bytes):Report:=reportOf ((psOf b).map rl)
theorem on_report (b:Bytes) (f:Report→Reports.Answer):ReportsNeutral.told (Reports.onReport b f)=if refM b=[] then ReportsNeutral.told (f (repOf b)) else refM b:=by
  unfold Reports.onReport Reports.reportIn refM
  by_cases h:4096<b.length
  · rw [if_pos h,if_pos (show REPORTTEXT<b.length from h),if_neg (List.cons_ne_nil _ _)]
    rfl
  · rw [if_neg h,if_neg (show ¬REPORTTEXT<b.length from h),read_report]
    by_cases e:faultM b=[]
    · rw [if_pos e,if_pos e,if_pos rfl]
      rfl
    · rw [if_neg e,if_neg e,if_neg (List.cons_ne_nil _ _)]
      show (-6:Int)::[(((faultM b).getD 0 0).toNat:Int),(((faultM b).getD 1 0).toNat:Int),(((faultM b).getD 2 0).toNat:Int)]=_
      rw [fault_back b e]
theorem ref_fault {b:Bytes}(h:refM b=[]):faultM b=[]:=by
  unfold refM at h
  by_cases z:4096<b.length
  · rw [if_pos z] at h
    cases h
  · rw [if_neg z] at h
    by_cases e:faultM b=[]
    · exact e
    · rw [if_neg e] at h
      cases h
theorem ref_fine {b:Bytes}(h:refM b=[]):(∀ j,j<(psOf b).length→lineFine ((psOf b).map rl) j=true)∧((psOf b).map rl).getLast?.map RLine.sort=some 4:=by
  have f:=ref_fault h
  unfold faultM at f
  by_cases h1:(psOf b).length<(pieces b).length
  · rw [if_pos h1] at f
    cases f
  · rw [if_neg h1] at f
    cases u:unfit ((psOf b).map rl) with
    | some i=>rw [u] at f; cases f
    | none=>
      rw [u] at f
      dsimp only at f
      by_cases z:((psOf b).map rl).getLast?.map RLine.sort=some 4
      · refine ⟨fun j hj=>?_,z⟩
        unfold unfit at u
        have:=List.find?_eq_none.mp u j (by rw [List.mem_range,List.length_map]; exact hj)
        simpa using this
      · rw [if_neg z] at f
        cases f
theorem ps_okM (b:Bytes):∀ x∈psOf b,PtOk x:=fun x hx=>
  parts_ok _ (fun p hp=>pieces_are b.length b (Nat.le_refl _) p (List.mem_of_mem_take hp)) x hx
theorem ref_room {b:Bytes}(h:refM b=[]):∀ x∈psOf b,roomM x=true:=fun x hx=>by
  obtain ⟨j,hj,e⟩:=List.getElem_of_mem hx
  have hf:=(ref_fine h).1 j hj
  rw [line_fine (List.getElem?_eq_some_iff.mpr ⟨hj,e⟩) (ps_okM b x hx) (fun i hi=>(ref_fine h).1 i (by omega))] at hf
  unfold fineM at hf
  simp only [Bool.and_eq_true] at hf
  first
  | exact hf.2.2
  | exact hf.1.2
  | (revert hf; simp only [Bool.and_eq_true,Bool.not_eq_true',Bool.or_eq_false_iff]; intro hf; first | exact hf.2.2 | exact hf.2 | (simp_all; done))
def rdCard:Int→Card→List Int→Option Card
  | _,y,[]=>some y
  | _,_,[_]=>none
  | b,y,c::h::r=>if (b<c∧c<80)∧1≤h∧h≤4095 then rdCard c (y.set c.toNat h.toNat) r else none
def rdDeck:Nat→List Int→Option Deck
  | _,[]=>some []
  | 0,_::_=>none
  | f+1,n::l=>if 0≤n∧2 * n.toNat≤l.length then (rdCard (-1) blankCard (l.take (2 * n.toNat))).bind fun x=>(rdDeck f (l.drop (2 * n.toNat))).map fun d=>x::d else none
theorem rdCard_nn:∀ (l:List Int) (b:Int) (y z:Card),-1≤b→rdCard b y l=some z→∀ n∈l,0≤n
  | [],_,_,_,_,_,_,h=>by cases h
  | [_],_,_,_,_,e,_,_=>by cases e
  | c::h::r,b,y,z,hb,e,n,hn=>by
    rw [rdCard] at e
    by_cases q:(b<c∧c<80)∧1≤h∧h≤4095
    · rw [if_pos q] at e
      rcases List.mem_cons.mp hn with rfl | hn
      · omega
      · rcases List.mem_cons.mp hn with rfl | hn
        · omega
        · exact rdCard_nn r c _ z (by omega) e n hn
    · rw [if_neg q] at e
      cases e
def okP (x:Nat×Nat):Bool:=decide (x.1<COLUMNS)&&(decide (1≤x.2)&&decide (x.2<HOLES))
theorem rd_pairs:∀ (l:List Int) (p:List (Nat×Nat)) (b:Int) (y:Card),(∀ n∈l,0≤n)→twos (l.map Int.toNat)=some p→
    rdCard b y l=if ((p.head?.map fun x=>decide (b<(x.1:Int))).getD true&&(rising (p.map Prod.fst)&&p.all okP))=true then some (p.foldl (fun (y:Card) (x:Nat×Nat)=>y.set x.1 x.2) y) else none
  | [],p,b,y,_,e=>by
    cases e
    rfl
  | [_],p,b,y,_,e=>by cases e
  | c::h::r,p,b,y,hn,e=>by
    rw [List.map_cons,List.map_cons,twos] at e
    cases er:twos (r.map Int.toNat) with
    | none=>rw [er] at e; cases e
    | some q=>
      rw [er] at e
      cases e
      have ih:=rd_pairs r q c (y.set c.toNat h.toNat) (fun n hm=>hn n (by simp [hm])) er
      have hc:0≤c:=hn c (by simp)
      have hh:0≤h:=hn h (by simp)
      rw [rdCard,ih]
      have e1:okP (c.toNat,h.toNat)=(decide (c<80)&&(decide (1≤h)&&decide (h≤4095))):=by
        unfold okP
        show (decide (c.toNat<80)&&(decide (1≤h.toNat)&&decide (h.toNat<4096)))=_
        rw [show decide (c.toNat<80)=decide (c<80) from decide_eq_decide.mpr (by omega),show decide (1≤h.toNat)=decide (1≤h) from decide_eq_decide.mpr (by omega),show decide (h.toNat<4096)=decide (h≤4095) from decide_eq_decide.mpr (by omega)]
      have e2:rising (((c.toNat,h.toNat)::q).map Prod.fst)=((q.head?.map fun x=>decide (c<(x.1:Int))).getD true&&rising (q.map Prod.fst)):=by
        cases q with
        | nil=>rfl
        | cons x q=>
          show (decide (c.toNat<x.1)&&rising (x.1::q.map Prod.fst))=(decide (c<(x.1:Int))&&rising (x.1::q.map Prod.fst))
          rw [show decide (c.toNat<x.1)=decide (c<(x.1:Int)) from decide_eq_decide.mpr (by omega)]
      have e3:((((c.toNat,h.toNat)::q).head?.map fun x=>decide (b<(x.1:Int))).getD true)=decide (b<c):=by
        show decide (b<((c.toNat:Nat):Int))=_
        exact decide_eq_decide.mpr (by omega)
      rw [e2,e3,List.all_cons,e1]
      by_cases z:(b<c∧c<80)∧1≤h∧h≤4095
      · rw [if_pos z,decide_eq_true z.1.1,decide_eq_true z.1.2,decide_eq_true z.2.1,decide_eq_true z.2.2]
        simp only [Bool.true_and,Bool.and_assoc]
        rfl
      · rw [if_neg z,if_neg]
        intro w
        simp only [Bool.and_eq_true,decide_eq_true_eq] at w
        exact z ⟨⟨w.1,w.2.2.1.1⟩,w.2.2.1.2.1,w.2.2.1.2.2⟩
theorem twos_none:∀ (l:List Nat),twos l=none→l.length % 2=1
  | [],h=>by cases h
  | [_],_=>rfl
  | a::b::l,h=>by
    rw [twos] at h
    cases e:twos l with
    | none=>
      have:=twos_none l e
      simp only [List.length_cons]
      omega
    | some q=>rw [e] at h; cases h
theorem rdCard_odd:∀ (l:List Int) (b:Int) (y:Card),l.length % 2=1→rdCard b y l=none
  | [],_,_,h=>by cases h
  | [_],_,_,_=>rfl
  | c::h::r,b,y,e=>by
    rw [rdCard]
    simp only [List.length_cons] at e
    split
    · exact rdCard_odd r _ _ (by omega)
    · rfl
theorem card_is (l:List Int) (hn:∀ n∈l,0≤n):cardOf (l.map Int.toNat)=rdCard (-1) blankCard l:=by
  unfold cardOf
  cases e:twos (l.map Int.toNat) with
  | none=>
    have:=twos_none _ e
    rw [List.length_map] at this
    rw [rdCard_odd l _ _ this]
    rfl
  | some p=>
    rw [rd_pairs l p _ _ hn e]
    have z:((p.head?.map fun x=>decide ((-1:Int)<(x.1:Int))).getD true)=true:=by
      cases p with
      | nil=>rfl
      | cons x p=>
        show decide ((-1:Int)<(x.1:Int))=true
        exact decide_eq_true (by omega)
    rw [z,Bool.true_and]
    rfl
theorem deck_from:∀ (f:Nat) (l:List Int),(∀ n∈l,0≤n)→Reports.deckFrom f (l.map Int.toNat)=rdDeck f l
  | 0,[],_=>rfl
  | _+1,[],_=>rfl
  | 0,_::_,_=>rfl
  | f+1,n::l,h=>by
    have hn:0≤n:=h n (by simp)
    have hl:∀ m∈l,0≤m:=fun m hm=>h m (by simp [hm])
    rw [List.map_cons,Reports.deckFrom,rdDeck,List.length_map]
    by_cases z:2 * n.toNat≤l.length
    · rw [if_neg (by omega),if_pos ⟨hn,z⟩,←List.map_take,←List.map_drop,card_is _ fun m hm=>hl m (List.mem_of_mem_take hm),deck_from f _ fun m hm=>hl m (List.mem_of_mem_drop hm)]
    · rw [if_pos (by omega),if_neg fun q=>z q.2]
theorem deck_nn:∀ (f:Nat) (l:List Int) (d:Deck),rdDeck f l=some d→∀ n∈l,0≤n
  | _,[],_,_,_,h=>by cases h
  | 0,_::_,_,e,_,_=>by cases e
  | f+1,n::l,d,e,m,hm=>by
    rw [rdDeck] at e
    by_cases z:0≤n∧2 * n.toNat≤l.length
    · rw [if_pos z] at e
      cases ec:rdCard (-1) blankCard (l.take (2 * n.toNat)) with
      | none=>rw [ec] at e; cases e
      | some x=>
        rw [ec] at e
        cases ed:rdDeck f (l.drop (2 * n.toNat)) with
        | none=>rw [ed] at e; cases e
        | some d'=>
          rcases List.mem_cons.mp hm with rfl | hm
          · exact z.1
          · rw [←List.take_append_drop (2 * n.toNat) l] at hm
            rcases List.mem_append.mp hm with q | q
            · exact rdCard_nn _ _ _ _ (Int.le_refl _) ec m q
            · exact deck_nn f _ d' ed m q
    · rw [if_neg z] at e
      cases e
theorem deck_len:∀ (f:Nat) (l:List Int) (d:Deck),rdDeck f l=some d→d.length≤l.length
  | _,[],d,e=>by
    cases f:d with
    | nil=>exact Nat.zero_le _
    | cons x d'=>
      subst f
      rw [rdDeck] at e
      cases e
  | 0,_::_,_,e=>by cases e
  | f+1,n::l,d,e=>by
    rw [rdDeck] at e
    by_cases z:0≤n∧2 * n.toNat≤l.length
    · rw [if_pos z] at e
      cases ec:rdCard (-1) blankCard (l.take (2 * n.toNat)) with
      | none=>rw [ec] at e; cases e
      | some x=>
        rw [ec] at e
        cases ed:rdDeck f (l.drop (2 * n.toNat)) with
        | none=>rw [ed] at e; cases e
        | some d'=>
          rw [ed] at e
          have e':some (x::d')=some d:=e
          cases e'
          have:=deck_len f _ d' ed
          rw [List.length_drop] at this
          simp only [List.length_cons]
          omega
    · rw [if_neg z] at e
      cases e
theorem deck_is (l:List Int) (h:l.length≤1000):Reports.deckOf l=rdDeck l.length l:=by
  unfold Reports.deckOf Reports.nats
  by_cases a:(l.all fun (n:Int)=>decide (0≤n))=true
  · rw [if_pos a]
    have hn:∀ n∈l,0≤n:=fun n hm=>of_decide_eq_true (List.all_eq_true.mp a n hm)
    show (Reports.deckFrom (l.map Int.toNat).length (l.map Int.toNat)).bind _=_
    rw [List.length_map,deck_from _ _ hn]
    cases e:rdDeck l.length l with
    | none=>rfl
    | some d=>
      have:=deck_len _ _ _ e
      show (if d.length≤MOSTCARDS then some d else none)=_
      exact if_pos (show d.length≤MOSTCARDS from Nat.le_trans this h)
  · rw [if_neg a]
    cases e:rdDeck l.length l with
    | none=>rfl
    | some d=>exact absurd (List.all_eq_true.mpr fun n hm=>decide_eq_true (deck_nn _ _ _ e n hm)) a
def CardOk (x:Card):Prop:=x.length=80∧∀ h∈x,h<4096
theorem blank_ok:CardOk blankCard:=⟨by decide +kernel,fun h hh=>by
  have:=List.eq_of_mem_replicate hh
  omega⟩
theorem rdCard_ok:∀ (l:List Int) (b:Int) (y z:Card),CardOk y→rdCard b y l=some z→CardOk z
  | [],_,_,_,hy,e=>by
    cases e
    exact hy
  | [_],_,_,_,_,e=>by cases e
  | c::h::r,b,y,z,hy,e=>by
    rw [rdCard] at e
    by_cases q:(b<c∧c<80)∧1≤h∧h≤4095
    · rw [if_pos q] at e
      refine rdCard_ok r c _ z ⟨by rw [List.length_set]; exact hy.1,fun u hu=>?_⟩ e
      rcases List.mem_or_eq_of_mem_set hu with k | k
      · exact hy.2 u k
      · omega
    · rw [if_neg q] at e
      cases e
theorem deck_ok:∀ (f:Nat) (l:List Int) (d:Deck),rdDeck f l=some d→∀ x∈d,CardOk x
  | _,[],d,e,x,hx=>by
    rw [show rdDeck _ []=some [] by unfold rdDeck; rfl] at e
    cases e
    cases hx
  | 0,_::_,_,e,_,_=>by cases e
  | f+1,n::l,d,e,x,hx=>by
    rw [rdDeck] at e
    by_cases z:0≤n∧2 * n.toNat≤l.length
    · rw [if_pos z] at e
      cases ec:rdCard (-1) blankCard (l.take (2 * n.toNat)) with
      | none=>rw [ec] at e; cases e
      | some y=>
        rw [ec] at e
        cases ed:rdDeck f (l.drop (2 * n.toNat)) with
        | none=>rw [ed] at e; cases e
        | some d'=>
          rw [ed] at e
          have e':some (y::d')=some d:=e
          cases e'
          rcases List.mem_cons.mp hx with rfl | hx
          · exact rdCard_ok _ _ _ _ blank_ok ec
          · exact deck_ok f _ d' ed x hx
    · rw [if_neg z] at e
      cases e
def llt:List Int→List Int→Bool
  | [],[]=>false
  | [],_::_=>true
  | _::_,[]=>false
  | x::r,y::t=>decide (x<y) || (!decide (y<x)&&llt r t)
theorem llt_cons {x y:Int}{r t:List Int}:llt (x::r) (y::t)=true↔x<y∨(x=y∧llt r t=true):=by
  rw [llt,Bool.or_eq_true,Bool.and_eq_true,decide_eq_true_eq,Bool.not_eq_true',decide_eq_false_iff_not]
  constructor
  · rintro (h | ⟨h,k⟩)
    · exact .inl h
    · by_cases e:x=y
      · exact .inr ⟨e,k⟩
      · exact .inl (by omega)
  · rintro (h | ⟨h,k⟩)
    · exact .inl h
    · exact .inr ⟨by omega,k⟩
theorem llt_irrefl:∀ a,llt a a=false
  | []=>rfl
  | x::r=>by
    cases e:llt (x::r) (x::r) with
    | false=>rfl
    | true=>
      rcases llt_cons.mp e with h | ⟨_,h⟩
      · omega
      · rw [llt_irrefl r] at h
        cases h
theorem llt_trans:∀ a b c,llt a b=true→llt b c=true→llt a c=true
  | [],[],_,h,_=>by cases h
  | [],_::_,[],_,h=>by cases h
  | [],_::_,_::_,_,_=>rfl
  | _::_,[],_,h,_=>by cases h
  | _::_,_::_,[],_,h=>by cases h
  | x::r,y::t,z::u,h,k=>by
    rw [llt_cons] at h k ⊢
    rcases h with h | ⟨h,h2⟩
    · rcases k with k | ⟨k,_⟩
      · exact .inl (by omega)
      · exact .inl (by omega)
    · rcases k with k | ⟨k,k2⟩
      · exact .inl (by omega)
      · exact .inr ⟨by omega,llt_trans r t u h2 k2⟩
theorem llt_total:∀ a b,llt a b=false→llt b a=false→a=b
  | [],[],_,_=>rfl
  | [],_::_,h,_=>by cases h
  | _::_,[],_,h=>by cases h
  | x::r,y::t,h,k=>by
    have h':¬llt (x::r) (y::t)=true:=by rw [h]; exact Bool.false_ne_true
    have k':¬llt (y::t) (x::r)=true:=by rw [k]; exact Bool.false_ne_true
    rw [llt_cons] at h' k'
    have e:x=y:=by
      by_cases z:x<y
      · exact absurd (.inl z) h'
      · by_cases z2:y<x
        · exact absurd (.inl z2) k'
        · omega
    subst e
    congr 1
    apply llt_total r t
    · cases q:llt r t with
      | false=>rfl
      | true=>exact absurd (.inr ⟨rfl,q⟩) h'
    · cases q:llt t r with
      | false=>rfl
      | true=>exact absurd (.inr ⟨rfl,q⟩) k'
theorem llt_asymm {a b:List Int}(h:llt a b=true):llt b a=false:=by
  cases e:llt b a with
  | false=>rfl
  | true=>
    have:=llt_trans a b a h e
    rw [llt_irrefl] at this
    cases this
theorem lle_trans {a b c:List Int}(h:llt b a=false) (k:llt c b=false):llt c a=false:=by
  cases e:llt c a with
  | false=>rfl
  | true=>
    cases q:llt a b with
    | true=>
      rw [llt_trans c a b e q] at k
      cases k
    | false=>
      have:=llt_total a b q h
      subst this
      rw [e] at k
      cases k
theorem order_llt:∀ (a b:List Nat),a.length=b.length→(order a b=-1↔llt (a.map Int.ofNat) (b.map Int.ofNat)=true)
  | [],[],_=>by
    constructor
    · intro h
      cases h
    · intro h
      cases h
  | [],_::_,h=>by cases h
  | _::_,[],h=>by cases h
  | x::r,y::t,h=>by
    have ih:=order_llt r t (by simpa using h)
    rw [List.map_cons,List.map_cons,llt_cons,order]
    show _↔((x:Int)<(y:Int)∨((x:Int)=(y:Int)∧_))
    by_cases z:x<y
    · rw [if_pos z]
      exact ⟨fun _=>.inl (by omega),fun _=>rfl⟩
    · rw [if_neg z]
      by_cases z2:y<x
      · rw [if_pos z2]
        constructor
        · intro q
          cases q
        · rintro (q | ⟨q,_⟩) <;> omega
      · rw [if_neg z2,ih]
        constructor
        · intro q
          exact .inr ⟨by omega,q⟩
        · rintro (q | ⟨_,q⟩)
          · omega
          · exact q
section
variable {α β:Type}(key:α→List Int)
def ins (x:α):List α→List α
  | []=>[x]
  | y::d=>if llt (key x) (key y)=true then x::y::d else y::ins x d
def isort (l:List α):List α:=l.foldl (fun z x=>ins key x z) []
def Srt (l:List α):Prop:=l.Pairwise fun a b=>llt (key b) (key a)=false
def row (c:List Int) (l:List α):List α:=l.filter fun x=>decide (key x=c)
theorem ins_mem {x z:α}:∀ {l:List α},z∈ins key x l→z=x∨z∈l
  | [],h=>by
    rcases List.mem_singleton.mp h with rfl
    exact .inl rfl
  | y::d,h=>by
    unfold ins at h
    split at h
    · rcases List.mem_cons.mp h with h | h
      · exact .inl h
      · exact .inr h
    · rcases List.mem_cons.mp h with h | h
      · exact .inr (by rw [h]; simp)
      · rcases ins_mem h with h | h
        · exact .inl h
        · exact .inr (by simp [h])
theorem ins_srt {x:α}:∀ {l:List α},Srt key l→Srt key (ins key x l)
  | [],_=>by
    unfold ins Srt
    simp
  | y::d,h=>by
    obtain ⟨h1,h2⟩:=List.pairwise_cons.mp h
    unfold ins
    by_cases z:llt (key x) (key y)=true
    · rw [if_pos z]
      refine List.pairwise_cons.mpr ⟨fun b hb=>?_,h⟩
      rcases List.mem_cons.mp hb with rfl | hb
      · exact llt_asymm z
      · exact lle_trans (llt_asymm z) (h1 b hb)
    · rw [if_neg z]
      refine List.pairwise_cons.mpr ⟨fun b hb=>?_,ins_srt h2⟩
      rcases ins_mem key hb with rfl | hb
      · simpa using z
      · exact h1 b hb
theorem ins_row {x:α}(c:List Int):∀ {l:List α},Srt key l→row key c (ins key x l)=row key c l++row key c [x]
  | [],_=>by
    unfold ins
    rfl
  | y::d,h=>by
    obtain ⟨h1,h2⟩:=List.pairwise_cons.mp h
    unfold ins
    by_cases z:llt (key x) (key y)=true
    · rw [if_pos z]
      by_cases e:key x=c
      · have nil:row key c (y::d)=[]:=by
          unfold row
          rw [List.filter_eq_nil_iff]
          intro b hb q
          have q:=of_decide_eq_true q
          rcases List.mem_cons.mp hb with rfl | hb
          · rw [q,←e,llt_irrefl] at z
            cases z
          · have:=h1 b hb
            rw [q,←e,z] at this
            cases this
        rw [nil,List.nil_append]
        unfold row at nil ⊢
        rw [List.filter_cons,nil,List.filter_cons]
        rfl
      · unfold row
        rw [List.filter_cons,if_neg (by simpa using e),List.filter_cons (xs:=[]),if_neg (by simpa using e)]
        simp
    · rw [if_neg z]
      have ih:=ins_row (x:=x) c h2
      unfold row at ih ⊢
      rw [List.filter_cons,ih,List.filter_cons (xs:=d)]
      split <;> rfl
theorem isort_go:∀ (l acc:List α),Srt key acc→Srt key (l.foldl (fun z x=>ins key x z) acc)∧∀ c,row key c (l.foldl (fun z x=>ins key x z) acc)=row key c acc++row key c l
  | [],acc,h=>⟨h,fun c=>by
    show row key c acc=_++[]
    rw [List.append_nil]⟩
  | x::l,acc,h=>by
    obtain ⟨h1,h2⟩:=isort_go l (ins key x acc) (ins_srt key h)
    refine ⟨h1,fun c=>?_⟩
    rw [List.foldl_cons,h2,ins_row key c h,List.append_assoc]
    congr 1
    unfold row
    rw [←List.filter_append]
    rfl
theorem isort_srt (l:List α):Srt key (isort key l):=(isort_go key l [] .nil).1
theorem isort_row (l:List α) (c:List Int):row key c (isort key l)=row key c l:=by
  have:=(isort_go key l [] .nil).2 c
  exact this
theorem srt_one:∀ (xs ys:List α),Srt key xs→Srt key ys→(∀ c,row key c xs=row key c ys)→xs=ys
  | [],[],_,_,_=>rfl
  | [],y::ys,_,_,h=>by
    have:=h (key y)
    unfold row at this
    rw [List.filter_cons,if_pos (decide_eq_true rfl)] at this
    cases this
  | x::xs,[],_,_,h=>by
    have:=h (key x)
    unfold row at this
    rw [List.filter_cons,if_pos (decide_eq_true rfl)] at this
    cases this
  | x::xs,y::ys,hx,hy,h=>by
    obtain ⟨a1,a2⟩:=List.pairwise_cons.mp hx
    obtain ⟨b1,b2⟩:=List.pairwise_cons.mp hy
    have low:∀ (u:α) (us vs:List α),(∀ b∈us,llt (key b) (key u)=false)→∀ v∈vs,(∀ c,row key c (u::us)=row key c vs)→llt (key v) (key u)=false:=fun u us vs hu v hv hr=>by
      have:v∈row key (key v) (u::us):=by
        rw [hr]
        exact List.mem_filter.mpr ⟨hv,decide_eq_true rfl⟩
      rcases List.mem_cons.mp ((List.mem_filter.mp this).1) with rfl | k
      · exact llt_irrefl _
      · exact hu v k
    have e:key x=key y:=llt_total _ _ (low y ys (x::xs) b1 x (by simp) fun c=>(h c).symm) (low x xs (y::ys) a1 y (by simp) h)
    have hc:=h (key x)
    unfold row at hc
    rw [List.filter_cons,if_pos (decide_eq_true rfl),List.filter_cons,if_pos (decide_eq_true e.symm)] at hc
    have exy:=(List.cons.inj hc).1
    subst exy
    congr 1
    refine srt_one xs ys a2 b2 fun c=>?_
    have hc:=h c
    unfold row at hc ⊢
    rw [List.filter_cons,List.filter_cons] at hc
    split at hc
    · exact (List.cons.inj hc).2
    · exact hc
end
section
variable {α β:Type}
theorem ins_map {key:α→List Int}{key2:β→List Int}(g:α→β) (x:α):∀ (l:List α),key2 (g x)=key x→(∀ y∈l,key2 (g y)=key y)→(ins key x l).map g=ins key2 (g x) (l.map g)
  | [],_,_=>rfl
  | y::d,hx,h=>by
    have ih:=ins_map g x d hx fun z hz=>h z (by simp [hz])
    show List.map g (if llt (key x) (key y)=true then x::y::d else y::ins key x d)=if llt (key2 (g x)) (key2 (g y))=true then g x::g y::d.map g else g y::ins key2 (g x) (d.map g)
    rw [hx,h y (by simp)]
    split
    · rfl
    · rw [List.map_cons,ih]
theorem isort_map {key:α→List Int}{key2:β→List Int}(g:α→β) (l:List α) (h:∀ y∈l,key2 (g y)=key y):(isort key l).map g=isort key2 (l.map g):=by
  have go:∀ (l acc:List α),(∀ y∈l,key2 (g y)=key y)→(∀ y∈acc,key2 (g y)=key y)→(l.foldl (fun z x=>ins key x z) acc).map g=(l.map g).foldl (fun z x=>ins key2 x z) (acc.map g):=by
    intro l
    induction l with
    | nil=>intro acc _ _; rfl
    | cons x l ih=>
      intro acc h1 h2
      rw [List.foldl_cons,List.map_cons,List.foldl_cons,ih _ (fun y hy=>h1 y (by simp [hy])) (fun y hy=>?_),ins_map g x acc (h1 x (by simp)) h2]
      rcases ins_mem key hy with rfl | hy
      · exact h1 _ (by simp)
      · exact h2 y hy
  exact go l [] h (by simp)
theorem isort_mem {key:α→List Int}{l:List α}{x:α}(h:x∈isort key l):x∈l:=by
  have:x∈row key (key x) (isort key l):=List.mem_filter.mpr ⟨h,decide_eq_true rfl⟩
  rw [isort_row] at this
  exact (List.mem_filter.mp this).1
end
def kI (r:Report) (x:Card):List Int:=(r.keyOf x).map Int.ofNat
theorem key_len (r:Report) {x y:Card}(h:x.length=y.length):(r.keyOf x).length=(r.keyOf y).length:=by
  unfold Report.keyOf
  rw [List.length_flatMap,List.length_flatMap]
  congr 1
  apply List.map_congr_left
  intro k _
  rw [List.length_map,List.length_map]
  unfold fieldOf
  rw [List.length_take,List.length_drop,List.length_take,List.length_drop,h]
theorem putIn_ins (r:Report) (x:Card):∀ (d:Deck),(∀ y∈d,x.length=y.length)→r.putIn x d=ins (kI r) x d
  | [],_=>rfl
  | y::d,h=>by
    have ih:=putIn_ins r x d fun z hz=>h z (by simp [hz])
    show (if order (r.keyOf x) (r.keyOf y)=-1 then x::y::d else y::r.putIn x d)=if llt (kI r x) (kI r y)=true then x::y::d else y::ins (kI r) x d
    rw [ih]
    unfold kI
    by_cases z:order (r.keyOf x) (r.keyOf y)=-1
    · rw [if_pos z,if_pos ((order_llt _ _ (key_len r (h y (by simp)))).mp z)]
    · rw [if_neg z,if_neg fun q=>z ((order_llt _ _ (key_len r (h y (by simp)))).mpr q)]
theorem ordered_is (r:Report) (d:Deck) (h:∀ x∈d,x.length=80):r.ordered d=isort (kI r) (d.filter r.means):=by
  unfold Report.ordered isort
  have go:∀ (l acc:Deck),(∀ x∈l,x.length=80)→(∀ x∈acc,x.length=80)→l.foldl (fun (z:Deck) (x:Card)=>r.putIn x z) acc=l.foldl (fun z x=>ins (kI r) x z) acc:=by
    intro l
    induction l with
    | nil=>intro acc _ _; rfl
    | cons x l ih=>
      intro acc h1 h2
      have hx:=h1 x (by simp)
      rw [List.foldl_cons,List.foldl_cons,putIn_ins r x acc fun y hy=>by rw [hx,h2 y hy]]
      refine ih _ (fun y hy=>h1 y (by simp [hy])) fun y hy=>?_
      rcases ins_mem (kI r) hy with rfl | hy
      · exact hx
      · exact h2 y hy
  exact go _ [] (fun x hx=>h x ((List.mem_filter.mp hx).1)) (by simp)
def isW (x:Pt):Bool:=decide (x.1=0) || decide (x.1=1)
def isK (x:Pt):Bool:=decide (x.1=2) || decide (x.1=3)
def isT (x:Pt):Bool:=decide (x.1=4) || decide (x.1=5)
def isS (x:Pt):Bool:=decide (x.1=6)
def n0 (x:Pt):Nat:=x.2.getD 0 0
def n1 (x:Pt):Nat:=x.2.getD 1 0
def n2 (x:Pt):Nat:=x.2.getD 2 0
def n3 (x:Pt):Nat:=x.2.getD 3 0
def toW (x:Pt):WhereBy:=⟨n0 x,n1 x,decide (x.1=0)⟩
def toK (x:Pt):KeyBy:=⟨n0 x,n1 x,n2 x,decide (x.1=2)⟩
def toT (x:Pt):TotalBy:=if x.1=4 then ⟨false,n0 x,n1 x,n2 x,n3 x⟩ else ⟨true,0,0,n0 x,n1 x⟩
def toS (x:Pt):SeenBy:=⟨n0 x,n1 x,n2 x⟩
theorem rl_cases (x:Pt):(isW x=true∧rl x=.where_ (toW x))∨(isK x=true∧rl x=.key (toK x))∨(isT x=true∧rl x=.total (toT x))∨(isS x=true∧rl x=.seen (toS x))∨
    (7≤x.1∧rl x=.list (if x.1=7 then 1 else if x.1=8 then 2 else 0)):=by
  obtain ⟨k,vs⟩:=x
  match k with
  | 0=>exact .inl ⟨rfl,rfl⟩
  | 1=>exact .inl ⟨rfl,rfl⟩
  | 2=>exact .inr (.inl ⟨rfl,rfl⟩)
  | 3=>exact .inr (.inl ⟨rfl,rfl⟩)
  | 4=>exact .inr (.inr (.inl ⟨rfl,rfl⟩))
  | 5=>exact .inr (.inr (.inl ⟨rfl,rfl⟩))
  | 6=>exact .inr (.inr (.inr (.inl ⟨rfl,rfl⟩)))
  | 7=>exact .inr (.inr (.inr (.inr ⟨by show 7≤7; omega,rfl⟩)))
  | 8=>exact .inr (.inr (.inr (.inr ⟨by show 7≤8; omega,rfl⟩)))
  | 9=>exact .inr (.inr (.inr (.inr ⟨by show 7≤9; omega,rfl⟩)))
  | k+10=>
    refine .inr (.inr (.inr (.inr ⟨by show 7≤k+10; omega,?_⟩)))
    show RLine.list 0=_
    rw [if_neg (by show ¬k+10=7; omega),if_neg (by show ¬k+10=8; omega)]
theorem is_num {x:Pt}:(isW x=true↔x.1=0∨x.1=1)∧(isK x=true↔x.1=2∨x.1=3)∧(isT x=true↔x.1=4∨x.1=5)∧(isS x=true↔x.1=6):=by
  unfold isW isK isT isS
  simp
def wsOf (ps:List Pt):List Pt:=ps.filter isW
def ksOf (ps:List Pt):List Pt:=ps.filter isK
def tsOf (ps:List Pt):List Pt:=ps.filter isT
def ssOf (ps:List Pt):List Pt:=ps.filter isS
theorem pick {α:Type}(f:RLine→Option α) (p:Pt→Bool) (g:Pt→α) (h:∀ x,p x=true→f (rl x)=some (g x)) (h2:∀ x,p x=false→f (rl x)=none):∀ ps:List Pt,(ps.map rl).filterMap f=(ps.filter p).map g
  | []=>rfl
  | x::ps=>by
    have ih:=pick f p g h h2 ps
    rw [List.map_cons,List.filterMap_cons,List.filter_cons]
    cases e:p x with
    | true=>
      rw [h x e,ih]
      rfl
    | false=>
      rw [h2 x e,ih]
      rfl
theorem ws_is (ps:List Pt):(reportOf (ps.map rl)).ws=(wsOf ps).map toW:=by
  refine pick _ isW toW (fun x h=>?_) (fun x h=>?_) ps
  · rcases rl_cases x with ⟨_,e⟩ | ⟨q,e⟩ | ⟨q,e⟩ | ⟨q,e⟩ | ⟨q,e⟩ <;> have n:=@is_num x
    · rw [e]
    · have:=n.1.mp h; have:=n.2.1.mp q; omega
    · have:=n.1.mp h; have:=n.2.2.1.mp q; omega
    · have:=n.1.mp h; have:=n.2.2.2.mp q; omega
    · have:=n.1.mp h; omega
  · rcases rl_cases x with ⟨q,e⟩ | ⟨q,e⟩ | ⟨q,e⟩ | ⟨q,e⟩ | ⟨q,e⟩
    · rw [h] at q; cases q
    all_goals rw [e]
theorem ks_is (ps:List Pt):(reportOf (ps.map rl)).ks=(ksOf ps).map toK:=by
  refine pick _ isK toK (fun x h=>?_) (fun x h=>?_) ps
  · rcases rl_cases x with ⟨q,e⟩ | ⟨q,e⟩ | ⟨q,e⟩ | ⟨q,e⟩ | ⟨q,e⟩ <;> have n:=@is_num x
    · have:=n.2.1.mp h; have:=n.1.mp q; omega
    · rw [e]
    · have:=n.2.1.mp h; have:=n.2.2.1.mp q; omega
    · have:=n.2.1.mp h; have:=n.2.2.2.mp q; omega
    · have:=n.2.1.mp h; omega
  · rcases rl_cases x with ⟨q,e⟩ | ⟨q,e⟩ | ⟨q,e⟩ | ⟨q,e⟩ | ⟨q,e⟩
    · rw [e]
    · rw [h] at q; cases q
    all_goals rw [e]
theorem ts_is (ps:List Pt):(reportOf (ps.map rl)).ts=(tsOf ps).map toT:=by
  refine pick _ isT toT (fun x h=>?_) (fun x h=>?_) ps
  · rcases rl_cases x with ⟨q,e⟩ | ⟨q,e⟩ | ⟨q,e⟩ | ⟨q,e⟩ | ⟨q,e⟩ <;> have n:=@is_num x
    · have:=n.2.2.1.mp h; have:=n.1.mp q; omega
    · have:=n.2.2.1.mp h; have:=n.2.1.mp q; omega
    · rw [e]
    · have:=n.2.2.1.mp h; have:=n.2.2.2.mp q; omega
    · have:=n.2.2.1.mp h; omega
  · rcases rl_cases x with ⟨q,e⟩ | ⟨q,e⟩ | ⟨q,e⟩ | ⟨q,e⟩ | ⟨q,e⟩
    · rw [e]
    · rw [e]
    · rw [h] at q; cases q
    all_goals rw [e]
theorem ss_is (ps:List Pt):(reportOf (ps.map rl)).ss=(ssOf ps).map toS:=by
  refine pick _ isS toS (fun x h=>?_) (fun x h=>?_) ps
  · rcases rl_cases x with ⟨q,e⟩ | ⟨q,e⟩ | ⟨q,e⟩ | ⟨q,e⟩ | ⟨q,e⟩ <;> have n:=@is_num x
    · have:=n.2.2.2.mp h; have:=n.1.mp q; omega
    · have:=n.2.2.2.mp h; have:=n.2.1.mp q; omega
    · have:=n.2.2.2.mp h; have:=n.2.2.1.mp q; omega
    · rw [e]
    · have:=n.2.2.2.mp h; omega
  · rcases rl_cases x with ⟨q,e⟩ | ⟨q,e⟩ | ⟨q,e⟩ | ⟨q,e⟩ | ⟨q,e⟩
    · rw [e]
    · rw [e]
    · rw [e]
    · rw [h] at q; cases q
    all_goals rw [e]
def holds (x:Card) (w:Pt):Bool:=(x.getD (n0 w) 0).testBit (n1 w)==decide (w.1=0)
def meansM (ps:List Pt) (x:Card):Bool:=(wsOf ps).all (holds x)
theorem means_is (ps:List Pt) (x:Card):(reportOf (ps.map rl)).means x=meansM ps x:=by
  unfold Report.means meansM
  rw [ws_is,List.all_map]
  rfl
theorem top_all:((List.range 4096).all fun h=>topOf h==if h=0 then 0 else h.log2+1)=true:=by decide +kernel
theorem top_log (h:Nat) (l:h<4096):topOf h=if h=0 then 0 else h.log2+1:=by
  have:=List.all_eq_true.mp top_all h (List.mem_range.mpr l)
  exact eq_of_beq this
def rankM (k:Pt) (h:Nat):Nat:=if k.1=2 then h else topOf h
def ranksM (x:Card) (k:Pt):List Nat:=(fieldOf x (n0 k) (n1 k)).map (rankM k)
theorem key_is (ps:List Pt) (x:Card):(reportOf (ps.map rl)).keyOf x=(ksOf ps).flatMap (ranksM x):=by
  unfold Report.keyOf
  rw [ks_is,List.flatMap_map]
  congr 1
  funext k
  unfold ranksM
  apply List.map_congr_left
  intro h _
  unfold rankM toK
  dsimp only
  by_cases e:k.1=2
  · rw [if_pos e,if_pos (decide_eq_true e)]
  · rw [if_neg e,if_neg (by simpa using e)]
def ordM (ps:List Pt) (d:Deck):Deck:=isort (fun x=>((ksOf ps).flatMap (ranksM x)).map Int.ofNat) (d.filter (meansM ps))
theorem ordM_is (ps:List Pt) (d:Deck) (h:∀ x∈d,x.length=80):(reportOf (ps.map rl)).ordered d=ordM ps d:=by
  rw [ordered_is _ _ h]
  unfold ordM
  rw [show (reportOf (ps.map rl)).means=meansM ps from funext (means_is ps),show kI (reportOf (ps.map rl))=fun x=>((ksOf ps).flatMap (ranksM x)).map Int.ofNat from funext fun x=>by unfold kI; rw [key_is]]
theorem ordM_mem {ps:List Pt}{d:Deck}{x:Card}(h:x∈ordM ps d):x∈d:=(List.mem_filter.mp (isort_mem h)).1
theorem cnt_take {ps:List Pt}(h:∀ j,j<ps.length→lineFine (ps.map rl) j=true) (ok:∀ x∈ps,PtOk x) (s:Nat):∀ i,i≤ps.length→cnt (ps.take i) s≤mostOf s
  | 0,_=>by
    rw [List.take_zero]
    exact Nat.zero_le _
  | i+1,hi=>by
    have ih:=cnt_take h ok s i (by omega)
    obtain ⟨x,hx⟩:∃ x,ps[i]?=some x:=⟨_,List.getElem?_eq_getElem (by omega)⟩
    rw [take_snoc hx]
    by_cases e:sortAt x.1=s
    · subst e
      rw [cnt_snoc]
      have hf:=h i (by omega)
      rw [line_fine hx (ok x (List.mem_of_getElem? hx)) fun j hj=>h j (by omega)] at hf
      unfold fineM at hf
      simp only [Bool.and_eq_true,Bool.not_eq_true',Bool.or_eq_false_iff,decide_eq_false_iff_not] at hf
      omega
    · have:cnt (ps.take i++[x]) s=cnt (ps.take i) s:=by
        unfold cnt
        rw [List.filter_append,List.filter_cons,if_neg (by simpa using e),List.filter_nil,List.append_nil]
      rw [this]
      exact ih
theorem cnt_most {b:Bytes}(h:refM b=[]) (s:Nat):cnt (psOf b) s≤mostOf s:=by
  have:=cnt_take (ref_fine h).1 (ps_okM b) s _ (Nat.le_refl _)
  rw [List.take_length] at this
  exact this
theorem sort_of (x:Pt):(isW x=decide (sortAt x.1=0))∧(isK x=decide (sortAt x.1=1))∧(isT x=decide (sortAt x.1=2))∧(isS x=decide (sortAt x.1=3)):=by
  obtain ⟨k,vs⟩:=x
  unfold isW isK isT isS sortAt
  dsimp only
  match k with
  | 0 | 1 | 2 | 3 | 4 | 5 | 6 | 7=>simp
  | k+8=>
    rw [if_neg (by omega),if_neg (by omega),if_neg (by omega),if_neg (by omega)]
    simp
theorem lens {b:Bytes}(h:refM b=[]):(wsOf (psOf b)).length≤16∧(ksOf (psOf b)).length≤3∧(tsOf (psOf b)).length≤8∧(ssOf (psOf b)).length≤16:=by
  have c:∀ (p:Pt→Bool) (s:Nat),(∀ x,p x=decide (sortAt x.1=s))→((psOf b).filter p).length≤mostOf s:=fun p s e=>by
    have:=cnt_most h s
    unfold cnt at this
    rw [show p=fun y=>sortAt y.1==s from funext fun x=>by rw [e x]; rfl]
    exact this
  exact ⟨c _ 0 fun x=>(sort_of x).1,c _ 1 fun x=>(sort_of x).2.1,c _ 2 fun x=>(sort_of x).2.2.1,c _ 3 fun x=>(sort_of x).2.2.2⟩
theorem last_is {b:Bytes}(h:refM b=[]):∃ ini x,psOf b=ini++[x]∧7≤x.1∧x.1<10∧∀ y∈ini,y.1<7:=by
  have f:=(ref_fine h).2
  rw [List.getLast?_map] at f
  cases e:(psOf b).getLast? with
  | none=>rw [e] at f; cases f
  | some x=>
    rw [e] at f
    have f:some (rl x).sort=some 4:=f
    rw [sort_rl] at f
    have f:=Option.some.inj f
    obtain ⟨ini,hp⟩:=List.getLast?_eq_some_iff.mp e
    have s7:∀ k:Nat,sortAt k=4↔7≤k:=fun k=>by
      unfold sortAt
      split
      · omega
      · split
        · omega
        · split
          · omega
          · split
            · omega
            · omega
    refine ⟨ini,x,hp,(s7 _).mp f,(ps_okM b x (by rw [hp]; simp)).1,fun y hy=>?_⟩
    have c:=cnt_most h 4
    rw [hp] at c
    have c2:=cnt_snoc ini x
    rw [f] at c2
    rw [c2] at c
    have c3:cnt ini 4=0:=by
      have:mostOf 4=1:=rfl
      omega
    have:¬sortAt y.1=4:=fun z=>by
      unfold cnt at c3
      have:=List.length_eq_zero_iff.mp c3
      rw [List.filter_eq_nil_iff] at this
      exact this y hy (by simpa using z)
    rw [s7] at this
    omega
def listM (k:Nat):Nat:=if k=7 then 1 else if k=8 then 2 else 0
theorem list_is {ini:List Pt}{x:Pt}(hx:7≤x.1) (hi:∀ y∈ini,y.1<7):(reportOf ((ini++[x]).map rl)).list=listM x.1:=by
  show ((((ini++[x]).map rl).findSome? fun (x:RLine)=>match x with
    | .list n=>some n
    | _=>none).getD 0)=_
  rw [List.map_append,List.findSome?_append]
  have e:((ini.map rl).findSome? fun (x:RLine)=>match x with
    | .list n=>some n
    | _=>none)=none:=by
    rw [List.findSome?_eq_none_iff]
    intro y hy
    obtain ⟨z,hz,rfl⟩:=List.mem_map.mp hy
    rcases rl_cases z with ⟨q,e⟩ | ⟨q,e⟩ | ⟨q,e⟩ | ⟨q,e⟩ | ⟨q,e⟩
    · rw [e]
    · rw [e]
    · rw [e]
    · rw [e]
    · have:=hi z hz
      omega
  rw [e]
  rcases rl_cases x with ⟨q,e⟩ | ⟨q,e⟩ | ⟨q,e⟩ | ⟨q,e⟩ | ⟨q,e⟩
  · have:=(@is_num x).1.mp q
    omega
  · have:=(@is_num x).2.1.mp q
    omega
  · have:=(@is_num x).2.2.1.mp q
    omega
  · have:=(@is_num x).2.2.2.mp q
    omega
  · rw [List.map_cons,List.map_nil,e]
    rfl
def atT (t:Pt):Nat:=if t.1=5 then n0 t else n2 t
def wT (t:Pt):Nat:=if t.1=5 then n1 t else n3 t
def legM (ns:List Int):Bool:=decide (ns.length=64)&&decide (ns.Nodup)
def bI (b:Bytes):List Int:=b.map fun c=>((c.toNat:Nat):Int)
def lastK (ps:List Pt):Nat:=(ps.getLast?.map fun x=>x.1).getD 0
theorem find_range2 {p:Nat→Bool}{n:Nat}(h:∀ i,i<n→p i=false):(List.range n).find? p=none:=by
  rw [List.find?_eq_none]
  intro i hi
  rw [h i (List.mem_range.mp hi)]
  exact Bool.false_ne_true
theorem u8_inj {a b:Int}(ha:0≤a∧a≤255) (hb:0≤b∧b≤255) (e:UInt8.ofNat a.toNat=UInt8.ofNat b.toNat):a=b:=by
  have:=congrArg UInt8.toNat e
  rw [UInt8.toNat_ofNat',UInt8.toNat_ofNat'] at this
  omega
theorem text_getD (ns:List Int) (i:Nat) (h:i<ns.length):(ReportsNeutral.text ns).getD i 0=UInt8.ofNat (ns[i]).toNat:=by
  unfold ReportsNeutral.text
  rw [List.getD_eq_getElem?_getD,List.getElem?_map,List.getElem?_eq_getElem h]
  rfl
theorem leg_is (ns:List Int) (hn:∀ n∈ns,0≤n∧n≤255):isLegend (ReportsNeutral.text ns)=legM ns:=by
  unfold isLegend legM
  have hl:(ReportsNeutral.text ns).length=ns.length:=by unfold ReportsNeutral.text; rw [List.length_map]
  rw [hl]
  by_cases e:ns.length=64
  · rw [show (ns.length==NUMBERS)=true by rw [e]; rfl,decide_eq_true e,Bool.true_and,Bool.true_and]
    have key:∀ i,i<ns.length→(((ReportsNeutral.text ns).take i).contains ((ReportsNeutral.text ns).getD i 0)=true↔∃ j,j<i∧ns[j]?=ns[i]?):=fun i hi=>by
      rw [text_getD ns i hi,List.contains_iff_mem]
      unfold ReportsNeutral.text
      rw [←List.map_take,List.mem_map]
      constructor
      · rintro ⟨m,hm,em⟩
        obtain ⟨j,hj,rfl⟩:=List.getElem_of_mem hm
        rw [List.length_take] at hj
        rw [List.getElem_take] at em
        refine ⟨j,by omega,?_⟩
        rw [List.getElem?_eq_getElem (by omega),List.getElem?_eq_getElem hi,u8_inj (hn _ (List.getElem_mem _)) (hn _ (List.getElem_mem _)) em]
      · rintro ⟨j,hj,ej⟩
        rw [List.getElem?_eq_getElem (by omega),List.getElem?_eq_getElem hi] at ej
        have ej:=Option.some.inj ej
        refine ⟨ns[i],?_,rfl⟩
        rw [←ej]
        exact List.mem_take_iff_getElem.mpr ⟨j,by omega,rfl⟩
    by_cases nd:ns.Nodup
    · rw [decide_eq_true nd]
      have:double? (ReportsNeutral.text ns)=none:=by
        unfold double?
        rw [hl]
        refine find_range2 fun i hi=>?_
        cases q:((ReportsNeutral.text ns).take i).contains ((ReportsNeutral.text ns).getD i 0) with
        | false=>rfl
        | true=>
          obtain ⟨j,hj,ej⟩:=(key i hi).mp q
          rw [List.getElem?_eq_getElem (by omega),List.getElem?_eq_getElem hi] at ej
          have:=(List.getElem_inj nd).mp (Option.some.inj ej)
          omega
      rw [this]
      rfl
    · rw [decide_eq_false nd]
      cases q:double? (ReportsNeutral.text ns) with
      | some i=>rfl
      | none=>
        exfalso
        apply nd
        unfold double? at q
        rw [hl,List.find?_eq_none] at q
        rw [List.nodup_iff_pairwise_ne,List.pairwise_iff_getElem]
        intro i j hi hj hij ee
        refine q j (List.mem_range.mpr hj) ((key j hj).mpr ⟨i,hij,?_⟩)
        rw [List.getElem?_eq_getElem hi,List.getElem?_eq_getElem hj,ee]
  · rw [show (ns.length==NUMBERS)=false from beq_eq_false_iff_ne.mpr e,decide_eq_false e]
    rfl
end JM
end
section
namespace JM
def rnk (KS:List (List Int)) (k:List Int):Nat:=KS.countP fun x=>llt x k
theorem countP_le {α:Type}{p q:α→Bool}:∀ {l:List α},(∀ x∈l,p x=true→q x=true)→l.countP p≤l.countP q
  | [],_=>Nat.le_refl _
  | x::l,h=>by
    have ih:=countP_le (p:=p) (q:=q) (l:=l) fun y hy=>h y (by simp [hy])
    rw [List.countP_cons,List.countP_cons]
    cases e:p x with
    | true=>rw [h x (by simp) e]; simp; exact ih
    | false=>simp; omega
theorem countP_less {α:Type}{p q:α→Bool}:∀ {l:List α},(∀ x∈l,p x=true→q x=true)→(∃ x∈l,p x=false∧q x=true)→l.countP p<l.countP q
  | [],_,⟨x,hx,_⟩=>by cases hx
  | x::l,h,⟨y,hy,h1,h2⟩=>by
    rw [List.countP_cons,List.countP_cons]
    rcases List.mem_cons.mp hy with rfl | hy
    · have:=countP_le (p:=p) (q:=q) (l:=l) fun z hz=>h z (by simp [hz])
      rw [h1,h2]; simp; omega
    · have ih:=countP_less (p:=p) (q:=q) (l:=l) (fun z hz=>h z (by simp [hz])) ⟨y,hy,h1,h2⟩
      cases e:p x with
      | true=>rw [h x (by simp) e]; simp; exact ih
      | false=>simp; omega
theorem rnk_lt {KS:List (List Int)}{a b:List Int}(ha:a∈KS):decide (rnk KS a<rnk KS b)=llt a b:=by
  cases e:llt a b with
  | true=>
    refine decide_eq_true (countP_less (fun k _ hk=>llt_trans k a b hk e) ⟨a,ha,llt_irrefl a,e⟩)
  | false=>
    refine decide_eq_false (Nat.not_lt.mpr (countP_le fun k _ hk=>?_))
    cases q:llt k a with
    | true=>rfl
    | false=>
      have:=lle_trans (a:=b) (b:=a) (c:=k) e q
      rw [this] at hk
      cases hk
theorem rnk_eq {KS:List (List Int)}{a b:List Int}(ha:a∈KS) (hb:b∈KS) (h:rnk KS a=rnk KS b):a=b:=by
  have h1:=rnk_lt (b:=b) ha
  have h2:=rnk_lt (b:=a) hb
  rw [h] at h1 h2
  rw [decide_eq_false (Nat.lt_irrefl _)] at h1 h2
  exact llt_total a b h1.symm h2.symm
theorem ins_length {α:Type}(key:α→List Int) (x:α):∀ l:List α,(ins key x l).length=l.length+1
  | []=>rfl
  | y::d=>by
    unfold ins
    split
    · rfl
    · rw [List.length_cons,ins_length key x d,List.length_cons]
theorem isort_length {α:Type}{key:α→List Int}(l:List α):(isort key l).length=l.length:=by
  have go:∀ (l acc:List α),(l.foldl (fun z x=>ins key x z) acc).length=l.length+acc.length:=by
    intro l
    induction l with
    | nil=>intro acc; simp
    | cons x l ih=>
      intro acc
      rw [List.foldl_cons,ih,ins_length,List.length_cons]
      omega
  exact go l []
end JM
end
section
namespace JM
open Pu
def sameF (a b:Card) (k:Pt):Bool:=fieldOf a (n0 k) (n1 k)==fieldOf b (n0 k) (n1 k)
def lbB:List Bool→Nat
  | []=>0
  | b::r=>if b=true then lbB r else r.length+1
def lbM (ks:List Pt) (a b:Card):Nat:=lbB (ks.map (sameF a b))
theorem lbB_le:∀ l,lbB l≤l.length
  | []=>Nat.le_refl _
  | b::r=>by
    have:=lbB_le r
    unfold lbB
    rw [List.length_cons]
    split <;> omega
def endsM (ks:List Pt) (x:Deck) (i:Nat):Nat:=if i=0 then 0 else lbM ks (x.getD (i-1) []) (x.getD i [])
theorem ends_le (ks:List Pt) (x:Deck) (i:Nat):endsM ks x i≤ks.length:=by
  unfold endsM
  split
  · exact Nat.zero_le _
  · have:=lbB_le (ks.map (sameF (x.getD (i-1) []) (x.getD i [])))
    rw [List.length_map] at this
    exact this
theorem lb_find (bs:List Bool) (h:bs.length≤3):(((List.range bs.length).reverse.map fun (l:Nat)=>l+1).find? fun (l:Nat)=>!(bs.take (bs.length+1-l)).all id).getD 0=lbB bs:=by
  match bs,h with
  | [],_=>rfl
  | [a],_=>cases a <;> rfl
  | [a,b],_=>cases a <;> cases b <;> rfl
  | [a,b,c],_=>cases a <;> cases b <;> cases c <;> rfl
  | _::_::_::_::_,h=>simp only [List.length_cons] at h; omega
theorem alike_is (ps:List Pt) (l:Nat) (a b:Card):(reportOf (ps.map rl)).alike l a b=(((ksOf ps).map (sameF a b)).take ((ksOf ps).length+1-l)).all id:=by
  unfold Report.alike Report.above
  rw [ks_is,List.length_map,←List.map_take,←List.map_take,List.all_map,List.all_map]
  rfl
theorem ends_is (ps:List Pt) (hk:(ksOf ps).length≤3) (x:Deck) (i:Nat):(reportOf (ps.map rl)).ends x i=endsM (ksOf ps) x i:=by
  unfold Report.ends endsM lbM
  split
  · rfl
  · have e:=lb_find ((ksOf ps).map (sameF (x.getD (i-1) []) (x.getD i []))) (by rw [List.length_map]; exact hk)
    rw [List.length_map] at e
    rw [←e,ks_is,List.length_map]
    congr 2
    funext l
    rw [alike_is]
def beginM (lv:Nat→Nat) (k level:Nat):Nat→Nat
  | 0=>0
  | i+1=>if level≤k∧level≤lv (i+1) then i+1 else beginM lv k level i
theorem begin_is (ps:List Pt) (hk:(ksOf ps).length≤3) (x:Deck) (level:Nat):∀ i,(reportOf (ps.map rl)).begin_ x level i=beginM (endsM (ksOf ps) x) (ksOf ps).length level i
  | 0=>rfl
  | i+1=>by
    unfold Report.begin_ beginM
    rw [begin_is ps hk x level i,ends_is ps hk,ks_is,List.length_map]
theorem begin_le (lv:Nat→Nat) (k level:Nat):∀ i,beginM lv k level i≤i
  | 0=>Nat.le_refl _
  | i+1=>by
    have:=begin_le lv k level i
    unfold beginM
    split <;> omega
theorem begin_top {lv:Nat→Nat}{k level:Nat}(h:k<level):∀ i,beginM lv k level i=0
  | 0=>rfl
  | i+1=>by
    unfold beginM
    rw [if_neg (by omega),begin_top h i]
def amtM (t:Pt) (y:Card):Option Int:=if t.1=5 then some 1 else amountOf (fieldOf y (n0 t) (n1 t))
def addO (v a:Option Int):Option Int:=v.bind fun v=>a.map fun a=>v+a
def overM (t:Pt) (l:Deck):Option Int:=l.foldl (fun v y=>addO v (amtM t y)) (some 0)
theorem over_is (t:Pt) (h:isT t=true) (x:Deck) (i j:Nat):(toT t).over x i j=overM t ((x.take (j+1)).drop i):=by
  have n:=is_num.2.2.1.mp h
  unfold TotalBy.over overM
  congr 1
  funext v y
  unfold addO amtM toT
  rcases n with e | e
  · rw [if_pos e,if_neg (show ¬t.1=5 by omega)]
    rfl
  · rw [if_neg (show ¬t.1=4 by omega),if_pos e]
    rfl
theorem over_some (t:Pt):∀ (l:Deck) (as:List Int),l.map (amtM t)=as.map some→overM t l=some as.sum:=by
  intro l as h
  have go:∀ (l:Deck) (as:List Int) (v:Int),l.map (amtM t)=as.map some→l.foldl (fun v y=>addO v (amtM t y)) (some v)=some (v+as.sum):=by
    intro l
    induction l with
    | nil=>
      intro as v h
      cases as with
      | nil=>simp
      | cons _ _=>cases h
    | cons y l ih=>
      intro as v h
      cases as with
      | nil=>cases h
      | cons a as=>
        rw [List.map_cons,List.map_cons] at h
        rw [List.foldl_cons,(List.cons.inj h).1]
        show List.foldl _ (some (v+a)) l=_
        rw [ih as (v+a) (List.cons.inj h).2,List.sum_cons]
        congr 1
        omega
  have:=go l as 0 h
  rw [Int.zero_add] at this
  exact this
theorem over_none (t:Pt) {l:Deck}{y:Card}(hy:y∈l) (h:amtM t y=none):overM t l=none:=by
  have stay:∀ (l:Deck),l.foldl (fun v y=>addO v (amtM t y)) none=none:=by
    intro l
    induction l with
    | nil=>rfl
    | cons z l ih=>
      rw [List.foldl_cons]
      exact ih
  have go:∀ (l:Deck) (v:Option Int),y∈l→l.foldl (fun v y=>addO v (amtM t y)) v=none:=by
    intro l
    induction l with
    | nil=>intro v hy; cases hy
    | cons z l ih=>
      intro v hy
      rw [List.foldl_cons]
      rcases List.mem_cons.mp hy with rfl | hy
      · rw [h]
        cases v with
        | none=>exact stay l
        | some v=>exact stay l
      · exact ih _ hy
  exact go l _ hy
def stayM (level:Nat):Int→List Int→List Nat→Bool
  | t,a::as,e::es=>decide (((if level≤e then 0 else t)+a).natAbs<10 ^ 16)&&stayM level ((if level≤e then 0 else t)+a) as es
  | _,_,_=>true
def lvsM (ks:List Pt) (x:Deck):List Nat:=(List.range x.length).map (endsM ks x)
def summedM (ks:List Pt) (x:Deck) (t:Pt):Bool:=(x.all fun y=>(amtM t y).isSome)&&((List.range (ks.length+1)).all fun l=>stayM (l+1) 0 (x.filterMap (amtM t)) (lvsM ks x))
def metM (ps:List Pt) (x:Deck):Bool:=(tsOf ps).all fun t=>decide (t.1=5) || summedM (ksOf ps) x t
section
variable {ks:List Pt}{x:Deck}{t:Pt}{as:List Int}
def segS (as:List Int) (ks:List Pt) (x:Deck) (level j:Nat):Int:=((as.take (j+1)).drop (beginM (endsM ks x) ks.length level j)).sum
theorem seg_next (level j:Nat) (hj:j+1<as.length):segS as ks x level (j+1)=(if level≤endsM ks x (j+1) then 0 else segS as ks x level j)+as[j+1]:=by
  have e:as.take (j+2)=as.take (j+1)++[as[j+1]]:=by
    rw [List.take_add_one,List.getElem?_eq_getElem hj]
    rfl
  have le:=begin_le (endsM ks x) ks.length level j
  have el:=ends_le ks x (j+1)
  have lt:(as.take (j+1)).length=j+1:=by rw [List.length_take]; omega
  unfold segS
  rw [show j+1+1=j+2 from rfl,e]
  by_cases c:level≤endsM ks x (j+1)
  · have b:beginM (endsM ks x) ks.length level (j+1)=j+1:=by
      unfold beginM
      rw [if_pos ⟨by omega,c⟩]
    rw [if_pos c,b,List.drop_append_of_le_length (by omega),List.drop_eq_nil_of_le (by omega)]
    simp
  · have b:beginM (endsM ks x) ks.length level (j+1)=beginM (endsM ks x) ks.length level j:=by
      rw [beginM,if_neg fun z=>c z.2]
    rw [if_neg c,b,List.drop_append_of_le_length (by omega),List.sum_append]
    simp
theorem stay_from (level:Nat) (hl:as.length=x.length):∀ (m i:Nat),i+1+m=x.length→stayM level (segS as ks x level i) (as.drop (i+1)) ((lvsM ks x).drop (i+1))=(List.range' (i+1) m).all fun j=>decide ((segS as ks x level j).natAbs<10 ^ 16)
  | 0,i,h=>by
    rw [List.drop_eq_nil_of_le (by omega)]
    rfl
  | m+1,i,h=>by
    have l1:(lvsM ks x).length=x.length:=by unfold lvsM; rw [List.length_map,List.length_range]
    have ih:=stay_from level hl m (i+1) (by omega)
    rw [List.drop_eq_getElem_cons (show i+1<as.length by omega),List.drop_eq_getElem_cons (show i+1<(lvsM ks x).length by omega),List.range'_succ,List.all_cons]
    have e:(lvsM ks x)[i+1]'(by omega)=endsM ks x (i+1):=by
      unfold lvsM
      simp
    rw [e]
    unfold stayM
    rw [←seg_next level i (by omega)]
    rw [show i+1+1=i+1+1 from rfl,ih]
theorem stay_is (level:Nat) (hl:as.length=x.length):stayM level 0 as (lvsM ks x)=(List.range x.length).all fun j=>decide ((segS as ks x level j).natAbs<10 ^ 16):=by
  cases n:x.length with
  | zero=>
    rw [n] at hl
    rw [List.length_eq_zero_iff.mp hl]
    rfl
  | succ m=>
    have l1:(lvsM ks x).length=x.length:=by unfold lvsM; rw [List.length_map,List.length_range]
    have ih:=stay_from (ks:=ks) (x:=x) level hl m 0 (by omega)
    cases as with
    | nil=>simp at hl; omega
    | cons a r=>
      cases q:lvsM ks x with
      | nil=>rw [q] at l1; simp at l1; omega
      | cons e es=>
        rw [q] at ih
        have e0:segS (a::r) ks x level 0=a:=by
          unfold segS
          show (List.drop 0 [a]).sum=a
          simp
        rw [List.range_succ_eq_map,List.all_cons,e0]
        unfold stayM
        have z:(if level≤e then (0:Int) else 0)+a=a:=by split <;> omega
        rw [z]
        congr 1
        rw [e0] at ih
        have ih:stayM level a r es=_:=ih
        rw [ih,List.all_map,List.range'_eq_map_range,List.all_map]
        congr 1
        funext j
        show decide ((segS (a::r) ks x level (0+1+j)).natAbs<10 ^ 16)=decide ((segS (a::r) ks x level (j+1)).natAbs<10 ^ 16)
        rw [show 0+1+j=j+1 by omega]
theorem seg_over (h:x.map (amtM t)=as.map some) (i j:Nat):overM t ((x.take (j+1)).drop i)=some ((as.take (j+1)).drop i).sum:=by
  apply over_some
  rw [List.map_drop,List.map_take,h,List.map_drop,List.map_take]
end
def okO:Option Int→Bool
  | some v=>fits16 v
  | none=>false
def fitT (ks:List Pt) (x:Deck) (t:Pt):Prop:=∀ i,i<x.length→∀ l,1≤l→l≤ks.length+1→okO (overM t ((x.take (i+1)).drop (beginM (endsM ks x) ks.length l i)))=true
theorem met_all (ps:List Pt) (hk:(ksOf ps).length≤3) (x:Deck):(reportOf (ps.map rl)).met x=true↔∀ t∈tsOf ps,fitT (ksOf ps) x t:=by
  unfold Report.met Report.levels
  rw [ks_is,ts_is,List.length_map]
  simp only [List.all_eq_true,List.mem_range,List.mem_append,List.mem_map,List.mem_singleton]
  have tr:∀ (t:Pt) (i l:Nat),isT t=true→((match (toT t).over x ((reportOf (ps.map rl)).begin_ x l i) i with
      | some v=>fits16 v
      | none=>false)=true↔okO (overM t ((x.take (i+1)).drop (beginM (endsM (ksOf ps) x) (ksOf ps).length l i)))=true):=fun t i l ht=>by
    rw [over_is t ht,begin_is ps hk]
    cases overM t ((x.take (i+1)).drop (beginM (endsM (ksOf ps) x) (ksOf ps).length l i)) <;> exact Iff.rfl
  constructor
  · intro h t ht i hi l h1 h2
    have hT:isT t=true:=(List.mem_filter.mp ht).2
    by_cases c:l≤(ksOf ps).length
    · exact (tr t i l hT).mp (h i hi l (.inl ⟨l-1,by omega,by omega⟩) (toT t) ⟨t,ht,rfl⟩)
    · have:=(tr t i 4 hT).mp (h i hi 4 (.inr rfl) (toT t) ⟨t,ht,rfl⟩)
      rw [begin_top (by omega)] at this ⊢
      exact this
  · rintro h i hi l hl t ⟨t,ht,rfl⟩
    have hT:isT t=true:=(List.mem_filter.mp ht).2
    refine (tr t i l hT).mpr ?_
    rcases hl with ⟨a,ha,rfl⟩ | rfl
    · exact h t ht i hi (a+1) (by omega) (by omega)
    · have:=h t ht i hi ((ksOf ps).length+1) (by omega) (by omega)
      rw [begin_top (by omega)] at this ⊢
      exact this
theorem all_some {f:Card→Option Int}:∀ (x:Deck),(x.all fun y=>(f y).isSome)=true→x.map f=(x.filterMap f).map some
  | [],_=>rfl
  | y::x,h=>by
    rw [List.all_cons,Bool.and_eq_true] at h
    obtain ⟨v,hv⟩:=Option.isSome_iff_exists.mp h.1
    rw [List.map_cons,List.filterMap_cons,hv,all_some x h.2]
    rfl
theorem fit_is (ks:List Pt) (x:Deck) (t:Pt) (hx:x.length≤1000):fitT ks x t↔(decide (t.1=5) || summedM ks x t)=true:=by
  by_cases t5:t.1=5
  · rw [decide_eq_true t5,Bool.true_or]
    refine ⟨fun _=>rfl,fun _ i hi l _ _=>?_⟩
    have a1:amtM t=fun _=>some 1:=by
      funext y
      unfold amtM
      rw [if_pos t5]
    have:=over_some t ((x.take (i+1)).drop (beginM (endsM ks x) ks.length l i)) (List.replicate ((x.take (i+1)).drop (beginM (endsM ks x) ks.length l i)).length 1) (by
      rw [a1,List.map_const',List.map_replicate])
    rw [this]
    show decide _=true
    have s1:∀ n,(List.replicate n (1:Int)).sum=n:=by
      intro n
      induction n with
      | zero=>rfl
      | succ n ih=>rw [List.replicate_succ,List.sum_cons,ih]; omega
    rw [s1,List.length_drop,List.length_take]
    unfold LIMIT
    exact decide_eq_true (by omega)
  · rw [decide_eq_false t5,Bool.false_or]
    unfold summedM
    rw [Bool.and_eq_true]
    by_cases al:(x.all fun y=>(amtM t y).isSome)=true
    · have hm:=all_some x al
      have hl:(x.filterMap (amtM t)).length=x.length:=by
        have:=congrArg List.length hm
        rw [List.length_map,List.length_map] at this
        exact this.symm
      have ok:∀ l i,okO (overM t ((x.take (i+1)).drop (beginM (endsM ks x) ks.length l i)))=decide ((segS (x.filterMap (amtM t)) ks x l i).natAbs<10 ^ 16):=fun l i=>by
        rw [seg_over hm]
        rfl
      simp only [al,true_and,List.all_eq_true,List.mem_range,stay_is _ hl]
      constructor
      · intro h l hl2 i hi
        have:=h i hi (l+1) (by omega) (by omega)
        rw [ok] at this
        exact this
      · intro h i hi l h1 h2
        rw [ok]
        have:=h (l-1) (by omega) i hi
        rw [show l-1+1=l by omega] at this
        exact this
    · refine ⟨fun h=>?_,fun h=>absurd h.1 al⟩
      exfalso
      apply al
      rw [List.all_eq_true]
      intro y hy
      obtain ⟨i,hi,e⟩:=List.mem_iff_getElem.mp hy
      have:=h i hi 1 (by omega) (by omega)
      cases q:amtM t y with
      | some v=>rfl
      | none=>
        rw [over_none t (y:=y) ?_ q] at this
        · cases this
        · have b:=begin_le (endsM ks x) ks.length 1 i
          have e2:x.take (i+1)=x.take i++[x[i]]:=by
            rw [List.take_add_one,List.getElem?_eq_getElem hi]
            rfl
          rw [e2,List.drop_append_of_le_length (by rw [List.length_take]; omega),←e]
          simp
theorem met_is (ps:List Pt) (hk:(ksOf ps).length≤3) (x:Deck) (hx:x.length≤1000):(reportOf (ps.map rl)).met x=metM ps x:=by
  apply Bool.eq_iff_iff.mpr
  rw [met_all ps hk]
  unfold metM
  rw [List.all_eq_true]
  exact ⟨fun h t ht=>(fit_is _ x t hx).mp (h t ht),fun h t ht=>(fit_is _ x t hx).mpr (h t ht)⟩
def onI (b:List Int) (i:Nat) (t:List Int):List Int:=b.take i++(t++b.drop (i+t.length))
def blankI:List Int:=List.replicate 132 32
def signM (lg:List Int) (s:Int) (h:Nat):Int:=match coded h with
  | some k=>lg.getD k 0
  | none=>s
def showM (lg:List Int) (s:Int) (y:Card) (k:Pt):List Int:=(fieldOf y (n0 k) (n1 k)).map (signM lg s)
def numI (v:Int) (w:Nat):List Int:=bI (inPlaces v w)
def fieldsOn (lg:List Int) (s:Int) (y:Card) (l:List Pt) (b:List Int):List Int:=l.foldl (fun b k=>onI b (n2 k) (showM lg s y k)) b
def totI (ts:List Pt) (seg:Deck) (b:List Int):List Int:=ts.foldl (fun b t=>onI b (atT t) (numI ((overM t seg).getD 0) (wT t))) b
def totalI (ps:List Pt) (lg:List Int) (s:Int) (level:Nat) (seg:Deck):List Int:=totI (tsOf ps) seg (fieldsOn lg s (seg.getLastD []) ((ksOf ps).take ((ksOf ps).length+1-level)) blankI)
def cardI (ps:List Pt) (lg:List Int) (s:Int) (y:Card):List Int:=fieldsOn lg s y (ssOf ps) blankI
def groupI (ps:List Pt) (lg:List Int) (s:Int) (x:Deck) (most i:Nat):List (List Int):=(List.range most).map fun l=>totalI ps lg s (l+1) ((x.take i).drop (beginM (endsM (ksOf ps) x) (ksOf ps).length (l+1) (i-1)))
def hasI (k:Nat) (i e:Nat):Bool:=if k=8 then decide (i=0) || decide (0<e) else decide (k=7)
def atLines (ps:List Pt) (lg:List Int) (s:Int) (x:Deck) (i:Nat):List (List Int):=groupI ps lg s x (endsM (ksOf ps) x i) i++if hasI (lastK ps) i (endsM (ksOf ps) x i)=true then [cardI ps lg s (x.getD i [])] else []
def linesI (ps:List Pt) (lg:List Int) (s:Int) (x:Deck):List (List Int):=(List.range x.length).flatMap (atLines ps lg s x)++((if x.length=0 then [] else groupI ps lg s x (ksOf ps).length x.length)++if (tsOf ps).length=0 then [] else [totI (tsOf ps) x blankI])
def paperM (b:Bytes) (s:Int) (lg ds:List Int):List Int:=if refM b=[] then (if legM lg=true∧0≤s∧s≤255 then (match rdDeck ds.length ds with
  | none=>[-8]
  | some d=>if metM (psOf b) (ordM (psOf b) d)=true then ((linesI (psOf b) lg s (ordM (psOf b) d)).length:Int)::(linesI (psOf b) lg s (ordM (psOf b) d)).flatten else [-5]) else [-2]) else refM b
section
variable {lg:List Int}{s:Int}
theorem u8_of {n:Int}(h:0≤n∧n≤255):(((UInt8.ofNat n.toNat).toNat:Nat):Int)=n:=by
  rw [UInt8.toNat_ofNat']
  omega
theorem coded_lt {h k:Nat}(e:coded h=some k):k<64:=List.mem_range.mp (List.mem_of_find?_eq_some e)
theorem show_is (hl:∀ n∈lg,0≤n∧n≤255) (h64:lg.length=64) (hs:0≤s∧s≤255) (y:Card) (c n:Nat):bI (textOf y c n (ReportsNeutral.text lg) (UInt8.ofNat s.toNat))=(fieldOf y c n).map (signM lg s):=by
  unfold bI textOf
  rw [List.map_map]
  apply List.map_congr_left
  intro h _
  unfold signM
  show (((match coded h with
    | some k=>(ReportsNeutral.text lg).getD k 0
    | none=>UInt8.ofNat s.toNat).toNat:Nat):Int)=_
  cases q:coded h with
  | none=>exact u8_of hs
  | some k=>
    have hk:k<lg.length:=by rw [h64]; exact coded_lt q
    show (((ReportsNeutral.text lg).getD k 0).toNat:Int)=lg.getD k 0
    rw [text_getD lg k hk,u8_of (hl _ (List.getElem_mem hk)),List.getD_eq_getElem?_getD,List.getElem?_eq_getElem hk]
    rfl
theorem on_is (b t:Bytes) (i:Nat):bI (onLine b i t)=onI (bI b) i (bI t):=by
  unfold bI onLine onI
  rw [List.map_append,List.map_append,List.map_take,List.map_drop,List.length_map]
theorem bI_blank:bI blanks=blankI:=by
  unfold bI blanks blankI PLACES
  rw [List.map_replicate]
  rfl
theorem fold_bI {α:Type}(f:Bytes→α→Bytes) (g:List Int→α→List Int):∀ (l:List α) (b:Bytes),(∀ b,∀ a∈l,bI (f b a)=g (bI b) a)→bI (l.foldl f b)=l.foldl g (bI b)
  | [],_,_=>rfl
  | a::l,b,h=>by
    rw [List.foldl_cons,List.foldl_cons,fold_bI f g l _ fun b x hx=>h b x (by simp [hx]),h b a (by simp)]
theorem toT_at {t:Pt}(h:isT t=true):(toT t).at_=atT t∧(toT t).w=wT t:=by
  have n:=is_num.2.2.1.mp h
  unfold toT atT wT
  rcases n with e | e
  · rw [if_pos e,if_neg (by omega),if_neg (by omega)]
    exact ⟨rfl,rfl⟩
  · rw [if_neg (by omega),if_pos e,if_pos e]
    exact ⟨rfl,rfl⟩
theorem totals_is (ps:List Pt) (x:Deck) (i j:Nat) (b:Bytes):bI ((reportOf (ps.map rl)).totalsOn x i j b)=totI (tsOf ps) ((x.take (j+1)).drop i) (bI b):=by
  unfold Report.totalsOn totI
  rw [ts_is,List.foldl_map]
  refine fold_bI _ _ _ _ fun b t ht=>?_
  have hT:isT t=true:=(List.mem_filter.mp ht).2
  rw [on_is,over_is t hT,(toT_at hT).1,(toT_at hT).2]
  rfl
theorem keys_on (hl:∀ n∈lg,0≤n∧n≤255) (h64:lg.length=64) (hs:0≤s∧s≤255) (y:Card) (l:List Pt) (b:Bytes) :
    bI ((l.map toK).foldl (fun (b:Bytes) (k:KeyBy)=>onLine b k.at_ ((⟨ReportsNeutral.text lg,UInt8.ofNat s.toNat⟩:Style).field y k.c k.n)) b)=fieldsOn lg s y l (bI b):=by
  unfold fieldsOn
  rw [List.foldl_map]
  refine fold_bI _ _ _ _ fun b k _=>?_
  rw [on_is]
  unfold Style.field showM
  rw [show_is hl h64 hs]
  rfl
theorem seens_on (hl:∀ n∈lg,0≤n∧n≤255) (h64:lg.length=64) (hs:0≤s∧s≤255) (y:Card) (ps:List Pt):bI ((reportOf (ps.map rl)).cardLine ⟨ReportsNeutral.text lg,UInt8.ofNat s.toNat⟩ y)=cardI ps lg s y:=by
  unfold Report.cardLine cardI fieldsOn
  rw [ss_is,List.foldl_map,←bI_blank]
  refine fold_bI _ _ _ _ fun b k _=>?_
  rw [on_is]
  unfold Style.field showM
  rw [show_is hl h64 hs]
  rfl
theorem total_is (hl:∀ n∈lg,0≤n∧n≤255) (h64:lg.length=64) (hs:0≤s∧s≤255) (ps:List Pt) (hk:(ksOf ps).length≤3) (x:Deck) (level i:Nat) (hi:i<x.length) :
    bI ((reportOf (ps.map rl)).totalLine ⟨ReportsNeutral.text lg,UInt8.ofNat s.toNat⟩ x level i)=totalI ps lg s level ((x.take (i+1)).drop (beginM (endsM (ksOf ps) x) (ksOf ps).length level i)):=by
  unfold Report.totalLine totalI Report.above
  rw [totals_is,begin_is ps hk,ks_is,List.length_map,←List.map_take,keys_on hl h64 hs,bI_blank]
  congr 2
  have b:=begin_le (endsM (ksOf ps) x) (ksOf ps).length level i
  have e2:x.take (i+1)=x.take i++[x[i]]:=by
    rw [List.take_add_one,List.getElem?_eq_getElem hi]
    rfl
  rw [e2,List.drop_append_of_le_length (by rw [List.length_take]; omega),List.getLastD_concat,List.getD_eq_getElem?_getD,List.getElem?_eq_getElem hi]
  rfl
theorem lines_is (hl:∀ n∈lg,0≤n∧n≤255) (h64:lg.length=64) (hs:0≤s∧s≤255) (ps:List Pt) (hk:(ksOf ps).length≤3) (h7:7≤lastK ps) (hli:(reportOf (ps.map rl)).list=listM (lastK ps)) (x:Deck) :
    ((reportOf (ps.map rl)).linesOf ⟨ReportsNeutral.text lg,UInt8.ofNat s.toNat⟩ x).map bI=linesI ps lg s x:=by
  have grp:∀ most i,0<i→i≤x.length→(List.range most).map (bI ∘ fun (l:Nat)=>(reportOf (ps.map rl)).totalLine ⟨ReportsNeutral.text lg,UInt8.ofNat s.toNat⟩ x (l+1) (i-1))=groupI ps lg s x most i:=fun most i h0 hi=>by
    unfold groupI
    apply List.map_congr_left
    intro l _
    show bI _=_
    rw [total_is hl h64 hs ps hk x (l+1) (i-1) (by omega),show i-1+1=i by omega]
  unfold Report.linesOf linesI
  rw [List.map_append,List.map_append]
  congr 1
  · rw [List.map_flatMap]
    unfold List.flatMap
    congr 1
    apply List.map_congr_left
    intro i hi
    have hi:=List.mem_range.mp hi
    unfold Report.linesAt atLines
    rw [ends_is ps hk,List.map_append,List.map_map]
    congr 1
    · by_cases h0:i=0
      · subst h0
        rfl
      · exact grp _ i (by omega) (by omega)
    · have c:((reportOf (ps.map rl)).list=1∨(reportOf (ps.map rl)).list=2∧(i=0∨1≤endsM (ksOf ps) x i))↔hasI (lastK ps) i (endsM (ksOf ps) x i)=true:=by
        rw [hli]
        unfold hasI listM
        by_cases c7:lastK ps=7
        · rw [c7]
          simp
        · by_cases c8:lastK ps=8
          · rw [c8]
            simp
            omega
          · rw [if_neg c8]
            simp [c7,c8]
      by_cases q:hasI (lastK ps) i (endsM (ksOf ps) x i)=true
      · rw [if_pos q,if_pos (c.mpr q),List.map_cons,seens_on hl h64 hs]
        rfl
      · rw [if_neg q,if_neg fun z=>q (c.mp z)]
        rfl
  · congr 1
    · by_cases h0:x.length=0
      · rw [if_pos h0,if_pos h0]
        rfl
      · rw [if_neg h0,if_neg h0,ks_is,List.length_map,List.map_map]
        exact grp _ x.length (by omega) (Nat.le_refl _)
    · rw [ts_is,List.length_map]
      by_cases h0:(tsOf ps).length=0
      · rw [if_pos h0,if_pos h0]
        rfl
      · rw [if_neg h0,if_neg h0,List.map_cons,totals_is,bI_blank,List.drop_zero,List.take_of_length_le (by omega)]
        rfl
end
theorem paper_is (b:Bytes) (ns lg ds:List Int) (s:Int) (e:ReportsNeutral.text ns=b) (hl:∀ n∈lg,0≤n∧n≤255) (hd:ds.length≤1000):PyWrpung.paper s ns lg ds=paperM b s lg ds:=by
  show ReportsNeutral.told (Reports.onReport (ReportsNeutral.text ns) _)=_
  rw [e,on_report]
  unfold paperM
  by_cases h:refM b=[]
  · rw [if_pos h,if_pos h]
    unfold Reports.styleOf
    rw [leg_is lg hl]
    by_cases c:legM lg=true∧0≤s∧s≤255
    · rw [if_pos c,if_pos c,deck_is ds hd]
      cases q:rdDeck ds.length ds with
      | none=>rfl
      | some d=>
        obtain ⟨ini,x,hp,h7,h10,hi⟩:=last_is h
        have hk:=(lens h).2.1
        have h80:∀ x∈d,x.length=80:=fun x hx=>(deck_ok _ _ _ q x hx).1
        have dl:=deck_len _ _ _ q
        have lo:(ordM (psOf b) d).length≤1000:=by
          unfold ordM
          rw [isort_length]
          exact Nat.le_trans (List.length_filter_le _ _) (by omega)
        have lk:lastK (psOf b)=x.1:=by
          unfold lastK
          rw [hp,List.getLast?_concat]
          rfl
        have e1:(reportOf ((psOf b).map rl)).list=listM (lastK (psOf b)):=by rw [lk,hp,list_is h7 hi]
        have h64:lg.length=64:=by
          have:=c.1
          unfold legM at this
          rw [Bool.and_eq_true,decide_eq_true_eq] at this
          exact this.1
        show ReportsNeutral.told (match (repOf b).meaning ⟨ReportsNeutral.text lg,UInt8.ofNat s.toNat⟩ d with
          | none=>Reports.num (-5)
          | some p=>Reports.nums (p.length:Nat) (Reports.bytesOf p.flatten))=if _ then _ else _
        unfold Report.meaning repOf
        rw [ordM_is _ _ h80]
        dsimp only
        rw [met_is _ hk _ lo]
        by_cases m:metM (psOf b) (ordM (psOf b) d)=true
        · rw [if_pos m,if_pos m]
          have li:=lines_is hl h64 c.2 (psOf b) hk (by omega) e1 (ordM (psOf b) d)
          rw [←li]
          show ((_:Nat):Int)::bI (List.flatten _)=_
          rw [List.length_map]
          congr 1
          unfold bI
          rw [List.map_flatten]
        · rw [if_neg m,if_neg m]
          rfl
    · rw [if_neg c,if_neg c]
      rfl
  · rw [if_neg h,if_neg h]
def fvL:List Nat→Int→Bool→Option Int
  | [],v,_=>some v
  | h::r,v,b=>match figureOf h with
    | some d=>fvL r (v * 10+(d:Int)) true
    | none=>if (b || decide (h≠0))=true then none else fvL r v b
def fvM (ini:List Nat) (g:Nat):Option Int:=(fvL ini 0 false).bind fun v=>(figureOf g).map fun d=>v * 10+(d:Int)
def amtL (ini:List Nat) (h:Nat):Option Int:=if h.testBit 1=true then (match fvM ini (h-2) with
  | none=>none
  | some v=>if v=0 then none else some (-v)) else fvM ini h
theorem fig0:figureOf 0=none:=by decide +kernel
def tenI (l:List Nat) (v:Int):Int:=l.foldl (fun (n:Int) (d:Nat)=>n * 10+(d:Int)) v
theorem tenI_is (l:List Nat) (v:Nat):tenI l (v:Int)=((l.foldl (fun n d=>10 * n+d) v:Nat):Int):=by
  induction l generalizing v with
  | nil=>rfl
  | cons d l ih=>
    have e:(v:Int) * 10+(d:Int)=((10 * v+d:Nat):Int):=by omega
    show tenI l ((v:Int) * 10+(d:Int))=_
    rw [e,ih]
    rfl
theorem fv_begun:∀ (l:List Nat) (v:Int),fvL l v true=if ((l.map figureOf).all fun y=>y.isSome)=true then some (tenI ((l.map figureOf).filterMap fun y=>y) v) else none
  | [],_=>rfl
  | h::r,v=>by
    unfold fvL
    cases q:figureOf h with
    | none=>
      rw [List.map_cons,List.all_cons,q]
      rfl
    | some d=>
      show fvL r (v * 10+(d:Int)) true=_
      rw [fv_begun r,List.map_cons,List.all_cons,q,List.filterMap_cons]
      rfl
theorem fv_is:∀ (l:List Nat),fvL l 0 false=if (((behindBlanks l).map figureOf).all fun y=>y.isSome)=true then some (tenI (((behindBlanks l).map figureOf).filterMap fun y=>y) 0) else none
  | []=>rfl
  | h::r=>by
    unfold fvL
    by_cases h0:h=0
    · subst h0
      rw [fig0]
      show (if (false || decide (0≠0))=true then none else fvL r 0 false)=_
      rw [if_neg (by simp),fv_is r]
      rfl
    · have e:behindBlanks (h::r)=h::r:=by
        unfold behindBlanks
        rw [List.dropWhile_cons,if_neg (by simpa using h0)]
      rw [e]
      cases q:figureOf h with
      | none=>
        show (if (false || decide (h≠0))=true then none else fvL r 0 false)=_
        rw [if_pos (by simpa using h0),List.map_cons,List.all_cons,q]
        rfl
      | some d=>
        show fvL r (0 * 10+(d:Int)) true=_
        rw [fv_begun r,List.map_cons,List.all_cons,q,List.filterMap_cons]
        rfl
theorem amt_is (ini:List Nat) (h:Nat):amountOf (ini++[h])=amtL ini h:=by
  have hb:behindBlanks (ini++[h])=if behindBlanks ini=[]∧h=0 then [] else behindBlanks ini++[h]:=by
    unfold behindBlanks
    rw [List.dropWhile_append]
    cases q:ini.dropWhile fun h=>h==0 with
    | nil=>
      by_cases h0:h=0
      · subst h0
        simp
      · simp [h0]
    | cons a l=>simp
  have key:∀ g:Nat,fvM ini g=if (((behindBlanks ini++[g]).map figureOf).all fun y=>y.isSome)=true then some ((ten (((behindBlanks ini++[g]).map figureOf).filterMap fun y=>y):Nat):Int) else none:=fun g=>by
    unfold fvM
    rw [fv_is,List.map_append,List.all_append,List.filterMap_append]
    cases q:((behindBlanks ini).map figureOf).all fun y=>y.isSome with
    | false=>
      rw [Bool.false_and]
      rfl
    | true=>
      rw [Bool.true_and,if_pos rfl]
      cases f:figureOf g with
      | none=>
        show none=if (([g].map figureOf).all fun y=>y.isSome)=true then _ else none
        rw [List.map_cons,List.all_cons,f]
        rfl
      | some d=>
        show some (tenI _ 0 * 10+(d:Int))=if (([g].map figureOf).all fun y=>y.isSome)=true then _ else none
        rw [List.map_cons,List.all_cons,f]
        show some _=some _
        congr 1
        have:=tenI_is (((behindBlanks ini).map figureOf).filterMap fun y=>y) 0
        have this:tenI (((behindBlanks ini).map figureOf).filterMap fun y=>y) 0=_:=this
        rw [this]
        unfold ten
        rw [List.foldl_append]
        show _=((10 * _+d:Nat):Int)
        omega
  unfold amountOf amtL
  rw [hb]
  by_cases c:behindBlanks ini=[]∧h=0
  · rw [if_pos c]
    obtain ⟨c1,rfl⟩:=c
    rw [if_neg (by decide),key,c1]
    rfl
  · rw [if_neg c]
    dsimp only
    rw [List.getLast?_concat,List.dropLast_concat]
    dsimp only
    by_cases m:h.testBit 1=true
    · rw [if_pos m,if_pos m,if_pos m,key]
      split
      · rename_i a
        split
        · rename_i n0
          rw [n0]
          rfl
        · rename_i n0
          show some (-_)=if _ then none else some (-_)
          rw [if_neg (by omega)]
      · rfl
    · rw [if_neg m,if_neg m,if_neg m,key]
end JM
end
section
namespace JS
open PySem PyProof.Rows
inductive Pg (α:Type):Type where
  | ret (a:α)
  | cmp (x y:Value) (k:Except Value Bool→Pg α)
  | say (n:String) (k:Pg α)
  | stop (n:String)
def Pg.bnd {α β:Type}:Pg α→(α→Pg β)→Pg β
  | .ret a,f=>f a
  | .cmp x y k,f=>.cmp x y fun r=>(k r).bnd f
  | .say n k,f=>.say n (k.bnd f)
  | .stop n,_=>.stop n
noncomputable def play {α:Type} (kd:SortKind):Pg α→Sem α
  | .ret a=>pure a
  | .cmp x y k=>(keyLt' kd x y).attempt >>= fun r=>play kd (k r)
  | .say n k=>rule n >>= fun _=>play kd k
  | .stop n=>unsupported n
theorem play_bnd {α β:Type}(kd:SortKind) (f:α→Pg β):∀ t:Pg α,play kd (t.bnd f)=play kd t >>= fun a=>play kd (f a)
  | .ret a=>by simp [Pg.bnd,play]
  | .cmp x y k=>by
    simp only [Pg.bnd,play,bind_assoc]
    congr 1; funext r
    exact play_bnd kd f (k r)
  | .say n k=>by
    simp only [Pg.bnd,play,bind_assoc]
    congr 1; funext r
    exact play_bnd kd f k
  | .stop n=>rfl
abbrev sk (kd:SortKind) (st:SortSt):SortSt:=SortSt.mk' kd (arrOf st) (pendingOf st) (gallopOf st) (failedOf st)
def G {α:Type}(F:SortKind→StateT SortSt Sem α):Prop:=
  ∃ P:SortSt→Pg (α×SortSt),∀ kd st,(F kd).run (sk kd st)=play kd (P st) >>= fun r=>pure (r.1,sk kd r.2)
theorem g_pure {α:Type}{a:α}:G fun _=>(pure a:StateT SortSt Sem α):=
  ⟨fun st=>.ret (a,st),fun kd st=>by simp [play]⟩
theorem g_bind {α β:Type}{m:SortKind→StateT SortSt Sem α}{f:SortKind→α→StateT SortSt Sem β}(h:G m) (k:∀ a,G fun kd=>f kd a):G fun kd=>m kd >>= f kd:=by
  obtain ⟨P,hP⟩:=h
  have ⟨R,hR⟩:∃ R:α→SortSt→Pg (β×SortSt),∀ a kd st,(f kd a).run (sk kd st)=play kd (R a st) >>= fun r=>pure (r.1,sk kd r.2):=
    ⟨fun a=>(k a).choose,fun a=>(k a).choose_spec⟩
  refine ⟨fun st=>(P st).bnd fun r=>R r.1 r.2,fun kd st=>?_⟩
  rw [StateT.run_bind,hP,play_bnd]
  simp only [bind_assoc,pure_bind]
  congr 1; funext r
  exact hR r.1 kd r.2
theorem g_get {β:Type}{f:SortKind→SortSt→StateT SortSt Sem β}(k:∀ st,G fun kd=>f kd (sk kd st)):G fun kd=>get >>= f kd:=by
  have ⟨R,hR⟩:∃ R:SortSt→SortSt→Pg (β×SortSt),∀ s0 kd st,(f kd (sk kd s0)).run (sk kd st)=play kd (R s0 st) >>= fun r=>pure (r.1,sk kd r.2):=
    ⟨fun a=>(k a).choose,fun a=>(k a).choose_spec⟩
  refine ⟨fun st=>R st st,fun kd st=>?_⟩
  rw [StateT.run_bind,StateT.run_get,pure_bind]
  exact hR st kd st
theorem g_getc {β:Type}{f:SortSt→StateT SortSt Sem β}(h:∀ kd st,f (sk kd st)=f st) (k:∀ st,G fun _=>f st):G fun _=>get >>= f:=
  g_get (f:=fun _=>f) fun st=>by simp only [h]; exact k st
theorem g_set {g:SortKind→SortSt}{x:SortSt}(h:∀ kd,g kd=sk kd x):G fun kd=>(set (g kd):StateT SortSt Sem PUnit):=
  ⟨fun _=>.ret (⟨⟩,x),fun kd st=>by
    show (set (g kd):StateT SortSt Sem PUnit).run (sk kd st)=_
    rw [h]; rfl⟩
theorem g_mod {f:SortSt→SortSt}(h:∀ kd st,f (sk kd st)=sk kd (f st)):G fun _=>(modify f:StateT SortSt Sem PUnit):=
  ⟨fun st=>.ret (⟨⟩,f st),fun kd st=>by
    show (modify f:StateT SortSt Sem PUnit).run (sk kd st)=_
    rw [StateT.run_modify,h]; rfl⟩
theorem g_say {n:String}:G fun _=>(liftM (rule n):StateT SortSt Sem Unit):=
  ⟨fun st=>.say n (.ret ((),st)),fun kd st=>by
    show (StateT.lift (rule n)).run (sk kd st)=_
    rw [StateT.run_lift]; simp [play]⟩
theorem g_stop {α:Type}{n:String}:G fun _=>(liftM (unsupported n:Sem α):StateT SortSt Sem α):=
  ⟨fun st=>.stop n,fun kd st=>by
    show (StateT.lift (unsupported n:Sem α)).run (sk kd st)=_
    rw [StateT.run_lift]; rfl⟩
theorem g_lt {x y:Keyed}:G fun _=>lt' x y:=by
  refine ⟨fun st=>.cmp x.1 y.1 fun r=>match r with
    | .ok b=>.ret (some b,st)
    | .error e=>.ret (none,SortSt.mk' (kindOf st) (arrOf st) (pendingOf st) (gallopOf st) (some e)),fun kd st=>?_⟩
  rw [lt'_eq]
  rw [StateT.run_bind,StateT.run_get,pure_bind]
  show ((liftM (keyLt' kd x.1 y.1).attempt:StateT SortSt Sem _) >>= _).run (sk kd st)=_
  rw [StateT.run_bind]
  show (StateT.lift (keyLt' kd x.1 y.1).attempt).run (sk kd st) >>= _=_
  rw [StateT.run_lift]
  simp only [play,bind_assoc,pure_bind]
  congr 1; funext r
  cases r with
  | ok b=>rfl
  | error e=>rfl
theorem g_list {β γ:Type}{f:SortKind→γ→β→StateT SortSt Sem (ForInStep β)}(h:∀ x b,G fun kd=>f kd x b):∀ (l:List γ) (b:β),G fun kd=>forIn l b (f kd)
  | [],b=>by simp only [List.forIn_nil]; exact g_pure
  | x::l,b=>by
    simp only [List.forIn_cons]
    refine g_bind (h x b) fun r=>?_
    cases r with
    | done c=>exact g_pure
    | yield c=>exact g_list h l c
theorem g_for {β:Type}{a b:Nat}{c:β}{f:SortKind→Nat→β→StateT SortSt Sem (ForInStep β)}(h:∀ x c,G fun kd=>f kd x c):G fun kd=>forIn [a:b] c (f kd):=by
  simp only [Std.Legacy.Range.forIn_eq_forIn_range']
  exact g_list h _ _
theorem g_ite {α:Type}{c:Prop}{i:SortKind→Decidable c}{m n:SortKind→StateT SortSt Sem α}(h1:G m) (h2:G n):G fun kd=>@ite _ c (i kd) (m kd) (n kd):=by
  by_cases h:c
  · have e:(fun kd=>@ite _ c (i kd) (m kd) (n kd))=m:=by funext kd; exact @if_pos c (i kd) h _ _ _
    rw [e]; exact h1
  · have e:(fun kd=>@ite _ c (i kd) (m kd) (n kd))=n:=by funext kd; exact @if_neg c (i kd) h _ _ _
    rw [e]; exact h2
theorem g_elem {arr:Array Keyed}{i:Nat}:G fun _=>elem' arr i:=by
  rw [elem'_eq]
  cases arr[i]? with
  | some p=>exact g_pure
  | none=>exact g_stop
theorem g_ltAt {i j:Nat}:G fun _=>ltAt' i j:=by
  rw [ltAt'_eq]
  refine g_get fun st=>?_
  exact g_bind g_elem fun x=>g_bind g_elem fun y=>g_lt
theorem g_rev {i j:Nat}:G fun _=>reverseSlice' i j:=by
  rw [reverseSlice'_eq]; exact g_mod fun _ _=>rfl
theorem g_move {i j:Nat}:G fun _=>moveDown' i j:=by
  rw [moveDown'_eq]; exact g_mod fun _ _=>rfl
theorem g_gal {g:Nat}:G fun _=>setMinGallop' g:=by
  rw [setMinGallop'_eq]; exact g_mod fun _ _=>rfl
theorem g_count {lo n:Nat}:G fun _=>countRun' lo n:=by
  rw [countRun'_eq]
  repeat' first
    | exact g_pure | exact g_ltAt | exact g_rev | exact g_say | exact g_stop
    | (refine g_bind ?_ fun _=>?_) | (refine g_for fun _ _=>?_) | (split) | (dsimp only)
theorem g_bin {lo n ok:Nat}:G fun _=>binarySort' lo n ok:=by
  rw [binarySort'_eq]
  repeat' first
    | exact g_pure | exact g_ltAt | exact g_move | exact g_say | exact g_stop
    | (refine g_bind ?_ fun _=>?_) | (refine g_for fun _ _=>?_) | (split) | (dsimp only)
theorem g_gallop {left:Bool}{key:Keyed}{arr:Array Keyed}{base n hint:Nat}:G fun _=>gallop' left key arr base n hint:=by
  rw [gallop'_eq]
  repeat' first
    | exact g_pure | exact g_elem | exact g_lt | exact g_say | exact g_stop
    | (refine g_bind ?_ fun _=>?_) | (refine g_for fun _ _=>?_) | (split) | (dsimp only)
theorem g_lo {a b:Array Keyed}:G fun _=>mergeLo' a b:=by
  rw [mergeLo'_eq]
  repeat' first
    | with_reducible exact g_pure | with_reducible exact g_elem | with_reducible exact g_lt | with_reducible exact g_say | with_reducible exact g_stop | with_reducible exact g_gal | with_reducible exact g_gallop
    | (with_reducible refine g_get fun st1=>?_; dsimp only [sk,pendingOf,arrOf,SortSt.mk',setPending,gallopOf,failedOf,kindOf]) | (with_reducible refine g_bind ?_ fun _=>?_) | (with_reducible refine g_for fun _ _=>?_) | (with_reducible refine g_ite ?_ ?_) | (split) | (dsimp only)
theorem g_hi {a b:Array Keyed}:G fun _=>mergeHi' a b:=by
  rw [mergeHi'_eq]
  repeat' first
    | with_reducible exact g_pure | with_reducible exact g_elem | with_reducible exact g_lt | with_reducible exact g_say | with_reducible exact g_stop | with_reducible exact g_gal | with_reducible exact g_gallop
    | (with_reducible refine g_get fun st1=>?_; dsimp only [sk,pendingOf,arrOf,SortSt.mk',setPending,gallopOf,failedOf,kindOf]) | (with_reducible refine g_bind ?_ fun _=>?_) | (with_reducible refine g_for fun _ _=>?_) | (with_reducible refine g_ite ?_ ?_) | (split) | (dsimp only)
theorem g_at {i:Nat}:G fun _=>mergeAt' i:=by
  rw [mergeAt'_eq]
  refine g_get fun st=>?_
  dsimp only [sk,pendingOf,arrOf,SortSt.mk',setPending,gallopOf,failedOf,kindOf]
  rcases h1:(pendingOf st)[i]? with _ | ⟨sa,na,pw⟩
  · simp only [h1]; exact g_stop
  rcases h2:(pendingOf st)[i+1]? with _ | ⟨sb,nb,pw2⟩
  · simp only [h1,h2]; exact g_stop
  simp only [h1,h2]
  refine g_bind ?_ fun _=>?_
  · exact g_set (x:=setPending st (((pendingOf st).setIfInBounds i (sa,na+nb,pw)).eraseIdxIfInBounds (i+1))) fun _=>rfl
  repeat' first
    | with_reducible exact g_pure | with_reducible exact g_elem | with_reducible exact g_lo | with_reducible exact g_hi | with_reducible exact g_gallop | with_reducible exact g_stop
    | ((with_reducible refine g_mod ?_); intro kd st; rfl)
    | (with_reducible refine g_get fun st1=>?_; dsimp only [sk,pendingOf,arrOf,SortSt.mk',setPending,gallopOf,failedOf,kindOf]) | (with_reducible refine g_bind ?_ fun _=>?_) | (with_reducible refine g_ite ?_ ?_) | (split) | (dsimp only)
theorem g_runs:G fun _=>sortRuns':=by
  rw [sortRuns'_eq]
  refine g_getc (fun _ _=>rfl) fun st0=>?_
  dsimp only
  refine g_bind (g_for fun i c=>?_) fun r=>?_
  · refine g_ite ?_ ?_
    · exact g_pure
    refine g_bind g_count fun x=>?_
    cases x with
    | none=>exact g_pure
    | some n=>
      dsimp only
      repeat' first
        | with_reducible exact g_pure | with_reducible exact g_bin | with_reducible exact g_at | with_reducible exact g_say | with_reducible exact g_stop
        | ((with_reducible refine g_mod ?_); intro kd st; rfl)
        | ((with_reducible refine g_getc ?h fun st1=>?_); (case h=>intro kd st; rfl)) | (with_reducible refine g_bind ?_ fun _=>?_) | (with_reducible refine g_for fun _ _=>?_) | (with_reducible refine g_ite ?_ ?_) | (split) | (dsimp only)
  · obtain ⟨o,l⟩:=r
    cases o with
    | some u=>exact g_pure
    | none=>
      dsimp only
      refine g_bind (g_for fun i c=>?_) fun r=>?_
      · refine g_getc (fun _ _=>rfl) fun st1=>?_
        refine g_ite ?_ ?_
        · exact g_pure
        refine g_bind g_at fun b=>?_
        cases b <;> exact g_pure
      · obtain ⟨o,u⟩:=r
        cases o <;> exact g_pure
abbrev kT:SortKind:=tuples' false
def TupAt (s:Shared) (a:Addr) (r:Nat):Prop:=∃ e,s.heap.get? a=some (seqObj "tuple" (Array.replicate r Value.none) e)
theorem wp_eqNone {M:Model}{Γ:Ctx}{Q:Bool→Pos→Shared→Prop}{E:Value→Pos→Shared→Prop}{p:Pos}{s:Shared} :
    Sem.wp M Γ (eqBool .none .none) Q E p s=Q true p s:=by
  unfold eqBool
  simp [Sem.wp_holding]
section
variable {M:Model}{Γ:Ctx}{E:Value→Pos→Shared→Prop}{p:Pos}{s:Shared}
theorem items_inv {Q:Array Value→Pos→Shared→Prop}{v:Value}
    (h:Sem.wp M Γ (Builtin.List.listItems v) Q E p s):∃ a o xs n,v=.ref a∧s.heap.get? a=some o∧o.data=.seq xs n∧Q xs p s:=by
  unfold Builtin.List.listItems at h
  rw [Sem.wp_bind'] at h
  cases v with
  | ref a=>
    simp only [seqItems?,Sem.wp_bind',Sem.wp_cmd_load] at h
    obtain ⟨o,ho,h⟩:=h
    cases hd:o.data with
    | seq xs n=>
      rw [hd] at h
      simp only [Sem.wp_pure'] at h
      exact ⟨a,o,xs,n,rfl,ho,hd,h⟩
    | _=>rw [hd] at h; simp at h
  | builtin id=>
    simp only [seqItems?,notAStandIn] at h
    split at h <;> simp at h
  | _=>simp [seqItems?,notAStandIn] at h
theorem items_at {Q:Array Value→Pos→Shared→Prop}{a:Addr}{o:Obj}{xs:Array Value}{n:Nat}(ho:s.heap.get? a=some o) (hd:o.data=.seq xs n) :
    Sem.wp M Γ (Builtin.List.listItems (.ref a)) Q E p s=Q xs p s:=by
  unfold Builtin.List.listItems
  simp only [seqItems?,Sem.wp_bind',Sem.wp_cmd_load,ho,Option.some.injEq,exists_eq_left',hd,Sem.wp_pure']
theorem none_loop {Q:Option Bool×Unit→Pos→Shared→Prop}{body:(Value×Value)×Nat→Option Bool×Unit→Sem (ForInStep (Option Bool×Unit))}
    (hb:∀ i (R:ForInStep (Option Bool×Unit)→Pos→Shared→Prop),Sem.wp M Γ (body ((Value.none,Value.none),i) (none,())) R E p s=R (.yield (none,())) p s) :
    ∀ (l:List (Value×Value)) (i:Nat),(∀ x∈l,x=(Value.none,Value.none))→Sem.wp M Γ (forIn (l.zipIdx i) (none,()) body) Q E p s=Q (none,()) p s
  | [],_,_=>by rw [List.zipIdx_nil,List.forIn_nil,Sem.wp_pure']
  | x::l,i,hx=>by
    have ex:=hx x (by simp)
    subst ex
    rw [List.zipIdx_cons,List.forIn_cons,Sem.wp_bind',hb]
    exact none_loop hb l (i+1) (fun y hy=>hx y (by simp [hy]))
theorem keyLt_tup {Q:Bool→Pos→Shared→Prop}{a b:Addr}{ra rb:Nat}(ha:TupAt s a ra) (hb:TupAt s b rb):Sem.wp M Γ (keyLt' kT (.ref a) (.ref b)) Q E p s=Q (decide (ra<rb)) p s:=by
  obtain ⟨e,ha⟩:=ha
  obtain ⟨e2,hb⟩:=hb
  rw [kat_lt_eq,Sem.wp_bind',items_at ha rfl,Sem.wp_bind',items_at hb rfl,Sem.wp_bind']
  rw [none_loop (fun i R=>by simp [wp_eqNone]) _ 0 (fun x hx=>?_)]
  · simp
  · have:=List.of_mem_zip (a:=x.1) (b:=x.2) hx
    simp only [Array.toList_replicate,List.mem_replicate] at this
    exact Prod.ext this.1.2 this.2.2
def Fake (s:Shared):Prop:=∀ a o,s.heap.get? a=some o→∃ r e,o=seqObj "tuple" (Array.replicate r Value.none) e
theorem cmp_inv {Q:Bool→Pos→Shared→Prop}{x y:Value}(F:Fake s) (h:Sem.wp M Γ (keyLt' kT x y) Q E p s) :
    ∃ a b ra rb,x=.ref a∧y=.ref b∧TupAt s a ra∧TupAt s b rb∧Q (decide (ra<rb)) p s:=by
  have h0:=h
  rw [kat_lt_eq,Sem.wp_bind'] at h
  obtain ⟨a,o,xs,n,rfl,ho,hd,h⟩:=items_inv h
  rw [Sem.wp_bind'] at h
  obtain ⟨b,o2,ys,n2,rfl,ho2,hd2,h⟩:=items_inv h
  obtain ⟨ra,e,rfl⟩:=F a o ho
  obtain ⟨rb,e2,rfl⟩:=F b o2 ho2
  refine ⟨a,b,ra,rb,rfl,rfl,⟨_,ho⟩,⟨_,ho2⟩,?_⟩
  rw [keyLt_tup ⟨_,ho⟩ ⟨_,ho2⟩] at h0
  exact h0
end
section
variable {M:Model}{Γ:Ctx}{E:Value→Pos→Shared→Prop}{s sf:Shared}{kd:SortKind}{rk:Addr→Nat}
theorem carry {α:Type}{Qf:α→Prop}{Ef:Value→Pos→Shared→Prop}(F:Fake sf) (hL:∀ a b ra rb (p:Pos),TupAt sf a ra→TupAt sf b rb→Sem.wp M Γ (keyLt' kd (.ref a) (.ref b)) (fun v _ s'=>s'=s∧v=decide (ra<rb)) (fun _ _ _=>False) p s) :
    ∀ (t:Pg α) (p p':Pos),Sem.wp M Γ (play kT t) (fun b _ s'=>s'=sf∧Qf b) Ef p sf→Sem.wp M Γ (play kd t) (fun b _ s'=>s'=s∧Qf b) E p' s
  | .ret a,p,p',h=>by
    simp only [play,Sem.wp_pure'] at h ⊢
    exact ⟨trivial,h.2⟩
  | .say n k,p,p',h=>by
    simp only [play,Sem.wp_bind'] at h ⊢
    have h2:Sem.wp M Γ (play kT k) (fun b _ s'=>s'=sf∧Qf b) Ef p sf:=by simpa [rule] using h
    have:=carry F hL k p p' h2
    simpa [rule] using this
  | .stop n,p,p',h=>by
    simp [play,unsupported] at h
  | .cmp x y k,p,p',h=>by
    simp only [play,Sem.wp_bind',Sem.wp_attempt] at h ⊢
    obtain ⟨a,b,ra,rb,rfl,rfl,ha,hb,h⟩:=cmp_inv F h
    refine Sem.wp_mono M Γ _ (fun v p2 s2 q=>?_) (fun _ _ _ q=>q.elim) _ _ (hL a b ra rb p' ha hb)
    obtain ⟨q1,q2⟩:=q
    rw [q1,q2]
    exact carry F hL _ _ _ h
end
def fobj (rk:Addr→Option Nat) (a:Addr):Obj:=match rk a with
  | some r=>seqObj "tuple" (Array.replicate r Value.none) 0
  | none=>{ cls:=.none,data:=.freed }
def fheap (N:Nat) (rk:Addr→Option Nat):Heap:={ objs:=Array.ofFn fun i:Fin N=>fobj rk i.1 }
theorem fheap_get {N:Nat}{rk:Addr→Option Nat}{a:Addr}:(fheap N rk).get? a=if a<N then (rk a).map fun r=>seqObj "tuple" (Array.replicate r Value.none) 0 else none:=by
  unfold fheap Heap.get?
  by_cases h:a<N
  · simp only [Array.getElem?_ofFn,h,dite_true,if_true]
    unfold fobj
    cases rk a <;> rfl
  · simp only [Array.getElem?_ofFn,h,dite_false,if_false]
theorem fheap_fake {N:Nat}{rk:Addr→Option Nat}{s:Shared}:Fake { s with heap:=fheap N rk }:=fun a o e=>by
  have e:(fheap N rk).get? a=some o:=e
  rw [fheap_get] at e
  split at e
  · cases q:rk a with
    | none=>rw [q] at e; cases e
    | some r=>rw [q] at e; cases e; exact ⟨r,0,rfl⟩
  · cases e
theorem fheap_tup {N:Nat}{rk:Addr→Option Nat}{s:Shared}{a:Addr}{r:Nat}:TupAt { s with heap:=fheap N rk } a r↔a<N∧rk a=some r:=by
  constructor
  · rintro ⟨e,h⟩
    have h:(fheap N rk).get? a=_:=h
    rw [fheap_get] at h
    split at h
    · rename_i hn
      cases q:rk a with
      | none=>rw [q] at h; cases h
      | some r'=>
        rw [q] at h
        have h1:=congrArg (fun o=>o.map Obj.data) h
        simp only [Option.map_some,Option.some.injEq] at h1
        injection h1 with h2 h3
        have h4:=congrArg Array.size h2
        simp at h4
        exact ⟨hn,by rw [h4]⟩
    · cases h
  · rintro ⟨h1,h2⟩
    exact ⟨0,by show (fheap N rk).get? a=_; rw [fheap_get,if_pos h1,h2]; rfl⟩
def κf (rk:Addr→Option Nat):PyProof.Rows.KeyKind where
  α:=Nat
  blt:=fun a b=>decide (a<b)
  irrefl:=fun a=>by simp
  trans:=fun a b c h1 h2=>by simp at *; omega
  negTrans:=fun a b c h=>by simp at *; omega
  total:=fun a b h1 h2=>by simp at *; omega
  keyOf:=fun v=>match v with
    | .ref a=>rk a
    | _=>none
  dflt:=0
section
variable {prog:Program}{w:World}
theorem fake_lt {N:Nat}{rk:Addr→Option Nat}{s:Shared}(hN:∀ a r,rk a=some r→a<N):PyProof.Rows.G.LtAt prog w { s with heap:=fheap N rk } (κf rk) kT:=by
  intro A E x y ra rb Q hx hy hq
  cases x with
  | ref a=>
    cases y with
    | ref b=>
      have hx:rk a=some ra:=hx
      have hy:rk b=some rb:=hy
      intro Γ p hΓ
      rw [keyLt_tup ((fheap_tup (s:=s)).mpr ⟨hN a ra hx,hx⟩) ((fheap_tup (s:=s)).mpr ⟨hN b rb hy,hy⟩)]
      exact hq
    | _=>cases hy
  | _=>cases hx
end
def kv (kz:Addr→List Int):Value→List Int
  | .ref a=>kz a
  | _=>[]
theorem row_is {rk:Addr→Option Nat}{kz:Addr→List Int}{KS:List (List Int)}{l:List Keyed}(h:∀ p∈l,∃ a,p.1=.ref a∧rk a=some (JM.rnk KS (kz a))∧kz a∈KS) (c:List Int) (hc:c∈KS):rowOf (κf rk) (JM.rnk KS c) l=JM.row (fun p:Keyed=>kv kz p.1) c l:=by
  unfold rowOf JM.row
  apply List.filter_congr
  intro p hp
  obtain ⟨a,e1,e2,e3⟩:=h p hp
  have ek:(κf rk).keyOf p.1=some (JM.rnk KS (kz a)):=by rw [e1]; exact e2
  have ev:kv kz p.1=kz a:=by rw [e1]; rfl
  show sameKey (κf rk) (JM.rnk KS c) p=decide (kv kz p.1=c)
  rw [ev]
  by_cases q:kz a=c
  · rw [decide_eq_true q,←q]
    exact sameKey_self ek
  · rw [decide_eq_false q]
    cases z:sameKey (κf rk) (JM.rnk KS c) p with
    | false=>rfl
    | true=>
      have:=sameKey_true z
      rw [ek] at this
      exact absurd (JM.rnk_eq e3 hc (Option.some.inj this)) q
section
variable {prog:Program}{w:World}{A:Around}{E:Value→Shared→Prop}{s:Shared}{kd:SortKind}{kz:Addr→List Int}
theorem runs_lists {ks:List Addr}{vs:List Value}{Q:SortSt→Prop}(hlen:ks.length=vs.length) (h2:2≤vs.length)
    (hL:∀ a∈ks,∀ b∈ks,∀ {R:Bool→Shared→Prop} {E:Value→Shared→Prop},R (JM.llt (kz a) (kz b)) s→wpAny (model prog w) A (keyLt' kd (.ref a) (.ref b)) R E s)
    (h:∀ st,failedOf st=none→(arrOf st).toList=JM.isort (fun p:Keyed=>kv kz p.1) ((ks.map Value.ref).zip vs)→Q st) :
    wpAny (model prog w) A ((sortRuns').run (SortSt.mk' kd ((ks.map Value.ref).toArray.zip vs.toArray) #[] 7 none)) (fun r s'=>s'=s∧Q r.2) E s:=by
  let KS:=ks.map kz
  let rk:Addr→Option Nat:=fun a=>if a∈ks then some (JM.rnk KS (kz a)) else none
  let N:=(ks.foldl max 0)+1
  have hN:∀ a r,rk a=some r→a<N:=fun a r e=>by
    have hm:a∈ks:=by
      by_cases q:a∈ks
      · exact q
      · have e:(if a∈ks then some (JM.rnk KS (kz a)) else none)=some r:=e
        rw [if_neg q] at e; cases e
    have go:∀ (l:List Addr) (m:Nat),m≤l.foldl max m∧∀ x∈l,x≤l.foldl max m:=by
      intro l
      induction l with
      | nil=>intro m; exact ⟨Nat.le_refl _,fun x hx=>by cases hx⟩
      | cons y l ih=>
        intro m
        obtain ⟨i1,i2⟩:=ih (max m y)
        refine ⟨Nat.le_trans (Nat.le_max_left _ _) i1,fun x hx=>?_⟩
        rcases List.mem_cons.mp hx with rfl | hx
        · exact Nat.le_trans (Nat.le_max_right _ _) i1
        · exact i2 x hx
    exact Nat.lt_succ_of_le ((go ks 0).2 a hm)
  have mem:∀ a ra,rk a=some ra→a∈ks∧ra=JM.rnk KS (kz a):=fun a ra e=>by
    have e:(if a∈ks then some (JM.rnk KS (kz a)) else none)=some ra:=e
    by_cases q:a∈ks
    · rw [if_pos q] at e; cases e; exact ⟨q,rfl⟩
    · rw [if_neg q] at e; cases e
  let sf:Shared:={ s with heap:=fheap N rk }
  let arr:Array Keyed:=(ks.map Value.ref).toArray.zip vs.toArray
  have earr:arr.toList=(ks.map Value.ref).zip vs:=by
    show ((ks.map Value.ref).toArray.zip vs.toArray).toList=_
    simp
  have hsz:arr.size=vs.length:=by
    rw [←Array.length_toList,earr,List.length_zip,List.length_map,hlen,Nat.min_self]
  have inarr:∀ p∈arr.toList,∃ a,p.1=.ref a∧rk a=some (JM.rnk KS (kz a))∧kz a∈KS:=fun p hp=>by
    rw [earr] at hp
    have:=(List.of_mem_zip (a:=p.1) (b:=p.2) hp).1
    obtain ⟨a,ha,e⟩:=List.mem_map.mp this
    exact ⟨a,e.symm,if_pos ha,List.mem_map_of_mem ha⟩
  have run:=PyProof.Rows.G.wpS_sortRunsSt (prog:=prog) (w:=w) (A:=A) (E:=fun _ _=>True) (s:=sf) (κ:=κf rk) (kd:=kT) (a₀:=arr) (st:=SortSt.mk' kT arr #[] 7 none)
    (Q:=fun _ st=>failedOf st=none∧(arrOf st).toList=JM.isort (fun p:Keyed=>kv kz p.1) ((ks.map Value.ref).zip vs))
    (fake_lt hN) (fun p hp=>by obtain ⟨a,e,e2,_⟩:=inarr p hp; exact ⟨_,by rw [e]; exact e2⟩) ⟨Array.Perm.refl _,rfl,rfl⟩ rfl (Stable.refl _) (by rw [hsz]; exact h2)
    (fun st hp hf hs ht=>⟨hf,?_⟩)
  ·
    obtain ⟨P,hP⟩:=g_runs
    intro Γ p hΓ
    have r1:=run Γ p hΓ
    have e1:=hP kT (SortSt.mk' kT arr #[] 7 none)
    have e2:=hP kd (SortSt.mk' kT arr #[] 7 none)
    change (sortRuns').run (SortSt.mk' kT arr #[] 7 none)=_ at e1
    change (sortRuns').run (SortSt.mk' kd arr #[] 7 none)=_ at e2
    rw [e1,Sem.wp_bind'] at r1
    show Sem.wp _ Γ ((sortRuns').run (SortSt.mk' kd arr #[] 7 none)) _ _ p s
    rw [e2,Sem.wp_bind']
    simp only [Sem.wp_pure'] at r1 ⊢
    refine Sem.wp_mono _ _ _ (fun v p2 s2 q=>⟨q.1,h _ q.2.1 q.2.2⟩) (fun _ _ _ q=>q) _ _ (carry (E:=fun e _ s'=>E e s') (Qf:=fun r:Unit×SortSt=>failedOf r.2=none∧(arrOf r.2).toList=JM.isort (fun p:Keyed=>kv kz p.1) ((ks.map Value.ref).zip vs)) (fheap_fake (s:=s)) (fun a b ra rb p ha hb=>?_) _ p p r1)
    obtain ⟨_,qa⟩:=fheap_tup.mp ha
    obtain ⟨_,qb⟩:=fheap_tup.mp hb
    obtain ⟨ma,rfl⟩:=mem a ra qa
    obtain ⟨mb,rfl⟩:=mem b rb qb
    exact hL a ma b mb (R:=fun v s'=>s'=s∧v=_) (E:=fun _ _=>False) ⟨rfl,(JM.rnk_lt (List.mem_map_of_mem ma)).symm⟩ Γ p hΓ
  ·
    have hpl:(arrOf st).toList.Perm arr.toList:=Array.perm_iff_toList_perm.mp hp
    have inst:∀ p∈(arrOf st).toList,∃ a,p.1=.ref a∧rk a=some (JM.rnk KS (kz a))∧kz a∈KS:=fun p hp=>inarr p (hpl.mem_iff.mp hp)
    rw [←earr]
    refine JM.srt_one _ _ _ ?_ (JM.isort_srt _ _) fun c=>?_
    · unfold JM.Srt
      rw [List.pairwise_iff_getElem]
      intro i j hi hj hij
      have hj':j<arr.size:=by rw [←hp.size_eq]; simpa using hj
      have q:=hs i j (Nat.le_of_lt hij) hj'
      have key:∀ (i:Nat) (hi:i<(arrOf st).toList.length),∃ a,((arrOf st).toList[i]).1=.ref a∧KK (κf rk) (arrOf st) i=JM.rnk KS (kz a)∧kz a∈KS:=fun i hi=>by
        obtain ⟨a,e1,e2,e3⟩:=inst _ (List.getElem_mem hi)
        refine ⟨a,e1,?_,e3⟩
        unfold KK
        have eg:(arrOf st)[i]?=some (arrOf st).toList[i]:=by
          have:i<(arrOf st).size:=by simpa using hi
          rw [Array.getElem?_eq_getElem this]; simp
        rw [eg]
        show ((κf rk).keyOf ((arrOf st).toList[i]).1).getD _=_
        rw [e1]
        show (rk a).getD _=_
        rw [e2]; rfl
      obtain ⟨a,a1,a2,a3⟩:=key i hi
      obtain ⟨b,b1,b2,b3⟩:=key j hj
      have q:(κf rk).blt (KK (κf rk) (arrOf st) j) (KK (κf rk) (arrOf st) i)=false:=q
      rw [a2,b2] at q
      have q:decide (JM.rnk KS (kz b)<JM.rnk KS (kz a))=false:=q
      rw [JM.rnk_lt b3] at q
      show JM.llt (kv kz ((arrOf st).toList[j]).1) (kv kz ((arrOf st).toList[i]).1)=false
      rw [a1,b1]
      exact q
    · rw [JM.isort_row]
      by_cases hc:c∈KS
      · rw [←row_is inst c hc,←row_is inarr c hc]
        exact ht _
      · have nil:∀ l:List Keyed,(∀ p∈l,∃ a,p.1=.ref a∧rk a=some (JM.rnk KS (kz a))∧kz a∈KS)→JM.row (fun p:Keyed=>kv kz p.1) c l=[]:=fun l hl=>by
          unfold JM.row
          rw [List.filter_eq_nil_iff]
          intro p hp q
          obtain ⟨a,e1,_,e3⟩:=hl p hp
          have q:kv kz p.1=c:=of_decide_eq_true q
          rw [e1] at q
          exact hc (q ▸ e3)
        rw [nil _ inst,nil _ inarr]
end
end JS
end
section
namespace JS
open PySem PyProof.Rows SeqAt MeetsSeq MeetsSeq2 MeetsSeq3 SeqRoads2
open AutoSeq1 (wpAny_loadPart')
theorem ints_get:∀ {vs:List Value}{ns:List Int},IntsAre vs ns→∀ (i:Nat) (x:Int),ns[i]?=some x→∃ t,vs[i]?=some (.int x t)
  | _,_,.nil,i,x,e=>by simp at e
  | _,_,.cons n t _,0,x,e=>by simp at e; subst e; exact ⟨t,rfl⟩
  | _,_,.cons _ _ h,i+1,x,e=>by
    have:=ints_get h i x (by simpa using e)
    simpa using this
theorem lt_loop (l b:Addr) (vs ws:List Value) (n n2:Nat) {na nb:List Int}(ha:IntsAre vs na) (hb:IntsAre ws nb) (k:Nat) :
    ∀ i:Nat,na.length-i=k→i≤na.length→i≤nb.length→Meets (Builtin.«list.__eq__.loop» ⟨[.ref l,.ref b,rawInt i,rawInt 0],[]⟩)
      (fun A R s=>s.heap.get? l=some (seqObj "list" vs.toArray n)∧s.heap.get? b=some (seqObj "list" ws.toArray n2)∧R (.ok (.ret (.bool (JM.llt (na.drop i) (nb.drop i))))) s):=by
  have la:=ha.length
  have lb:=hb.length
  have cut:∀ (i:Nat) (x y:Int),na[i]?=some x→nb[i]?=some y→JM.llt (na.drop i) (nb.drop i)=(decide (x<y) || (!decide (y<x)&&JM.llt (na.drop (i+1)) (nb.drop (i+1)))):=fun i x y e1 e2=>by
    obtain ⟨h1,rfl⟩:=List.getElem?_eq_some_iff.mp e1
    obtain ⟨h2,rfl⟩:=List.getElem?_eq_some_iff.mp e2
    rw [List.drop_eq_getElem_cons h1,List.drop_eq_getElem_cons h2]
    rfl
  induction k with
  | zero=>
    intro i hk hi1 hi2 prog w A R s h
    obtain ⟨hp,g,d,tk,os⟩:=s; obtain ⟨hl,hb',h⟩:=h
    wp_walk using wpAny_loadPart' hl,wpAny_loadPart' hb'
    have hi1:vs.toArray[((i:Nat):Int).toNat]?=none:=by simp; omega
    rw [hi1]
    wp_walk using wpAny_loadPart' hl,wpAny_loadPart' hb'
    have hd:na.drop i=[]:=by simp; omega
    rw [hd] at h
    have e:JM.llt [] (nb.drop i)=decide (vs.toArray.size<ws.toArray.size):=by
      cases q:nb.drop i with
      | nil=>
        have:nb.length≤i:=by simpa using q
        simp [JM.llt]; omega
      | cons y r=>
        have:¬nb.length≤i:=fun z=>by rw [List.drop_eq_nil_of_le z] at q; cases q
        simp [JM.llt]; omega
    rw [e] at h
    exact h
  | succ k ih=>
    intro i hk hi1 hi2 prog w A R s h
    obtain ⟨hp,g,d,tk,os⟩:=s; obtain ⟨hl,hb',h⟩:=h
    wp_walk using wpAny_loadPart' hl,wpAny_loadPart' hb'
    have hlt:i<na.length:=by omega
    obtain ⟨t,e1⟩:=ints_get ha i na[i] (by simp [hlt])
    have e1':vs.toArray[((i:Nat):Int).toNat]?=some (.int na[i] t):=by simpa using e1
    rw [e1']
    by_cases hlt2:i<nb.length
    · obtain ⟨u,e2⟩:=ints_get hb i nb[i] (by simp [hlt2])
      have e2':ws.toArray[((i:Nat):Int).toNat]?=some (.int nb[i] u):=by simpa using e2
      rw [e2']
      have hc:((i:Int)+1)=((i+1:Nat):Int):=by push_cast; rfl
      rw [cut i na[i] nb[i] (by simp [hlt]) (by simp [hlt2])] at h
      refine wpAny_bind (wpAny_eqBool_int ?_)
      by_cases q:na[i]=nb[i]
      · have q':(na[i]==nb[i])=true:=by simp [q]
        rw [q']
        wp_walk
        rw [hc]
        exact ⟨plainId_quiet plain_eq_loop _,codeAny_builtin entry_eq_loop (by
          rw [Around.under_plainId plain_eq_loop _]
          exact ih (i+1) (by omega) (by omega) (by omega) prog w A R _ ⟨hl,hb',by simpa [q] using h⟩)⟩
      · have q':(na[i]==nb[i])=false:=by simp [q]
        rw [q']
        wp_walk using wpAny_loadPart' hl,wpAny_loadPart' hb'
        rw [e1',e2']
        refine wpAny_bind (show wpAny _ _ (richCompare .Lt (.int na[i] t) (.int nb[i] u)) _ _ _ from lt_int ?_)
        refine wpAny_pure ?_
        have e3:(decide (na[i]<nb[i]) || (!decide (nb[i]<na[i])&&JM.llt (na.drop (i+1)) (nb.drop (i+1))))=decide (na[i]<nb[i]):=by
          by_cases z:na[i]<nb[i]
          · rw [decide_eq_true z]; rfl
          · rw [decide_eq_false z,decide_eq_true (show nb[i]<na[i] by omega)]; rfl
        rw [e3] at h
        exact h
    · have e2':ws.toArray[((i:Nat):Int).toNat]?=none:=by simp; omega
      rw [e2']
      wp_walk using wpAny_loadPart' hl,wpAny_loadPart' hb'
      have hd:nb.drop i=[]:=by simp; omega
      rw [hd,List.drop_eq_getElem_cons hlt] at h
      have e:JM.llt (na[i]::na.drop (i+1)) []=decide (vs.toArray.size<ws.toArray.size):=by
        simp [JM.llt]; omega
      rw [e] at h
      exact h
theorem lt_lists (l b:Addr) (vs ws:List Value) (n n2:Nat) {na nb:List Int}(ha:IntsAre vs na) (hb:IntsAre ws nb):Meets (Builtin.«list.__lt__» ⟨[.ref l,.ref b],[]⟩)
      (fun A R s=>s.heap.get? l=some (seqObj "list" vs.toArray n)∧s.heap.get? b=some (seqObj "list" ws.toArray n2)∧R (.ok (.ret (.bool (JM.llt na nb)))) s):=by
  intro prog w A R s h
  obtain ⟨hp,g,d,tk,os⟩:=s; obtain ⟨hl,hb',h⟩:=h
  have f3:=AutoSeq1.sub_list_list
  wp_walk using wpAny_loadPart' hl,wpAny_loadPart' hb'
  exact ⟨plainId_quiet plain_eq_loop _,codeAny_builtin entry_eq_loop (by
    rw [Around.under_plainId plain_eq_loop _]
    exact lt_loop l b vs ws n n2 ha hb _ 0 rfl (Nat.zero_le _) (Nat.zero_le _) prog w A R _ ⟨hl,hb',by simpa using h⟩)⟩
theorem keyLt_lists {prog:Program}{w:World}{A:Around}{E:Value→Shared→Prop}{s:Shared}{R:Bool→Shared→Prop}{l b:Addr}{vs ws:List Value}{n n2:Nat}{na nb:List Int}(hu:A.units<cLine)
    (hl:s.heap.get? l=some (seqObj "list" vs.toArray n)) (hb:s.heap.get? b=some (seqObj "list" ws.toArray n2)) (ha:IntsAre vs na) (hb':IntsAre ws nb) (h:R (JM.llt na nb) s) :
    wpAny (model prog w) A (keyLt' oneType' (.ref l) (.ref b)) R E s:=by
  rw [keyLt'_oneType,oneLt'_eq]
  simp only [if_true]
  refine wpAny_bind (wpAny_cRoomFor hu ?_)
  refine wpAny_bind (wpAny_callSpecialIfBound?_slot (T := "list") (id := "list.__lt__") ⟨_,hl,rfl⟩ PySem.F.slot_list_lt ?_)
  refine call_meets PySem.F.slot_list_lt ⟨_,hl,rfl⟩ PySem.F.entry_list_lt (PySem.F.args_list_lt_2 _ _) (lt_lists l b vs ws n n2 ha hb') ⟨hl,hb,?_⟩
  exact wpAny_truthy_bool h
end JS
end
section
namespace L2
open PySem PySem.Spec PyProof.Rows
structure LamAt (base:Heap) (mg:Str→Option Value) (c P:Addr):Prop where
  hd:PySem.W.CodeHd base c P
  bm:∃ bm o,mg "__builtins__" = some (.ref bm)∧bm≠builtinsNs∧bm≠mainGlobals∧base.get? bm=some o∧o.cls=.type "module" ∧ o.dict=some builtinsNs∧o.data=.plain
section
variable {X:Cx}{pins:List (Addr×Obj)}{σ:St}{H:Hp}{s:Shared}
theorem Inv.table {P:Addr}{ps more:Array Value}{h':Heap}{t':Nat}(I:Inv X pins σ H s) (hP:H P=some (.tbl ps)) (k:∀ b o,b≠P→s.heap.get? b=some o→h'.get? b=some o) (e:h'.get? P=some (PySem.W.tabObj (ps++more))) :
    Inv X pins σ (upd H P (.tbl (ps++more))) { s with heap:=h',toks:=t' }:=by
  have neN:∀ b,H b=none→b≠P:=fun b n z=>by rw [z,hP] at n; cases n
  have neS:∀ b o,H b=some o→(∀ ps,o≠.tbl ps)→b≠P:=fun b o q n z=>by rw [z,hP] at q; cases q; exact n _ rfl
  refine I.step (g':=s.gens) (d':=s.drawn) (ch:=[]) (fun _ z=>nomatch z) (fun b o _ _ _ e n=>k b o (neN b n) e) (fun b o _ _ _ e n=>⟨o.slots,k b o (neN b n) e⟩)
    (fun b o _ _ n=>by rw [upd_ne (neN b n)]; exact n) (fun b o _ q=>?_) (fun b xs q=>by rw [upd_ne (neS b _ q (fun _ z=>nomatch z))]; exact q) (fun b o u q=>by rw [upd_ne (neS b _ q (fun _ z=>nomatch z))]; exact q) (fun b qs q=>?_) (fun m hm=>?_) (fun b u q=>?_) I.bare
  · by_cases z:b=P
    · exact ⟨_,by rw [z]; exact e⟩
    · exact ⟨o,k b o z q⟩
  · by_cases z:b=P
    · rw [z,hP] at q
      cases q
      exact ⟨more,by rw [z,upd_same]⟩
    · exact ⟨#[],by rw [upd_ne z,q]; simp⟩
  · obtain ⟨o,es,ep,ho,r⟩:=hm
    exact ⟨o,es,ep,k _ o (neN _ I.free) ho,r⟩
  · by_cases z:b=P
    · rw [z,upd_same] at q
      cases q
      rw [z]
      exact e
    · rw [upd_ne z] at q
      refine (I.hok b u q).stay (fun c v hc r=>k c v ?_ r) (fun c r=>by rw [upd_ne (neS c _ r (fun _ z=>nomatch z))]; exact r) fun c xs r=>by rw [upd_ne (neS c _ r (fun _ z=>nomatch z))]; exact r
      rcases hc with y | y
      · rw [y]; exact z
      · exact neS c _ y (fun _ z=>nomatch z)
theorem Inv.neB {P:Addr}{o:HO}(I:Inv X pins σ H s) (hP:H P=some o) {b:Addr}{ob:Obj}(e:X.base.get? b=some ob):b≠P:=fun z=>by
  have:=(I.bs b ob e).2
  rw [z,hP] at this
  cases this
theorem lam_made {A:Around}{E:Value→Shared→Prop}{c P:Addr}{ps:Array Value}{params:Arguments}{body:Expr}{scope:Scope}{pos:Pos}{clos:List (Str×Addr)}{Q:Value→Shared→Prop}(I:Inv X pins σ H s) (L:LamAt X.base X.mg c P)
    (hcode:X.env.code=.ref c) (hP:H P=some (.tbl ps)) (ht:TriplesOk ps.toList) (hnf:codeAmong pos ps.toList=none) (hcl:closureFor scope X.env=pure clos) (hdef:defaultsOf params X.env=([],[]))
    (h:∀ (f c':Addr) (ctv:Value) (more:Array Value) (s':Shared),Inv X pins σ (upd H P (.tbl (ps++more))) s'→s'.heap.get? f=some (PySem.W.kla_obj "<lambda>" (X.env.qual ++ "<lambda>") params body scope clos ((X.mg "__name__").getD .none) c' ctv)→
      s'.heap.CodeRec (.ref c') (X.env.qual ++ "<lambda>")→s.heap.objs.size≤f→s.heap.objs.size≤c'→Q (.ref f) s') :
    wpAny (model X.prog X.w) A (eval (.Lambda params body scope pos) X.env) Q E s:=by
  obtain ⟨bm,ob,b1,b2,b3,b4,b5,b6,b7⟩:=L.bm
  have hPs:s.heap.get? P=some (PySem.W.tabObj ps):=I.hok P _ hP
  have hgs:s.heap.Ns mainGlobals X.mg:=I.mod.glob.keeps I.bk
  have hgP:mainGlobals≠P:=by
    obtain ⟨o,_,_,e,_⟩:=I.mod.glob
    exact I.neB hP e
  refine PySem.W.kla_eval hdef (PySem.W.kla_makeFunction (mg:=X.mg) hcl I.ok.glob hgs hcode (L.hd.keeps I.bk) hPs ht hnf hgP ⟨bm,ob,b1,b2,b3,I.neB hP b4,I.bk _ _ b4,b5,b6,b7⟩ fun c' ctv h' tk hx hge hlt hrec htb=>?_)
  have kk:∀ (o':Obj) b o,b≠P→s.heap.get? b=some o→(h'.push o').get? b=some o:=fun o' b o n e=>Heap.get?_push_of_some _ (hx b o n e)
  refine h h'.objs.size c' ctv _ _ (I.table (t':=tk) hP (kk _) (Heap.get?_push_of_some _ htb)) (Heap.get?_push_size _ rfl) ?_ (Nat.le_trans hge (Nat.le_of_lt hlt)) hge
  obtain ⟨c2,oc,vs,t,e2,hoc,r⟩:=hrec
  exact ⟨c2,oc,vs,t,e2,Heap.get?_push_of_some _ hoc,r⟩
def cxLam (X:Cx) (A:Around) (N:List Str) (qual:Str) (scope:Scope) (f:Addr) (cd:Value) (cl:List (Str×Addr)) (s:Shared) (H:Hp):Cx where
  prog:=X.prog
  w:=X.w
  K:=X.K
  mg:=X.mg
  base:=X.base
  A:=A.deeper (PySem.W.envX qual scope s.heap.objs.size f cd cl)
  N:=N
  s_0:=s
  H_0:=H
  env:=PySem.W.envX qual scope s.heap.objs.size f cd cl
  outer:=X.stack
  stack:=PySem.W.envX qual scope s.heap.objs.size f cd cl::X.stack
  ex:=[]
  calm:=true
  fn:=fun _=>false
  pn:=[]
  xe:=fun _ _=>False
theorem lam_call {A:Around}{E:Value→Shared→Prop}{f c c':Addr}{name qual:Str}{params:Arguments}{body:Expr}{scope:Scope}{pm ctv:Value}{x y:Str}{iy:Nat}{vy vx:V}{u:Value}{Q:VK}{te:TE}{k:Nat}
    (I:Inv X pins σ H s) (hA:A.frames=X.A.frames) (hr:Room (k+1) A) (hf:s.heap.get? f=some (PySem.W.kla_obj name qual params body scope [(y,c)] pm c' ctv)) (hcd:s.heap.CodeRec (.ref c') qual)
    (hkind:scope.kind=.function) (hco:scope.isCoroutine=false) (hgen:scope.isGenerator=false) (hcell:∀ z∈scope.names,z.2≠.cell) (hx:scope.names.lookup x=some .local) (hy:scope.names.lookup y=some .free) (hfree:∀ z∈scope.names,z.2=.free→z.1=y)
    (hbind:bindArgs (PySem.W.kla_fn name qual params body scope [(y,c)] pm (.ref c') ctv) ⟨[u],[]⟩=pure [(x,u)])
    (hc:X.env.cells.lookup y=some c) (hk:X.env.kindOf y=some .cell) (hN:X.N[iy]?=some y) (hσ:σ[iy]?=some (some vy)) (rx:RelV vx u)
    (hb:PE (cxLam X A [x,y] qual scope f (.ref c') [(y,c)] s H) body te) (hq:te [some vx,some vy] H Q) :
    wpAny (model X.prog X.w) A (call (.ref f) [u]) (EP X pins σ Q) E s:=by
  have ne:x≠y:=fun z=>by rw [z,hy] at hx; cases hx
  obtain ⟨m,hn,hl⟩:=id I.loc
  obtain ⟨uy,ry,l⟩:=hl iy y vy hN hσ (.inr (.inl hk))
  have hcy:s.heap.IsCell c (some uy):=by
    rcases l with ⟨z,_⟩ | ⟨_,c2,e,z⟩
    · rw [hk] at z; cases z
    · rw [hc] at e; cases e; exact z
  refine wpAny_call (PySem.W.kla_callFunE hr.depth hf rfl hco hgen rfl hcd ?_)
  rw [hbind]
  refine wpAny_pure (wpAny_newFunctionEnv hcell (fun z hz=>by rw [List.mem_singleton.mp hz]; exact hx) (fun h₁ hns hsb=>⟨?_,?_⟩) hkind)
  · exact I.nolimit.fresh _ hsb
  have kk:∀ b o,s.heap.get? b=some o→h₁.get? b=some o:=fun b o e=>hsb.extBut b o (Nat.ne_of_lt (Heap.lt_size e)) (Heap.get?_push_of_some _ e)
  have noA:∀ b:Addr,b ∉ (cxLam X A [x,y] qual scope f (.ref c') [(y,c)] s H).ex:=fun b z=>absurd (show b∈([]:List Addr) from z) (by simp)
  have look1:∀ z d,([(y,c)]:List (Str×Addr)).lookup z=some d→z=y∧d=c:=fun z d e=>by
    have:=PySem.mem_of_lookup e
    have:=List.mem_singleton.mp this
    cases this
    exact ⟨rfl,rfl⟩
  have cl:([(y,c)]:List (Str×Addr)).lookup y=some c:=by simp
  show codeAny _ _ (.expr body (PySem.W.envX qual scope s.heap.objs.size f (.ref c') [(y,c)])) _ _
  have J:Inv (cxLam X A [x,y] qual scope f (.ref c') [(y,c)] s H) [] [some vx,some vy] H { s with heap:=h₁,toks:=s.toks+1 }:=by
    refine ⟨⟨I.mod,hkind,rfl,rfl,Nat.le_refl _,fun z1 z2 d h1 h2=>?_,fun z hz=>?_,fun z d h=>absurd (show false=true from h) (by decide),fun _=>hr.hd,Around.frames_deeper (hA.trans I.ok.frames),.inr ⟨rfl,rfl⟩,fun b z=>absurd z (noA b),I.bs,Nat.le_trans I.ok.bsz I.sz,fun b _ _=>noA b,fun b z=>absurd z (noA b),I.stack,I.stkFree⟩,
      rfl,I.bare,Un.kept kk,⟨_,hns,fun i z v h1 h2 h3=>?_⟩,fun z d h=>?_,I.hok.fresh (Nat.le_refl _),fun z d h=>?_,fun p hp=>absurd (show p∈([]:List (Addr×Obj)) from hp) (by simp),I.hok.kept kk,rfl⟩
    · rw [(look1 z1 d h1).1,(look1 z2 d h2).1]
    · have hz:scope.names.lookup z=some .cell∨scope.names.lookup z=some .free:=hz
      rcases hz with hz | hz
      · exact absurd rfl (hcell _ (PySem.mem_of_lookup hz))
      · have ez:z=y:=hfree (z,.free) (PySem.mem_of_lookup hz) rfl
        exact ⟨c,by rw [ez]; exact cl⟩
    · match i with
      | 0=>
        have e1:x=z:=by simpa [cxLam] using h1
        have e2:vx=v:=by simpa using h2
        subst e1 e2
        exact ⟨u,rx,.inl ⟨hx,by simp⟩⟩
      | 1=>
        have e1:y=z:=by simpa [cxLam] using h1
        have e2:vy=v:=by simpa using h2
        subst e1 e2
        obtain ⟨oc,ho,hd⟩:=hcy
        exact ⟨uy,ry,.inr ⟨.inr hy,c,cl,oc,kk _ _ ho,hd⟩⟩
      | i+2=>simp at h2
    · obtain ⟨oc,ho,hd⟩:=hcy
      exact ⟨_,oc,by rw [(look1 z d h).2]; exact kk _ _ ho,hd⟩
    · rw [(look1 z d h).2]; exact I.freeC y c hc
  refine PySem.W.kla_codeExpr (wpAny_mono (hb [] _ _ H Q J hq) (fun u' s' hs=>?_) (fun _ _ z=>False.elim z))
  obtain ⟨v',H',J',rv,q⟩:=hs
  exact I.after ⟨v',H',J'.os,J'.bare,J'.base,J'.hok,rv,q⟩
def KeyFn (X:Cx) (pf:List (Addr×Obj)) (σ:St) (H:Hp) (A:Around) (f:Value) (y:V) (k:List Int):Prop:=
  ∀ (pins:List (Addr×Obj)) (s:Shared) (H':Hp) (u:Value) (Q:VK),(∀ p∈pf,p∈pins)→Inv X pins σ H' s→Same H H'→RelV y u→
    (∀ p H2,H' p=none→Same H' H2→H2 p=some (.lst (k.map V.int))→Q (.ref p) H2)→wpAny (model X.prog X.w) A (call f [u]) (EP X pins σ Q) (fun _ _=>False) s
theorem vals_refs:∀ {ks:List Addr}{us:List Value},Vals (ks.map V.ref) us→us=ks.map Value.ref
  | [],_,.nil=>rfl
  | _::_,_,.cons r t=>by
    rw [vals_refs t,List.map_cons]
    cases r
    rfl
theorem vals_intsA:∀ {ks:List Int}{us:List Value},Vals (ks.map V.int) us→IntsAre us ks
  | [],_,.nil=>.nil
  | _::_,_,.cons r t=>by
    obtain ⟨tk,rfl⟩:=r
    exact .cons _ tk (vals_intsA t)
def KeysAt (H:Hp) (kS:Addr) (ks:List Addr) (kz:List (List Int)):Prop:=H kS=some (.lst (ks.map V.ref))∧Paired (fun a k=>a≠kS∧H a=some (.lst (k.map V.int))) ks kz
theorem isort_zip {α β:Type}{ks:List α}{kz:List (List Int)}{us:List β}{kf:α→List Int}(h:ks.map kf=kz):(JM.isort (fun p:α×β=>kf p.1) (ks.zip us)).map (·.2)=(JM.isort (fun p:List Int×β=>p.1) (kz.zip us)).map (·.2):=by
  have e:=JM.isort_map (key:=fun p:α×β=>kf p.1) (key2:=fun p:List Int×β=>p.1) (fun p=>(kf p.1,p.2)) (ks.zip us) (fun _ _=>rfl)
  have e2:(ks.zip us).map (fun p=>(kf p.1,p.2))=kz.zip us:=by
    rw [←h,List.zip_map_left]
    rfl
  rw [e2] at e
  rw [←e,List.map_map]
  rfl
theorem isort_vals {kz:List (List Int)}{ys:List V}{us:List Value}(r:Vals ys us) (hl:kz.length=ys.length):Vals ((JM.isort (fun p:List Int×V=>p.1) (kz.zip ys)).map (·.2)) ((JM.isort (fun p:List Int×Value=>p.1) (kz.zip us)).map (·.2)):=by
  have e1:=JM.isort_map (key:=fun p:List Int×V×Value=>p.1) (key2:=fun p:List Int×V=>p.1) (fun p=>(p.1,p.2.1)) (kz.zip (ys.zip us)) (fun _ _=>rfl)
  have e2:=JM.isort_map (key:=fun p:List Int×V×Value=>p.1) (key2:=fun p:List Int×Value=>p.1) (fun p=>(p.1,p.2.2)) (kz.zip (ys.zip us)) (fun _ _=>rfl)
  have z1:(kz.zip (ys.zip us)).map (fun p=>(p.1,p.2.1))=kz.zip ys:=by
    have:(kz.zip (ys.zip us)).map (fun p=>(p.1,p.2.1))=kz.zip ((ys.zip us).map Prod.fst):=by
      rw [List.zip_map_right]
      rfl
    rw [this,List.map_fst_zip (by rw [r.length]; exact Nat.le_refl _)]
  have z2:(kz.zip (ys.zip us)).map (fun p=>(p.1,p.2.2))=kz.zip us:=by
    have:(kz.zip (ys.zip us)).map (fun p=>(p.1,p.2.2))=kz.zip ((ys.zip us).map Prod.snd):=by
      rw [List.zip_map_right]
      rfl
    rw [this,List.map_snd_zip (by rw [r.length]; exact Nat.le_refl _)]
  rw [z1] at e1
  rw [z2] at e2
  rw [←e1,←e2,List.map_map,List.map_map]
  have all:∀ p∈JM.isort (fun p:List Int×V×Value=>p.1) (kz.zip (ys.zip us)),RelV p.2.1 p.2.2:=fun p hp=>by
    have hm:=JM.isort_mem hp
    have hm2:=(List.of_mem_zip (a:=p.1) (b:=p.2) hm).2
    have go:∀ {ys:List V} {us:List Value},Vals ys us→∀ q∈ys.zip us,RelV q.1 q.2:=by
      intro ys us r
      induction r with
      | nil=>intro q hq; cases hq
      | cons h _ ih=>
        intro q hq
        rcases List.mem_cons.mp hq with rfl | hq
        · exact h
        · exact ih q hq
    exact go r p.2 hm2
  generalize JM.isort (fun p:List Int×V×Value=>p.1) (kz.zip (ys.zip us))=L at all
  induction L with
  | nil=>exact .nil
  | cons p L ih=>exact .cons (all p (by simp)) (ih fun q hq=>all q (by simp [hq]))
theorem Inv.adopt {D:Addr}{o:HO}{h':Heap}{t':Nat}(I:Inv X pins σ H s) (hf:FpOk X pins H D) (k:∀ b o,b≠D→s.heap.get? b=some o→h'.get? b=some o) (new:ObjOk X.prog X.w (upd H D o) h' D o):Inv X pins σ (upd H D o) { s with heap:=h',toks:=t' }:=by
  have hn:H D=none:=hf.1
  have one:∀ b,b∈[D]→b=D:=fun b hb=>List.mem_singleton.mp hb
  have ot:∀ b,b ∉ [D]→b≠D:=fun b hb z=>hb (by simp [z])
  have nit:∀ b u,H b=some u→b≠D:=fun b u e z=>by rw [z,hn] at e; cases e
  refine I.step (g':=s.gens) (d':=s.drawn) (ch:=[D]) (fun b hb=>by rw [one b hb]; exact ⟨hf.2.2.2.1,hf.2.1,hf.2.2.2.2.1,hf.2.2.2.2.2⟩) (fun b o _ _ hc e _=>k b o (ot b hc) e) (fun b o _ _ hc e _=>⟨o.slots,k b o (ot b hc) e⟩)
    (fun b o hc e n=>by rw [upd_ne (ot b hc)]; exact n) (fun b o hc e=>⟨o,k b o (ot b hc) e⟩) (fun b xs e=>by rw [upd_ne (nit b _ e)]; exact e) (fun b o u e=>by rw [upd_ne (nit b _ e)]; exact e) (fun b ps e=>⟨#[],by rw [upd_ne (nit b _ e),e]; simp⟩) (fun m hm=>?_) (fun b u e=>?_) I.bare
  · obtain ⟨o,es,ep,ho,r⟩:=hm
    exact ⟨o,es,ep,k _ o (Ne.symm hf.2.1) ho,r⟩
  · by_cases hb:b=D
    · subst hb
      rw [upd_same] at e
      cases e
      exact new
    · rw [upd_ne hb] at e
      refine (I.hok b u e).stay (fun c v hc q=>k c v ?_ q) (fun c q=>by rw [upd_ne (nit c _ q)]; exact q) fun c xs q=>by rw [upd_ne (nit c _ q)]; exact q
      rcases hc with z | z
      · rw [z]; exact hb
      · exact nit c _ z
def intsAt (H:Hp) (a:Addr):List Int:=match H a with
  | some (.lst xs)=>xs.map fun v=>match v with
    | .int i=>i
    | _=>0
  | _=>[]
theorem intsAt_is {H:Hp}{a:Addr}{k:List Int}(h:H a=some (.lst (k.map V.int))):intsAt H a=k:=by
  unfold intsAt
  rw [h]
  show (k.map V.int).map _=k
  rw [List.map_map]
  exact (List.map_congr_left fun _ _=>rfl).trans (List.map_id k)
theorem keys_map {H:Hp}{kS:Addr}:∀ {ks:List Addr}{kz:List (List Int)},Paired (fun a k=>a≠kS∧H a=some (.lst (k.map V.int))) ks kz→ks.map (intsAt H)=kz
  | _,_,.nil=>rfl
  | _,_,.cons r t=>by rw [List.map_cons,keys_map t,intsAt_is r.2]
theorem isort_short {α:Type}(key:α→List Int):∀ (l:List α),l.length<2→JM.isort key l=l
  | [],_=>rfl
  | [_],_=>rfl
  | _::_::_,h=>by simp at h; omega
section
variable {A:Around}{E:Value→Shared→Prop}{P:PySem.Fin→Shared→Prop}{D kS:Addr}{us:List Value}{ys:List V}{kz:List (List Int)}{ks:List Addr}{e1:Nat}{H0:Hp}
theorem tail_lists {st:SortSt}(I:Inv X ((D,seqObj "list" #[] e1)::pins) σ H s) (hf:FpOk X pins H D) (sm:Same H0 H) (n0:H0 kS=none) (n1:H0 D=none) (hK:KeysAt H kS ks kz) (rv:Vals ys us) (hn:ys.length≤1000) (hkz:kz.length=ys.length)
    (hfl:failedOf st=none) (ha:(arrOf st).toList=JM.isort (fun p:Keyed=>JS.kv (intsAt H) p.1) ((ks.map Value.ref).zip us))
    (h:∀ H' s',Inv X pins σ H' s'→Same H0 H'→H' D=some (.lst ((JM.isort (fun p:List Int×V=>p.1) (kz.zip ys)).map (·.2)))→P (.done (.ret .none)) s') :
    wpAny (model X.prog X.w) A (ksk_tail D false e1 (.ref kS) st) P E s:=by
  obtain ⟨hkS,pr⟩:=hK
  have big:(1000:Nat)<sizeLine:=by decide
  have nDk:D≠kS:=fun z=>by rw [←z,hf.1] at hkS; cases hkS
  have lk:ks.length=kz.length:=Paired.length pr
  have eks:ks.map (intsAt H)=kz:=keys_map pr
  have dpin:=I.pin (D,seqObj "list" #[] e1) (List.mem_append_right _ (.head _))
  have I0:Inv X pins σ H s:=I.pins_of fun p hp=>I.pin p (List.mem_append_right _ (.tail _ hp))
  obtain ⟨z,its,n,r,hl,eo⟩:=I0.lstM hkS
  have I1:Inv X pins σ (upd H kS (.lst [])) { s with heap:=s.heap.update kS (Obj.mapSeq fun _=>#[]),toks:=s.toks }:=I0.lset (its':=[]) (f:=fun _=>#[]) hkS eo rfl .nil (Nat.zero_le _)
  have dn:(s.heap.update kS (Obj.mapSeq fun _=>(#[]:Array Value))).get? D=some (seqObj "list" #[] e1):=(Heap.get?_update_other s.heap _ (Ne.symm nDk)).trans dpin.1
  have hout:((arrOf st).map (·.2))=(((JM.isort (fun p:List Int×Value=>p.1) (kz.zip us)).map (·.2))).toArray:=by
    apply Array.toList_inj.mp
    rw [Array.toList_map,ha]
    have e:=JM.isort_map (key:=fun p:Addr×Value=>intsAt H p.1) (key2:=fun p:Keyed=>JS.kv (intsAt H) p.1) (fun p=>(Value.ref p.1,p.2)) (ks.zip us) (fun _ _=>rfl)
    have e2:(ks.zip us).map (fun p=>(Value.ref p.1,p.2))=(ks.map Value.ref).zip us:=by
      rw [List.zip_map_left]
      rfl
    rw [e2] at e
    rw [←e,List.map_map,←isort_zip eks]
    rfl
  have hsz:((JM.isort (fun p:List Int×Value=>p.1) (kz.zip us)).map (·.2)).length≤1000:=by
    have:=(isort_vals (kz:=kz) rv hkz).length
    have l2:=JM.isort_length (key:=fun p:List Int×Value=>p.1) (kz.zip us)
    rw [List.length_map,l2,List.length_zip]
    omega
  unfold ksk_tail
  try dsimp only
  refine wpAny_bind (listUpdate_at eo rfl ?_ (by rw [List.size_toArray]; rw [List.length_map] at hl; omega) (Nat.zero_le _))
  refine wpAny_bind (wpAny_letGo ?_)
  refine wpAny_bind (seqEpoch_at dn rfl ?_)
  simp only [Bool.false_eq_true,if_false]
  rw [hout]
  refine wpAny_bind (listUpdate_at dn rfl ?_ (Nat.zero_le _) (by show (List.toArray _).size≤_; rw [List.size_toArray]; omega))
  rw [hfl]
  simp only [bne_self_eq_false,Bool.false_eq_true,if_false]
  have hf1:FpOk X pins (upd H kS (.lst [])) D:=⟨by rw [upd_ne nDk]; exact hf.1,hf.2⟩
  have q:=get?_update_seq dn fun _=>(((JM.isort (fun p:List Int×Value=>p.1) (kz.zip us)).map (·.2))).toArray
  have I2:=I1.adopt (t':=s.toks) (o:=.lst ((JM.isort (fun p:List Int×V=>p.1) (kz.zip ys)).map (·.2))) hf1 (fun b o hb e=>(Heap.get?_update_other _ (Obj.mapSeq fun _=>(((JM.isort (fun p:List Int×Value=>p.1) (kz.zip us)).map (·.2))).toArray) (Ne.symm hb)).trans e)
    (show ObjOk X.prog X.w _ _ D (.lst _) from ⟨by rw [(isort_vals (kz:=kz) rv hkz).length]; omega,_,_,isort_vals rv hkz,q⟩)
  refine wpAny_pure (h _ _ I2 (fun b o e=>?_) upd_same)
  rw [upd_ne (ne_of_none e n1),upd_ne (ne_of_none e n0)]
  exact sm _ _ e
theorem end_lists (I:Inv X ((D,seqObj "list" #[] e1)::pins) σ H s) (hf:FpOk X pins H D) (sm:Same H0 H) (n0:H0 kS=none) (n1:H0 D=none) (hK:KeysAt H kS ks kz) (rv:Vals ys us) (hn:ys.length≤1000) (hkz:kz.length=ys.length) (hu:A.units<cLine)
    (h:∀ H' s',Inv X pins σ H' s'→Same H0 H'→H' D=some (.lst ((JM.isort (fun p:List Int×V=>p.1) (kz.zip ys)).map (·.2)))→P (.done (.ret .none)) s') :
    wpAny (model X.prog X.w) A (ksk_end D false us.toArray e1 (.ref kS) (ks.map Value.ref).toArray) P E s:=by
  have lu:=rv.length
  have lk:ks.length=kz.length:=Paired.length hK.2
  have I0:Inv X pins σ H s:=I.pins_of fun p hp=>I.pin p (List.mem_append_right _ (.tail _ hp))
  have obj:∀ a∈ks,∃ (its:List Value) (n:Nat),s.heap.get? a=some (seqObj "list" its.toArray n)∧IntsAre its (intsAt H a):=by
    have go:∀ {ks:List Addr} {kz:List (List Int)},Paired (fun a k=>a≠kS∧H a=some (.lst (k.map V.int))) ks kz→∀ a∈ks,∃ k:List Int,H a=some (.lst (k.map V.int)):=by
      intro ks kz p
      induction p with
      | nil=>intro a ha; cases ha
      | cons r _ ih=>
        intro a ha
        rcases List.mem_cons.mp ha with rfl | ha
        · exact ⟨_,r.2⟩
        · exact ih a ha
    intro a ha
    obtain ⟨k,e⟩:=go hK.2 a ha
    obtain ⟨z,its,n,r,hl,eo⟩:=I0.lstM e
    exact ⟨its,n,eo,by rw [intsAt_is e]; exact vals_intsA r⟩
  unfold ksk_end
  try dsimp only
  simp only [Bool.false_eq_true,if_false]
  by_cases h2:us.toArray.size<2
  · rw [if_pos h2,if_pos h2]
    rw [List.size_toArray] at h2
    refine wpAny_bind (wpAny_pure ?_)
    rw [StateT.run_pure]
    refine wpAny_bind (wpAny_pure ?_)
    try dsimp only
    refine tail_lists (st:=SortSt.mk' general' ((ks.map Value.ref).toArray.zip us.toArray) #[] 7 none) I hf sm n0 n1 hK rv hn hkz rfl ?_ h
    have e:((ks.map Value.ref).toArray.zip us.toArray).toList=(ks.map Value.ref).zip us:=by simp
    show ((ks.map Value.ref).toArray.zip us.toArray).toList=_
    rw [e,isort_short]
    rw [List.length_zip]
    omega
  · rw [if_neg h2,if_neg h2]
    rw [List.size_toArray] at h2
    refine wpAny_bind (PySem.W.kas_kind (T:=.type "list") (by rw [List.length_map]; omega) (fun v hv=>?_) (by decide) (by decide) ?_)
    · obtain ⟨a,ha,rfl⟩:=List.mem_map.mp hv
      obtain ⟨its,n,eo,_⟩:=obj a ha
      exact (show PySem.W.Looks (model X.prog X.w) s.heap (typeOf (.ref a)) (seqObj "list" its.toArray n).cls from (PySem.W.Looks.ld eo).andThen .now)
    refine wpAny_bind (wpAny_mono (JS.runs_lists (kz:=intsAt H) (kd:=oneType') (Q:=fun st=>failedOf st=none∧(arrOf st).toList=JM.isort (fun p:Keyed=>JS.kv (intsAt H) p.1) ((ks.map Value.ref).zip us)) (by omega) (by omega) (fun a ha b hb=>?_) (fun st a1 a2=>⟨a1,a2⟩)) ?_ fun _ _ e=>e)
    · intro R E' hR
      obtain ⟨ia,na,ea,ha2⟩:=obj a ha
      obtain ⟨ib,nb,eb,hb2⟩:=obj b hb
      exact JS.keyLt_lists hu ea eb ha2 hb2 hR
    · rintro ⟨⟨⟩,st'⟩ s' ⟨rfl,hfl,ha⟩
      try dsimp only
      exact tail_lists I hf sm n0 n1 hK rv hn hkz hfl ha h
end
end
section
variable {X:Cx}{pins:List (Addr×Obj)}{σ:St}{H:Hp}{s:Shared}
theorem keys_push {kS p:Addr}{ks:List Addr}{kz:List (List Int)}{k:List Int}{H H2:Hp}(hK:KeysAt H kS ks kz) (sm:Same H H2) (hp:H p=none) (e:H2 p=some (.lst (k.map V.int))):KeysAt (upd H2 kS (.lst (ks.map V.ref++[V.ref p]))) kS (ks++[p]) (kz++[k]):=by
  have ne:p≠kS:=fun z=>by rw [z,hK.1] at hp; cases hp
  refine ⟨by rw [upd_same,List.map_append]; rfl,?_⟩
  have go:∀ {ks:List Addr} {kz:List (List Int)},Paired (fun a k=>a≠kS∧H a=some (.lst (k.map V.int))) ks kz→Paired (fun a k=>a≠kS∧upd H2 kS (.lst (ks.map V.ref++[V.ref p])) a=some (.lst (k.map V.int))) ks kz:=fun q=>by
    refine Paired.mapP q fun a k r=>⟨r.1,by rw [upd_ne r.1]; exact sm _ _ r.2⟩
  have app:∀ {G:Addr→List Int→Prop} {l:List Addr} {m:List (List Int)} {a:Addr} {b:List Int},Paired G l m→G a b→Paired G (l++[a]) (m++[b]):=by
    intro G l m a b q h
    induction q with
    | nil=>exact .cons h .nil
    | cons r _ ih=>exact .cons r ih
  exact app (Paired.mapP hK.2 fun a k r=>⟨r.1,by rw [upd_ne r.1]; exact sm _ _ r.2⟩) ⟨ne,by rw [upd_ne ne]; exact e⟩
theorem sort_tree {A:Around}{E:Value→Shared→Prop}{P:PySem.Fin→Shared→Prop}{D q:Addr}{n:Nat}{us:List Value}{ys:List V}{kz:List (List Int)}{pf:List (Addr×Obj)}(I:Inv X pins σ H s) (hD:s.heap.get? D=some (seqObj "list" us.toArray n)) (hf:FpOk X pins H D)
    (rv:Vals ys us) (hn:ys.length≤1000) (hkz:kz.length=ys.length) (hu:A.units<cLine) (hpf:∀ p∈pf,p∈pins) (hk:∀ (i:Nat) (y:V) (k:List Int),ys[i]?=some y→kz[i]?=some k→KeyFn X pf σ H A (.ref q) y k)
    (h:∀ H' s',Inv X pins σ H' s'→Same H H'→H' D=some (.lst ((JM.isort (fun p:List Int×V=>p.1) (kz.zip ys)).map (·.2)))→P (.done (.ret .none)) s') :
    wpAny (model X.prog X.w) A (ksk_tree D (.ref q) false) P E s:=by
  have lu:=rv.length
  have big:(1001:Nat)<sizeLine:=by decide
  have hDlt:D<s.heap.objs.size:=Heap.lt_size hD
  obtain ⟨e1,ho1⟩:∃ e1,(s.heap.update D (Obj.mapSeq fun _=>(#[]:Array Value))).get? D=some (seqObj "list" #[] e1):=⟨_,get?_update_seq hD fun _=>#[]⟩
  have hkS:((s.heap.update D (Obj.mapSeq fun _=>(#[]:Array Value))).push (seqObj "tuple" us.toArray 0)).objs.size=s.heap.objs.size+1:=by rw [size_push',Heap.size_update]
  unfold ksk_tree
  refine wpAny_bind (listItems_at hD rfl ?_)
  refine wpAny_bind (listUpdate_at hD rfl ?_ (by rw [List.size_toArray]; omega) (Nat.zero_le _))
  refine wpAny_bind (seqEpoch_at ho1 rfl ?_)
  refine wpAny_bind (wpAny_newTuple ?_ (by show us.length≤_; omega))
  refine wpAny_bind (wpAny_newList ?_ (Nat.zero_le _))
  refine wpAny_holding ?_
  show wpAny _ _ _ _ _ { s with heap:=((s.heap.update D (Obj.mapSeq fun _=>(#[]:Array Value))).push (seqObj "tuple" us.toArray 0)).push (seqObj "list" #[] 0) }
  have kS0:H (s.heap.objs.size+1)=none:=I.hok.fresh (Nat.le_succ _)
  have kb:∀ b o,b ∉ [D]→s.heap.get? b=some o→(((s.heap.update D (Obj.mapSeq fun _=>(#[]:Array Value))).push (seqObj "tuple" us.toArray 0)).push (seqObj "list" #[] 0)).get? b=some o:=fun b o hb e=>
    Heap.get?_push_of_some _ (Heap.get?_push_of_some _ ((Heap.get?_update_other s.heap _ (fun z=>hb (by simp [z]))).trans e))
  have newS:(((s.heap.update D (Obj.mapSeq fun _=>(#[]:Array Value))).push (seqObj "tuple" us.toArray 0)).push (seqObj "list" #[] 0)).get? (s.heap.objs.size+1)=some (seqObj "list" #[] 0):=by
    rw [←hkS]
    exact Heap.get?_push_size _ rfl
  have I1:Inv X pins σ (upd H (s.heap.objs.size+1) (.lst [])) { s with heap:=((s.heap.update D (Obj.mapSeq fun _=>(#[]:Array Value))).push (seqObj "tuple" us.toArray 0)).push (seqObj "list" #[] 0) }:=
    I.turnedNew (t':=s.toks) (ch:=[D]) kb (fun b hb=>by rw [List.mem_singleton.mp hb]; exact hf) (Nat.le_succ _) ⟨Nat.zero_le _,[],0,.nil,newS⟩
  have nD1:D≠s.heap.objs.size+1:=Nat.ne_of_lt (Nat.lt_succ_of_lt hDlt)
  have I2:Inv X ((D,seqObj "list" #[] e1)::pins) σ (upd H (s.heap.objs.size+1) (.lst [])) { s with heap:=((s.heap.update D (Obj.mapSeq fun _=>(#[]:Array Value))).push (seqObj "tuple" us.toArray 0)).push (seqObj "list" #[] 0) }:=I1.pins_of fun p hp=>by
    rcases List.mem_cons.mp hp with rfl | hp
    · exact ⟨Heap.get?_push_of_some _ (Heap.get?_push_of_some _ ho1),by show upd H _ _ D=none; rw [upd_ne nD1]; exact hf.1,hf.2.1,hf.2.2.1,fun v z=>nomatch z⟩
    · exact I1.pin p (List.mem_append_right _ hp)
  rw [hkS]
  generalize hs3:({ s with heap:=((s.heap.update D (Obj.mapSeq fun _=>(#[]:Array Value))).push (seqObj "tuple" us.toArray 0)).push (seqObj "list" #[] 0) }:Shared)=s3 at I2
  clear I1 kb newS hs3
  generalize s.heap.objs.size+1=kS at kS0 nD1 I2
  unfold ksk_rest
  refine wpAny_bind (wpAny_rule ?_)
  first
    | rw [List.forIn_toArray]
    | (rw [←Array.forIn_toList]; simp only [List.toList_toArray])
    | rw [←Array.forIn_toList]
  refine wpAny_bind (ksk_fold (fun i s'=>∃ (H':Hp) (ks:List Addr),Inv X ((D,seqObj "list" #[] e1)::pins) σ H' s'∧Same H H'∧KeysAt H' kS ks (kz.take i)) us 0 s3
    ⟨_,[],I2,fun b o e=>by rw [upd_ne (ne_of_none e kS0)]; exact e,upd_same,by rw [List.take_zero]; exact .nil⟩ ?step ?done)
  case step=>
    rintro j x s' hx ⟨H',ks,I',sm,hK⟩
    simp only [Nat.zero_add] at hK ⊢
    have hj:j<us.length:=(List.getElem?_eq_some_iff.mp hx).1
    have hy:ys[j]?=some (ys[j]'(by omega)):=List.getElem?_eq_getElem (by omega)
    have hkj:kz[j]?=some (kz[j]'(by omega)):=List.getElem?_eq_getElem (by omega)
    obtain ⟨u,hu2,ru⟩:=rv.get hy
    rw [hx] at hu2
    cases hu2
    refine wpAny_bind (wpAny_attempt (wpAny_mono (hk j _ _ hy hkj _ s' H' x (fun v H2=>∃ p,v=.ref p∧H' p=none∧Same H' H2∧H2 p=some (.lst ((kz[j]'(by omega)).map V.int))) (fun p hp=>.tail _ (hpf p hp)) I' sm ru fun p H2 a1 a2 a3=>⟨p,rfl,a1,a2,a3⟩) (fun v s'' he=>?_) fun _ _ hF=>hF.elim))
    obtain ⟨v',H2,I3,rel,p,rfl,hp,s2,e⟩:=he
    cases rel
    try dsimp only
    have hkS2:=s2 _ _ hK.1
    obtain ⟨z,its,n3,r3,hl3,eo⟩:=I3.lstM hkS2
    have lks:ks.length=(kz.take j).length:=Paired.length hK.2
    rw [List.length_take] at lks
    rw [List.length_map] at hl3
    refine wpAny_bind (listUpdate_at eo rfl ?_ (by rw [List.size_toArray]; omega) (by rw [Array.size_push,List.size_toArray]; omega))
    refine wpAny_pure ⟨rfl,_,ks++[p],I3.lset (t':=s''.toks) (its':=its++[Value.ref p]) (ys:=ks.map V.ref++[V.ref p]) hkS2 eo (by simp) (r3.append (.cons rfl .nil)) (by rw [List.length_append,List.length_map,List.length_singleton]; omega),fun b o z=>?_,?_⟩
    · rw [upd_ne (ne_of_none z kS0)]
      exact s2 _ _ (sm _ _ z)
    · rw [List.take_add_one,hkj]
      exact keys_push hK s2 hp e
  case done=>
    rintro s' ⟨H',ks,I',sm,hK⟩
    have ek:kz.take (0+us.length)=kz:=List.take_of_length_le (by omega)
    rw [ek] at hK
    have I0:Inv X pins σ H' s':=I'.pins_of fun p hp=>I'.pin p (List.mem_append_right _ (.tail _ hp))
    obtain ⟨z,its,n3,r3,hl3,eo⟩:=I0.lstM hK.1
    have ei:=vals_refs r3
    subst ei
    try dsimp only
    refine wpAny_bind (listItems_at eo rfl ?_)
    have hf':FpOk X pins H' D:=⟨(I'.pin (D,seqObj "list" #[] e1) (List.mem_append_right _ (.head _))).2.1,hf.2⟩
    exact end_lists I' hf' sm kS0 hf.1 hK rv hn hkz hu h
theorem sorted_key {l q:Addr}{ys:List V}{kz:List (List Int)}{pf:List (Addr×Obj)}{Q:VK}(I:Inv X pins σ H s) (hl:SqL X.K H l ys) (hn:ys.length≤1000) (hkz:kz.length=ys.length) (hpf:∀ p∈pf,p∈pins) (hu:X.A.units+2<cLine)
    (hk:∀ (i:Nat) (y:V) (k:List Int),ys[i]?=some y→kz[i]?=some k→KeyFn X pf σ H X.A.in1.in1 (.ref q) y k)
    (h:∀ D H',H D=none→Same H H'→H' D=some (.lst ((JM.isort (fun p:List Int×V=>p.1) (kz.zip ys)).map (·.2)))→Q (.ref D) H') :
    wpAny (model X.prog X.w) X.A (call (.builtin "sorted") [.ref l] [(Str.ofString "key",.ref q)]) (EP X pins σ Q) X.xe s:=by
  obtain ⟨us,rv,pl,hz⟩:=I.list hl
  have lu:=rv.length
  have big:(1001:Nat)<sizeLine:=by decide
  refine call_function_entry_kw kind_sorted plain_sorted entry_sorted (ksk_s1 _ _) ?_
  unfold Builtin.«sorted»
  refine wpAny_bind (m:=checkCount "sorted" 1 1 _) (wpAny_pure ?_)
  refine wpAny_bind (collect_list pl.isList ?_ (by omega))
  refine wpAny_bind (wpAny_newList ?_ (by omega))
  have hsz:((s.heap.push (seqObj "list" #[] 0)).update s.heap.objs.size (Obj.mapSeq (·++us.toArray))).objs.size=s.heap.objs.size+1:=by
    rw [Heap.size_update,size_push']
  have hoL:(((s.heap.push (seqObj "list" #[] 0)).update s.heap.objs.size (Obj.mapSeq (·++us.toArray))).push (seqObj "list" us.toArray 0)).get? (s.heap.objs.size+1)=some (seqObj "list" us.toArray 0):=by
    rw [←hsz]; exact Heap.get?_push_size _ rfl
  have keep:∀ b o,s.heap.get? b=some o→(((s.heap.push (seqObj "list" #[] 0)).update s.heap.objs.size (Obj.mapSeq (·++us.toArray))).push (seqObj "list" us.toArray 0)).get? b=some o:=fun b o q=>
    Heap.get?_push_of_some _ ((Heap.get?_update_other _ _ (Nat.ne_of_gt (Heap.lt_size q))).trans (Heap.get?_push_of_some _ q))
  show wpAny _ _ _ _ _ { s with heap:=((s.heap.push (seqObj "list" #[] 0)).update s.heap.objs.size (Obj.mapSeq (·++us.toArray))).push (seqObj "list" us.toArray 0) }
  rw [hsz]
  refine wpAny_bind (wpAny_holding (wpAny_call_entry_kw slot_list_sort ⟨_,hoL,rfl⟩ entry_list_sort ?body (ksk_l1 _ _)))
  case body=>
    have hfr:H (s.heap.objs.size+1)=none:=I.hok.fresh (Nat.le_succ _)
    show wpAny (model X.prog X.w) X.A.in1.in1 (Builtin.«list.sort» ⟨[.ref (s.heap.objs.size+1)],[(Str.ofString "key",.ref q)]⟩) _ _ _
    rw [ksk_t1]
    refine sort_tree (pf:=pf) (I.kept (t':=s.toks) keep) hoL (I.fpOk (Nat.le_succ _) hfr) rv hn hkz hu hpf hk fun H' s' I' sm e=>⟨_,rfl,?_⟩
    exact wpAny_pure ⟨_,rfl,⟨.ref (s.heap.objs.size+1),H',I',rfl,h _ H' hfr sm e⟩⟩
end
open PySem.W (WData Codec OpenSpec Well WellAll ReadsW ReadsAllW)
theorem spec_callT {P:Program}{w:World}{K:PySem.W.Frag}{mg mb:Str→Option Value}{CX:CXT}{k:Nat}{fa Pt:Addr}{fd:FuncData}{ps:List Str}{sp:Sp}{s₁:Shared}{vals:List Value}{ds:List WData}{R:PySem.W.WRecords}{cl:Str→Option Addr}{d0:WData}
    (KX:K.In s₁.heap) (hns:s₁.heap.Ns mainGlobals mg) (hb:s₁.heap.Ns builtinsNs mb) (hbb:∀ x:Str,x ≠ "__name__" → mb x=bootBuiltins x) (hlim:s₁.heap.NoLimit) (hg:s₁.gens=#[])
    (hwl:WellAll w.params s₁.heap vals ds) (hpl:plWs ds=true) (hwt:∀ d∈ds,d.weight≤1048576) (hr:Room k callerA) (hPt:s₁.heap.get? Pt=some (PySem.W.tabObj #[])) (hct:isCodeTable s₁.heap Pt) (hnt:PySem.W.noTabs K=true)
    (F:∀ base:Heap,K.In base→base.Ns mainGlobals mg→(∀ b o,s₁.heap.get? b=some o→o.cls≠.none→o.cls≠.type "list" → o.cls≠.type "tuple" → base.get? b=some o)→FnOk P w K mg base CX k fa fd ps sp)
    (hbind:∀ (s:Shared) (us:List Value),us.length=ps.length→BindsTo s fd ⟨us,[]⟩ (ps.zip us)) (hlen:ds.length=ps.length)
    (hsp:∀ (H H1:Hp) (xs:List V),OnlyF H→DwAll K H xs ds→Same H H1→H1 Pt=some (.tbl #[])→sp xs H1 (fun v H'=>Dw K H' v d0) fun _ _ _=>False)
    (hCX:∀ H e s',CX [] H s₁ (fun _ _ _=>False) e s'→False) :
    codeAny (model P w) callerA (.call (.ref fa) ⟨vals,[]⟩) (fun r s'=>∃ u as,r=.ok (.ret u)∧ReadsW R cl s'.heap u d0 as∧OldK s₁.heap s'.heap∧s'.os=s₁.os∧AllBare s'.gens) s₁:=by
  obtain ⟨A,ho,ar⟩:=area_all ds vals hwl hpl hwt
  have hO:OnlyF (argH K s₁.heap A):=argH_only ar
  have hok0:HOk P w (argH K s₁.heap A) s₁.heap:=argH_ok ar
  have hS:=dw_all KX ar ds vals hwl hpl ho
  have hV:=vals_toV ho
  have hK0:∀ b u,argH K s₁.heap A b=some u→K.lookup b=none:=fun b u q=>(argH_is ar q).1
  have seqA:∀ {b:Addr} {o:Obj},s₁.heap.get? b=some o→(o.cls≠.type "list" ∧ o.cls≠.type "tuple")→argH K s₁.heap A b=none:=fun {b o} e d=>by
    cases q:argH K s₁.heap A b with
    | none=>rfl
    | some u=>
      obtain ⟨_,vs,_,_,⟨e2,_⟩ | ⟨e2,_⟩⟩:=argH_is ar q
      · rw [e2] at e
        cases e
        first | exact absurd rfl d.1 | exact absurd rfl d.2
      · rw [e2] at e
        cases e
        first | exact absurd rfl d.2 | exact absurd rfl d.1
  have noA:∀ {b:Addr} {o:Obj} {es:Array DictEntry} {ep:Nat},s₁.heap.get? b=some o→o.data=.dict es ep→argH K s₁.heap A b=none:=fun {b o es ep} e d=>by
    cases q:argH K s₁.heap A b with
    | none=>rfl
    | some u=>
      obtain ⟨_,vs,_,_,⟨e2,_⟩ | ⟨e2,_⟩⟩:=argH_is ar q
      · rw [e2] at e
        cases e
        have d':Data.seq vs.toArray _=Data.dict es ep:=d
        cases d'
      · rw [e2] at e
        cases e
        have d':Data.seq vs.toArray _=Data.dict es ep:=d
        cases d'
  have hP0:argH K s₁.heap A Pt=none:=seqA hPt ⟨(fun z=>by cases z),(fun z=>by cases z)⟩
  generalize argH K s₁.heap A=H0 at hO hok0 hS hK0 noA hP0 seqA
  have sm:Same H0 (upd H0 Pt (.tbl #[])):=fun b o e=>by rw [upd_ne (ne_of_none e hP0)]; exact e
  have hok:HOk P w (upd H0 Pt (.tbl #[])) s₁.heap:=fun b o e=>by
    by_cases z:b=Pt
    · rw [z,upd_same] at e
      cases e
      rw [z]
      exact hPt
    · rw [upd_ne z] at e
      exact (hok0 b o e).stay (fun _ _ _ q=>q) (fun c q=>sm _ _ q) fun c xs q=>sm _ _ q
  have hK:∀ b u,upd H0 Pt (.tbl #[]) b=some u→K.lookup b=none:=fun b u q=>by
    by_cases z:b=Pt
    · cases e:K.lookup b with
      | none=>rfl
      | some o=>
        have e2:=KX b o e
        rw [z,hPt] at e2
        have h2:=List.all_eq_true.mp hnt (b,o) (PySem.W.mem_of_lookupK e)
        cases e2
        exact absurd (show false=true from h2) Bool.false_ne_true
    · rw [upd_ne z] at q
      exact hK0 b u q
  have noA1:∀ {b:Addr} {o:Obj} {es:Array DictEntry} {ep:Nat},s₁.heap.get? b=some o→o.data=.dict es ep→upd H0 Pt (.tbl #[]) b=none:=fun {b o es ep} e d=>by
    have z:b≠Pt:=fun z=>by rw [z,hPt] at e; cases e; cases d
    rw [upd_ne z]
    exact noA e d
  have hS1:=hsp H0 _ _ hO hS sm upd_same
  have hH1:∀ b,upd H0 Pt (.tbl #[]) b=none∨b=Pt∨∃ o u,upd H0 Pt (.tbl #[]) b=some (.frz o u):=fun b=>by
    by_cases z:b=Pt
    · exact .inr (.inl z)
    · rw [upd_ne z]
      rcases hO b with q | ⟨o,u,q⟩
      · exact .inl q
      · exact .inr (.inr ⟨o,u,q⟩)
  have hPH:upd H0 Pt (.tbl #[]) Pt=some (.tbl #[]):=upd_same
  have seqB:∀ b o,s₁.heap.get? b=some o→o.cls≠.none→o.cls≠.type "list" → o.cls≠.type "tuple" → upd H0 Pt (.tbl #[]) b=none:=fun b o e n1 n2 n3=>by
    have z:b≠Pt:=fun z=>by rw [z,hPt] at e; cases e; exact n1 rfl
    rw [upd_ne z]
    exact seqA e ⟨n2,n3⟩
  generalize upd H0 Pt (.tbl #[])=H at hok hK noA1 hS1 hH1 hPH seqB
  have base_of:∀ {b:Addr} {o:Obj},s₁.heap.get? b=some o→H b=none→(hidT s₁.heap H).get? b=some o:=fun e n=>hidT_get e n
  have nsK:∀ {b:Addr} {m:Str→Option Value},s₁.heap.Ns b m→(hidT s₁.heap H).Ns b m:=fun {b m} ⟨o,es,ep,e,d,r⟩=>⟨o,es,ep,base_of e (noA1 e d),d,r⟩
  have nK:∀ b o,K.lookup b=some o→H b=none:=fun b o e=>by
    cases q:H b with
    | none=>rfl
    | some u=>
      rw [hK b u q] at e
      cases e
  have hKb:K.In (hidT s₁.heap H):=fun b o e=>base_of (KX b o e) (nK b o e)
  have hM:Mod K mg (hidT s₁.heap H):=⟨hKb,nsK hns,⟨mb,nsK hb,hbb⟩,let ⟨mc,h1,h2⟩:=hlim; ⟨mc,nsK h1,h2⟩⟩
  have e0:Env0 P w K mg (hidT s₁.heap H) callerA [] s₁ H:=⟨rfl,hM,fun b o e=>of_hidT e,Nat.le_of_eq (hidT_size _ _),trivial,fun b hb=>absurd (show b∈([]:List Addr) from hb) (by simp),hok,.of_eq hg⟩
  have hl:vals.length=ps.length:=by rw [wellAll_len hwl]; exact hlen
  refine codeAny_mono ((F _ hKb (nsK hns) fun b o e n1 n2 n3=>base_of e (seqB b o e n1 n2 n3)).run callerA [] s₁ H ⟨vals,[]⟩ vals (vals.map toV) _ _ hr e0 (hbind s₁ vals hl) hV hS1) fun r s' x=>?_
  cases r with
  | error e=>exact (hCX H e s' x).elim
  | ok fl=>
    cases fl with
    | next=>exact False.elim x
    | brk=>exact False.elim x
    | cont=>exact False.elim x
    | ret u=>
      obtain ⟨v,H',os,bare,un,hok',r',q⟩:=x
      have kept:∀ b o,b≠Pt→s₁.heap.get? b=some o→s'.heap.get? b=some o:=fun b o nb e=>by
        rcases hH1 b with z | z | ⟨ob,u3,z⟩
        · exact un.keep b o e z (by intro z; exact absurd (show b∈([]:List Addr) from z) (by simp)) (by simp)
        · exact absurd z nb
        · have z2:=un.frzs b ob _ z
          obtain ⟨e1,_⟩:=hok b _ z
          obtain ⟨e2,_⟩:=hok' b _ z2
          rw [e] at e1
          cases e1
          exact e2
      have KX':K.In s'.heap:=fun b o e=>kept b o (fun z=>by have:=nK b o e; rw [z,hPH] at this; cases this) (KX b o e)
      obtain ⟨more,hP'⟩:=un.tbls Pt #[] hPH
      have eP:s'.heap.get? Pt=some { cls:=.none,data:=.fields (#[]++more) }:=hok' Pt _ hP'
      obtain ⟨as,hrd⟩:=Dw.reads (R:=R) (cl:=cl) hok' KX' d0 v u q r'
      refine ⟨u,as,rfl,hrd,⟨fun b o e=>?_,fun b o e=>?_⟩,os,bare⟩
      · by_cases z:b=Pt
        · rw [z] at e ⊢
          rw [hPt] at e
          cases e
          exact .inr (.inl ⟨hct,rfl,#[],more,rfl,eP⟩)
        · exact .inl (kept b o z e)
      · by_cases z:b=Pt
        · exact ⟨_,by rw [z]; exact eP⟩
        · exact ⟨o,kept b o z e⟩
theorem walk_specT {r:OpenSpec}{k:Nat}{q:Program}{loose:List Str}{XP:(Str→Option Value)→Heap→Prop}{YP:World→Heap→Prop}{d:DefRec}{K:Params→PySem.W.Frag}{CX:CXT}{ps:List Str}{sp:PySem.W.Frag→Addr→Sp}(x:Str)
    (hx:((recsOf q).find? fun e=>e.name==x).isSome=true) (hwell:r.wellSaid=true) (hdf:d.params.defaults=[]) (hlen:r.args.length=ps.length) (hr:Room k callerA)
    (hY:∀ (w:World) (h:Heap),YP w h→(K w.params).In h)
    (F:∀ (w:World) (mg:Str→Option Value) (fa:Addr) (h:Heap),YP w h→(K w.params).In h→h.Ns mainGlobals mg→mg d.name=some (.ref fa)→
      PySem.W.noTabs (K w.params)=true∧∀ (cc Pt:Addr),(∃ a o fd,mg x=some (.ref a)∧h.get? a=some o∧o.data=.func fd∧fd.code=.ref cc)→
      ∃ fd:FuncData,(∀ (s:Shared) (us:List Value),us.length=ps.length→BindsTo s fd ⟨us,[]⟩ (ps.zip us))∧
        ∀ base:Heap,(K w.params).In base→base.Ns mainGlobals mg→LamAt base mg cc Pt→FnOk r.prog w (K w.params) mg base CX k fa fd ps (sp (K w.params) Pt))
    (hsp:∀ (K:PySem.W.Frag) (Pt:Addr) (H H1:Hp) (xs:List V) (a:Codec.denoteAll r.args),OnlyF H→Codec.withinAll r.args a=true→Codec.app r.args r.asked a=true→DwAll K H xs (Codec.encAll r.args a)→Same H H1→H1 Pt=some (.tbl #[])→
      sp K Pt xs H1 (fun v H'=>Dw K H' v (r.ret.enc (Codec.app r.args r.f a))) fun _ _ _=>False)
    (hCX:∀ (H:Hp) (s:Shared) (e:Value) (s':Shared),CX [] H s (fun _ _ _=>False) e s'→False) :
    PySem.W.WalkOS q loose XP YP r d [] (fun f vs=>PySem.call f vs):=by
  intro w s_0 s₁ mg mb G Y fa o pm cd doc dV kV ho hd hcd hD hmg hg args vals as hpre hlay hrd hwl hlo
  obtain ⟨a,e1,e2⟩:=PySem.W.os_pre_some hpre
  obtain ⟨e3,hwi⟩:=Codec.encAll_of_decAll r.args args a e1
  subst e3
  have KX:=hY w _ Y
  obtain ⟨dm,hdm⟩:=Option.isSome_iff_exists.mp hx
  have hn:dm.name=x:=beq_iff_eq.mp (List.find?_some (p:=fun e:DefRec=>e.name==x) hdm)
  obtain ⟨a',o',fd',cc,Pt,t1,t2,t3,t4,t5,t6⟩:=G.T.tab dm (List.mem_of_find?_eq_some hdm)
  rw [hn] at t1
  obtain ⟨hnt,F2⟩:=F w mg fa _ Y KX G.T.g hmg
  obtain ⟨fd,hb,hF⟩:=F2 cc Pt ⟨a',o',fd',t1,t2,t3,t4⟩
  have hhd:=PySem.W.CodeHd.of t5 t6
  refine PySem.W.enter_call (codeAny_mono (spec_callT (R:=[]) (cl:=classAt s_0.heap) (Pt:=Pt) (d0:=r.ret.enc (Codec.app r.args r.f a)) KX G.T.g G.T.b G.T.builtins G.T.nolimit hg hwl (pl_encAll _ _) (layable_weight hlay) hr t6.2 t6.isCodeTable hnt (fun base h1 h2 h3=>hF base h1 h2 ⟨?_,?_⟩) hb (by rw [encAll_len]; exact hlen)
    (fun H H1 xs hO hS sm hP=>hsp _ Pt H H1 xs a hO hwi e2 hS sm hP) fun H e s'=>hCX H s₁ e s') fun r' s' hq=>?_)
  · obtain ⟨oc,vs,file,tf,flags,tg,inF,text,tt,f1,f2,rest⟩:=hhd
    exact ⟨oc,vs,file,tf,flags,tg,inF,text,tt,h3 _ _ f1 (by rw [f2]; intro z; cases z) (by rw [f2]; decide) (by rw [f2]; decide),f2,rest⟩
  · obtain ⟨bm,ob,b1,b2,b3,b4,b5,b6⟩:=G.T.bmain
    refine ⟨bm,ob,b1,b2,fun z=>?_,h3 _ _ b3 (by rw [b4]; intro z; cases z) (by rw [b4]; decide) (by rw [b4]; decide),b4,b5,b6⟩
    obtain ⟨o2,es,ep,e,hd2,_⟩:=G.T.g
    rw [z,e] at b3
    cases b3
    rw [hd2] at b6
    cases b6
  · obtain ⟨u,as',rfl,h1,h2,h3,h4⟩:=hq
    exact ⟨.inl ⟨u,_,as',rfl,fun _=>rfl,h1,(OpenSpec.post_iff hwell hwi _ _).mpr rfl,fun z=>Bool.noConfusion (show false=true from z)⟩,h2,h3,h4⟩
end L2
end
section
namespace Jd
open PySem PySem.Spec PyProof.Rows L2
def top (i:Nat):Stmt:=PySem.Challenge.pw_tabulreports_s03_paper.main.body.getD i (.Pass ⟨0,0,0,0⟩)
abbrev sInitP:Stmt:=inClass (top 25) 0
abbrev sInitR:Stmt:=inClass (top 26) 0
abbrev sCan:Stmt:=top 27
abbrev sFig:Stmt:=top 28
abbrev sNum:Stmt:=top 29
abbrev sRight:Stmt:=top 30
abbrev sWhole:Stmt:=top 31
abbrev sBy:Stmt:=top 32
abbrev sLine:Stmt:=top 33
abbrev sInitT:Stmt:=inClass (top 44) 0
abbrev sSplit:Stmt:=top 45
abbrev sParts:Stmt:=top 46
abbrev sPass:Stmt:=top 47
abbrev sField:Stmt:=top 48
abbrev sRoom:Stmt:=top 49
abbrev sUnfit:Stmt:=top 50
abbrev sWrong:Stmt:=top 51
abbrev sFault:Stmt:=top 52
abbrev sReport:Stmt:=top 53
def Cal (P:Program) (w:World) (K:PySem.W.Frag) (mg:Str→Option Value) (base:Heap) (x:Str) (k:Nat) (ps:List Str) (sp:Sp):Prop:=
  ∃ f fd,FnOk P w K mg base CX0 k f fd ps sp∧mg x=some (.ref f)∧PySem.W.keepIn K (.ref f)=true∧Binds K fd ps []
def Mak (P:Program) (w:World) (K:PySem.W.Frag) (mg:Str→Option Value) (base:Heap) (x:Str) (C:Addr) (k:Nat) (ps:List Str) (sp:Sp):Prop:=
  ∃ f fd,Mk K C f∧FnOk P w K mg base CX0 k f fd ps sp∧mg x=some (.ref C)∧Binds K fd ps []
section
variable {X:Cx}{k j:Nat}{C:Addr}{ps:List Str}{sp:Sp}{x:Str}{p pos:Pos}{e:Expr}{es:List Expr}{t:TA}
theorem pe_cal (c:Cal X.prog X.w X.K X.mg X.base x k ps sp) (hr:Room j X.A) (hk:k≤j) (hg:Gl X x) (ha:PA X (e::es) t) (hdb:(x==("__debug__" : Str))=false:=by decide) (he:starEach (e::es) X.env=(false,eval e X.env)::starEach es X.env:=by rfl) (hpl:(backTo pos (starEach es X.env)).any (·.1)=false:=by rfl) :
    PE X (.Call (.Name x p) (e::es) [] pos) (tCall sp [] E0 t):=by
  obtain ⟨f,fd,F,hm,kp,b⟩:=c
  exact pe_call F (hr.mono hk) hg hm kp b .nil pass0 ha hdb he hpl
theorem pe_mak (c:Mak X.prog X.w X.K X.mg X.base x C k ps sp) (hr:Room j X.A) (hk:k+1≤j) (hg:Gl X x) (ha:PA X (e::es) t) (hdb:(x==("__debug__" : Str))=false:=by decide) (he:starEach (e::es) X.env=(false,eval e X.env)::starEach es X.env:=by rfl) (hpl:(backTo pos (starEach es X.env)).any (·.1)=false:=by rfl) :
    PE X (.Call (.Name x p) (e::es) [] pos) (tMake C sp [] E0 t):=by
  obtain ⟨f,fd,M,F,hm,b⟩:=c
  exact pe_make M F (hr.mono hk) hg hm b .nil pass0 ha hdb he hpl
theorem pe_k {z:Int}(h:∃ u,X.mg x=some (.int z u)) (hg:Gl X x) (hd:(x==("__debug__" : Str))=false:=by decide):PE X (.Name x pos) (tC (.int z)):=by
  obtain ⟨u,h⟩:=h
  exact pe_glob hg h ⟨u,rfl⟩ hd
theorem pe_o {a:Addr}(h:X.mg x=some (.ref a)) (hg:Gl X x) (hd:(x==("__debug__" : Str))=false:=by decide):PE X (.Name x pos) (tC (.ref a)):=pe_glob hg h rfl hd
end
def TIs (t:TT) (σ:L2.St) (H:Hp) (b:Bool):Prop:=∀ Q:Bool→Hp→Prop,Q b H→t σ H Q
def EIs (t:TE) (σ:L2.St) (H:Hp) (v:V):Prop:=∀ Q:VK,Q v H→t σ H Q
theorem TIs.and {t u:TT}{σ:L2.St}{H:Hp}{b c:Bool}(h:TIs t σ H b) (h2:b=true→TIs u σ H c):TIs (tAnd t u) σ H (b&&c):=fun Q q=>h _ (by
  cases b with
  | false=>exact iteF q
  | true=>exact iteT (h2 rfl _ q))
theorem TIs.or {t u:TT}{σ:L2.St}{H:Hp}{b c:Bool}(h:TIs t σ H b) (h2:b=false→TIs u σ H c):TIs (tOr t u) σ H (b || c):=fun Q q=>h _ (by
  cases b with
  | false=>exact iteF (h2 rfl _ q)
  | true=>exact iteT q)
theorem TIs.not {t:TT}{σ:L2.St}{H:Hp}{b:Bool}(h:TIs t σ H b):TIs (tNot t) σ H (!b):=fun Q q=>h _ q
theorem TIs.eq {t:TT}{σ:L2.St}{H:Hp}{b c:Bool}(h:TIs t σ H b) (e:b=c):TIs t σ H c:=e ▸ h
structure Adr where
  cP:Addr
  cR:Addr
  cT:Addr
  aF:Addr
  aR:Addr
  aS:Addr
  aM:Addr
def formS (i:Nat):Str:=Str.ofString (JM.forms.getD i "")
def wordS (i:Nat):Str:=if i<2 then "where" else if i<4 then "key" else if i<5 then "sum" else if i<6 then "count" else if i<7 then "see" else "list"
def endS (i:Nat):Str:=if i=0 then "yes" else if i=1 then "no" else if i=2 then "holes" else if i=3 then "top" else if i<6 then "W" else if i=6 then "P" else if i=7 then "all" else if i=8 then "first" else "none"
def sorts:List (Str×V):=[("where",.int 0),("key",.int 1),("sum",.int 2),("count",.int 2),("see",.int 3),("list",.int 4)]
structure Txt (K:PySem.W.Frag) (w:World) (mg:Str→Option Value) (t:Adr):Prop where
  kEnd:∃ u,mg "LINE_END" = some (.int 10 u)
  kNought:∃ u,mg "NOUGHT" = some (.int 48 u)
  kNine:∃ u,mg "NINE" = some (.int 57 u)
  kBytes:∃ u,mg "MOST_BYTES" = some (.int 4096 u)
  kLines:∃ u,mg "MOST_LINES" = some (.int 64 u)
  kPasses:∃ u,mg "MOST_PASSES" = some (.int 250 u)
  kCols:∃ u,mg "COLUMNS" = some (.int 80 u)
  kAmt:∃ u,mg "MOST_AMOUNT_COLUMNS" = some (.int 18 u)
  kPlaces:∃ u,mg "MOST_PLACES" = some (.int 132 u)
  kLong:∃ u,mg "TOO_LONG" = some (.int (-1) u)
  kFaulty:∃ u,mg "FAULTY" = some (.int (-6) u)
  gF:mg "FORMS" = some (.ref t.aF)
  sF:∀ H,SqT K H t.aF ((List.range 10).map fun i=>V.str (formS i))
  gR:mg "RANGES" = some (.ref t.aR)
  dR:∃ kvs,KDict K w t.aR kvs∧∀ c,(match JM.rangeOf c with
    | some (lo,hi)=>∃ p,kvs.lookup (⟨#[c]⟩:Str)=some (.ref p)∧∀ H,SqT K H p [.int (lo:Nat),.int (hi:Nat)]
    | none=>kvs.lookup (⟨#[c]⟩:Str)=none)
  gS:mg "SORTS" = some (.ref t.aS)
  dS:KDict K w t.aS sorts
  gM:mg "MOST_OF_SORT" = some (.ref t.aM)
  sM:∀ H,SqT K H t.aM [.int 16,.int 3,.int 8,.int 16,.int 1]
  clP:Cls K t.cP
  nPw:NoAttr K t.cP "word"
  nPe:NoAttr K t.cP "ending"
  nPn:NoAttr K t.cP "numbers"
  clR:Cls K t.cR
  nRr:NoAttr K t.cR "right"
  nRp:NoAttr K t.cR "part"
  clT:Cls K t.cT
  nTp:NoAttr K t.cT "parts"
  nTr:NoAttr K t.cT "refusal"
  zLen:mg "len" = none
  zOrd:mg "ord" = none
  zSum:mg "sum" = none
  zEnum:mg "enumerate" = none
def vB (b:UInt8):V:=.int (b.toNat:Int)
abbrev Bs:=List UInt8
def pf (i:Nat) (d:Addr):List (Str×V):=[("word",.str (wordS i)),("ending",.str (endS i)),("numbers",.ref d)]
def nums (cs vs:List Nat):List (Key×V):=(cs.zip vs).map fun p=>((Sum.inr ⟨#[p.1]⟩:Key),V.int (p.2:Int))
def PtAt (t:Adr) (H:Hp) (a:Addr) (x:JM.Pt):Prop:=∃ dx d,H a=some (.ins t.cP dx (pf x.1 d))∧H d=some (.dK (nums (JM.letters (JM.codes x.1)) x.2))
def rf (r:Nat) (v:V):List (Str×V):=[("right",.int (r:Int)),("part",v)]
def RdAt (t:Adr) (H:Hp) (p:Addr) (q:JM.Rd):Prop:=∃ dx v,H p=some (.ins t.cR dx (rf q.1 v))∧(match q.2 with
  | none=>v=.non
  | some x=>∃ a,v=.ref a∧PtAt t H a x)
structure Each {α:Type}(H:Hp) (p:Addr) (R:Hp→Addr→α→Prop) (xs:List α):Prop where
  ex:∃ as:List Addr,H p=some (.lst (as.map V.ref))∧as.length=xs.length∧∀ (j:Nat) (a:Addr) (x:α),as[j]?=some a→xs[j]?=some x→R H a x
def LnAt (H:Hp) (a:Addr) (L:Bs):Prop:=H a=some (.lst (L.map vB))
theorem PtAt.same {t:Adr}{H H':Hp}{a:Addr}{x:JM.Pt}(s:Same H H') (h:PtAt t H a x):PtAt t H' a x:=by
  obtain ⟨dx,d,h1,h2⟩:=h
  exact ⟨dx,d,s _ _ h1,s _ _ h2⟩
theorem RdAt.same {t:Adr}{H H':Hp}{a:Addr}{x:JM.Rd}(s:Same H H') (h:RdAt t H a x):RdAt t H' a x:=by
  obtain ⟨dx,v,h1,h2⟩:=h
  refine ⟨dx,v,s _ _ h1,?_⟩
  obtain ⟨r,o⟩:=x
  cases o with
  | none=>exact h2
  | some y=>
    obtain ⟨b,e,h3⟩:=h2
    exact ⟨b,e,h3.same s⟩
theorem same_upd {H:Hp}{p:Addr}{o:HO}(h:H p=none):Same H (upd H p o):=fun b u e=>by
  rw [upd_ne (ne_of_none e h)]
  exact e
theorem Each.same {α:Type}{H H':Hp}{p:Addr}{R:Hp→Addr→α→Prop}{xs:List α}(s:Same H H') (hR:∀ a x,R H a x→R H' a x) (h:Each H p R xs):Each H' p R xs:=by
  obtain ⟨as,h1,h2,h3⟩:=h.ex
  exact ⟨as,s _ _ h1,h2,fun j a x ha hx=>hR a x (h3 j a x ha hx)⟩
section
variable {P:Program}{w:World}{K:PySem.W.Frag}{mg:Str→Option Value}{base:Heap}{t:Adr}
def spCan:Sp:=fun vs H Q _=>∃ v lo hi:Nat,vs=[.int (v:Int),.int (lo:Int),.int (hi:Int)]∧JM.Rg lo hi∧Q (.bl (JM.canBegin v lo hi)) H
theorem scCan:FnScope ["value", "low", "high", "first", "last"] ["value", "low", "high"] (defScope sCan):=⟨rfl,rfl,rfl,by decide +kernel,rfl,by decide +kernel,by decide +kernel⟩
theorem ok_can {f:Addr}{fd:FuncData}(F:Fun K "can_begin" "can_begin" sCan f fd):FnOk P w K mg base CX0 1 f fd ["value", "low", "high"] spCan:=by
  refine F.ok scCan (fun vs H Q E h=>?_) (fun cdv A outer s H vs Q E hr h=>?_)
  · obtain ⟨v,lo,hi,rfl,_⟩:=h
    rfl
  · obtain ⟨v,lo,hi,rfl,rg,k⟩:=h
    refine ⟨_,pss_cons (ps_if (pt_cmpR op_eq (pv 0) pe_int (nomark _)) (pss_one (ps_ret (pe_cmpR op_eq (pv 1) pe_int (nomark _)))) pss_nil)
      (pss_cons (ps_set (i:=3) scCan.nd rfl (Or.inl rfl) (pv 0))
      (pss_cons (ps_set (i:=4) scCan.nd rfl (Or.inl rfl) (pv 0))
      (pss_cons (ps_while PassesOwn.never (pt_cmpR op_le (pv 3) (pv 2) (nomark _))
        (pss_cons (ps_if (pt_cmpR op_ge (pv 4) (pv 1) (nomark _)) (pss_one (ps_ret pe_bl)) pss_nil)
        (pss_cons (ps_set (i:=3) scCan.nd rfl (Or.inl rfl) (pe_op op_mul (pv 3) pe_int))
        (pss_one (ps_set (i:=4) scCan.nd rfl (Or.inl rfl) (pe_op op_add (pe_op op_mul (pv 4) pe_int) pe_int))))))
      (pss_one (ps_ret pe_bl))))),?_⟩
    refine ⟨_,rfl,rfl,_,rfl,ite2 (fun e=>?_) (fun e=>?_)⟩
    · have e0:v=0:=by
        have:=V.int.inj (of_decide_eq_true e)
        omega
      subst e0
      refine ⟨_,rfl,rfl,?_⟩
      have q:JM.canBegin 0 lo hi=decide (V.int (lo:Int)=V.int 0):=by
        unfold JM.canBegin
        rw [if_pos rfl,dec_int]
        apply Bool.eq_iff_iff.mpr
        simp
      rw [q] at k
      exact k
    · have e0:v≠0:=by
        rintro rfl
        exact e (decide_eq_true rfl)
      refine ⟨_,rfl,_,rfl,?_⟩
      have q:JM.canBegin v lo hi=JM.cbF 4 v v lo hi:=by
        unfold JM.canBegin
        rw [if_neg e0]
      have hh:=rg.hi
      refine ⟨fun m σ H'=>∃ a b:Nat,σ=[some (.int (v:Int)),some (.int (lo:Int)),some (.int (hi:Int)),some (.int (a:Int)),some (.int (b:Int))]∧H'=H∧JM.canBegin v lo hi=JM.cbF m a b lo hi∧hi<a * 10 ^ m,
        ⟨4,v,v,rfl,rfl,q,by omega⟩,?_⟩
      rintro m σ H' ⟨a,b,rfl,rfl,e1,e2⟩
      refine ⟨_,rfl,_,rfl,_,_,rfl,rfl,_,rfl,ite2 (fun le=>?_) (fun le=>?_)⟩
      · have le:a≤hi:=by
          have:=of_decide_eq_true le
          omega
        obtain ⟨m,rfl⟩:∃ n,m=n+1:=by
          cases m with
          | zero=>simp at e2; omega
          | succ n=>exact ⟨n,rfl⟩
        rw [JM.cb_step,if_pos le] at e1
        refine ⟨_,fun _ _ h=>h,?_⟩
        refine ⟨_,rfl,_,rfl,_,_,rfl,rfl,_,rfl,ite2 (fun ge=>?_) (fun ge=>?_)⟩
        · have ge:lo≤b:=by
            have:=of_decide_eq_true ge
            omega
          rw [if_pos ge] at e1
          rw [e1] at k
          exact k
        · have ge:¬lo≤b:=fun z=>ge (decide_eq_true (by omega))
          rw [if_neg ge] at e1
          refine ⟨_,rfl,_,_,rfl,rfl,.inr ⟨by decide,by decide⟩,_,rfl,_,_,rfl,rfl,.inr ⟨by decide,by decide⟩,_,_,rfl,rfl,?_⟩
          refine ⟨m,Nat.lt_succ_self m,a * 10,b * 10+9,?_,rfl,e1,?_⟩
          · show [_,_,_,some (V.int ((a:Int) * 10)),some (V.int ((b:Int) * 10+9))]=_
            rw [show (a:Int) * 10=((a * 10:Nat):Int) by omega,show (b:Int) * 10+9=((b * 10+9:Nat):Int) by omega]
          · rw [Nat.pow_succ] at e2
            rw [Nat.mul_assoc,Nat.mul_comm 10]
            exact e2
      · have le:¬a≤hi:=fun z=>le (decide_eq_true (by omega))
        have e3:JM.cbF m a b lo hi=false:=by
          cases m with
          | zero=>rfl
          | succ m=>rw [JM.cb_step,if_neg le]
        rw [e1,e3] at k
        exact k
def spFig (K:PySem.W.Frag):Sp:=fun vs H Q _=>∃ (a:Addr) (i lo hi:Nat) (L:Bs),vs=[.ref a,.int (i:Int),.int (lo:Int),.int (hi:Int)]∧JM.Rg lo hi∧SqL K H a (L.map vB)∧i≤L.length∧Q (.int ((i+JM.figs lo hi (L.drop i):Nat):Int)) H
theorem scFig:FnScope ["line", "at", "low", "high", "end", "value"] ["line", "at", "low", "high"] (defScope sFig):=⟨rfl,rfl,rfl,by decide +kernel,rfl,by decide +kernel,by decide +kernel⟩
theorem ok_fig {f:Addr}{fd:FuncData}(F:Fun K "figures_end" "figures_end" sFig f fd) (T:Txt K w mg t) (cCan:Cal P w K mg base "can_begin" 1 ["value", "low", "high"] spCan):FnOk P w K mg base CX0 2 f fd ["line", "at", "low", "high"] (spFig K):=by
  refine F.ok scFig (fun vs H Q E h=>?_) (fun cdv A outer s H vs Q E hr h=>?_)
  · obtain ⟨a,i,lo,hi,L,rfl,_⟩:=h
    rfl
  · obtain ⟨a,i,lo,hi,L,rfl,rg,hS,hi',k⟩:=h
    refine ⟨_,pss_cons (ps_set (i:=4) scFig.nd rfl (Or.inl rfl) (pv 1))
      (pss_cons (ps_set (i:=5) scFig.nd rfl (Or.inl rfl) pe_int)
      (pss_cons (ps_while PassesOwn.never (PW.pt (pw_and (pt_cmpR op_lt (pv 4) (pe_callB call_len_seq rfl T.zLen PySem.boot_len (pa_cons (pv 0) pa_nil)) (nomark _)) (pw_and1 (pt_chain op_le op_le (pe_k T.kNought rfl) (pe_ix ix_list (pv 0) (pv 4) (fun _ _=>rfl)) (pe_k T.kNine rfl)))))
        (pss_cons (ps_if (PW.pt (pw_and (pt_cmpR op_gt (pv 4) (pv 1) (nomark _)) (pw_and1 (pt_cmpR op_eq (pv 5) pe_int (nomark _))))) (pss_one (ps_ret (pv 4))) pss_nil)
        (pss_cons (ps_set (i:=5) scFig.nd rfl (Or.inl rfl) (pe_op op_sub (pe_op op_add (pe_op op_mul (pv 5) pe_int) (pe_ix ix_list (pv 0) (pv 4) (fun _ _=>rfl))) (pe_k T.kNought rfl)))
        (pss_cons (ps_if (pt_not (pt_val (pe_cal cCan hr (by decide) rfl (pa_cons (pv 5) (pa_cons (pv 2) (pa_cons (pv 3) pa_nil)))))) (pss_one (ps_ret (pv 4))) pss_nil)
        (pss_one (ps_aug (i:=4) scFig.nd rfl (Or.inl rfl) pe_int ip_add))))))
      (pss_one (ps_ret (pv 4))))),?_⟩
    refine ⟨_,rfl,?_⟩
    refine ⟨fun m σ H'=>∃ e v:Nat,m=L.length-e∧σ=[some (.ref a),some (.int (i:Int)),some (.int (lo:Int)),some (.int (hi:Int)),some (.int (e:Int)),some (.int (v:Int))]∧H'=H∧i≤e∧e≤L.length∧
        JM.figs lo hi (L.drop i)=e-i+JM.greedy lo hi v (decide (i<e)) (L.drop e),⟨_,i,0,rfl,rfl,rfl,Nat.le_refl _,hi',?_⟩,?_⟩
    · rw [Nat.sub_self,Nat.zero_add,decide_eq_false (Nat.lt_irrefl i)]
      rfl
    · rintro m σ H' ⟨e,v,rfl,rfl,rfl,h1,h2,h3⟩
      have out:JM.greedy lo hi v (decide (i<e)) (L.drop e)=0→Q (.int (e:Int)) H':=fun z=>by
        rw [z] at h3
        rw [h3,show i+(e-i+0)=e by omega] at k
        exact k
      have ix:e<L.length→atI (L.map vB) (e:Int)=some (vB (L.getD e 0)):=fun lt=>atI_nat (by
        rw [List.getElem?_map,List.getElem?_eq_getElem lt,List.getD_eq_getElem?_getD,List.getElem?_eq_getElem lt]
        rfl)
      have test:TIs _ _ H' (decide (e<L.length)&&JM.digit (L.getD e 0)):=TIs.and (t:=tTest (tOp (rI0 fun i j=>.bl (decide (i<j))) (tVar 4) (tCB (fun xs H Q=>∃ p ys,xs=[.ref p]∧(SqL K H p ys∨SqT K H p ys)∧Q (.int ys.length) H) (tCons (tVar 0) tNil))))
        (u:=tTest (tChain (rI0 fun i j=>.bl (decide (i≤j))) (rI0 fun i j=>.bl (decide (i≤j))) (tC (.int 48)) (tOp (rIxL K) (tVar 0) (tVar 4)) (tC (.int 57)))) (σ:=[some (.ref a),some (.int (i:Int)),some (.int (lo:Int)),some (.int (hi:Int)),some (.int (e:Int)),some (.int (v:Int))])
        (fun Q q=>⟨_,rfl,_,rfl,a,_,rfl,.inl hS,_,_,rfl,rfl,_,rfl,by
          have z:decide ((e:Int)<((L.map vB).length:Int))=decide (e<L.length):=by
            rw [List.length_map]
            exact decide_eq_decide.mpr (by omega)
          rw [z]
          exact q⟩)
        (fun lt Q q=>by
          have lt:=of_decide_eq_true lt
          refine ⟨_,rfl,_,rfl,a,_,_,_,rfl,rfl,hS,ix lt,_,_,rfl,rfl,_,rfl,ite2 (fun g=>?_) (fun g=>?_)⟩
          · refine ⟨_,_,rfl,rfl,_,rfl,?_⟩
            have z:decide (((L.getD e 0).toNat:Int)≤57)=JM.digit (L.getD e 0):=by
              have g:=of_decide_eq_true g
              unfold JM.digit
              rw [decide_eq_true (show 48≤(L.getD e 0).toNat by omega),Bool.true_and]
              exact decide_eq_decide.mpr (by omega)
            rw [z]
            exact q
          · refine ⟨_,rfl,?_⟩
            have z:JM.digit (L.getD e 0)=false:=by
              unfold JM.digit
              rw [decide_eq_false (show ¬48≤(L.getD e 0).toNat from fun z=>g (decide_eq_true (by omega))),Bool.false_and]
            rw [z] at q
            exact q)
      refine test _ (ite2 (fun g=>?_) (fun g=>?_))
      · rw [Bool.and_eq_true,decide_eq_true_eq] at g
        obtain ⟨lt,dg⟩:=g
        have ix:=ix lt
        have dr:L.drop e=L.getD e 0::L.drop (e+1):=by
          rw [List.drop_eq_getElem_cons lt,List.getD_eq_getElem?_getD,List.getElem?_eq_getElem lt]
          rfl
        generalize L.getD e 0=c at ix dr dg
        refine ⟨_,fun _ _ h=>h,?_⟩
        have test2:TIs _ _ H' (decide (i<e)&&decide (v=0)):=TIs.and (t:=tTest (tOp (rI0 fun i j=>.bl (decide (j<i))) (tVar 4) (tVar 1))) (u:=tTest (tOp rEq (tVar 5) (tC (.int 0)))) (σ:=[some (.ref a),some (.int (i:Int)),some (.int (lo:Int)),some (.int (hi:Int)),some (.int (e:Int)),some (.int (v:Int))])
          (fun Q q=>⟨_,rfl,_,rfl,_,_,rfl,rfl,_,rfl,by
            rw [show decide ((i:Int)<(e:Int))=decide (i<e) from decide_eq_decide.mpr (by omega)]
            exact q⟩)
          (fun _ Q q=>⟨_,rfl,rfl,_,rfl,by
            rw [show decide (V.int (v:Int)=V.int 0)=decide (v=0) by rw [dec_int]; exact Bool.eq_iff_iff.mpr (by simp)]
            exact q⟩)
        refine test2 _ (ite2 (fun g=>?_) (fun g=>?_))
        · refine ⟨_,rfl,out ?_⟩
          rw [Bool.and_eq_true,decide_eq_true_eq,decide_eq_true_eq] at g
          rw [dr,JM.greedy,if_neg]
          rintro ⟨_,q,_⟩
          exact q ⟨decide_eq_true g.1,g.2⟩
        · have hd:=dg
          unfold JM.digit at hd
          rw [Bool.and_eq_true,decide_eq_true_eq,decide_eq_true_eq] at hd
          have ev:(v:Int) * 10+(c.toNat:Int)-48=((10 * v+JM.dv c:Nat):Int):=by
            unfold JM.dv
            omega
          refine ⟨_,rfl,_,_,rfl,rfl,.inr ⟨by decide,by decide⟩,_,rfl,_,rfl,a,_,_,_,rfl,rfl,hS,ix,_,_,rfl,rfl,_,_,rfl,rfl,?_⟩
          refine ⟨_,rfl,_,rfl,_,rfl,10 * v+JM.dv c,lo,hi,?_,rg,_,rfl,?_⟩
          · show [V.int ((v:Int) * 10+(c.toNat:Int)-48),_,_]=_
            rw [ev]
          · cases q:JM.canBegin (10 * v+JM.dv c) lo hi with
            | false=>
              refine iteT ⟨_,rfl,out ?_⟩
              rw [dr,JM.greedy,if_neg]
              rintro ⟨_,_,z⟩
              rw [q] at z
              cases z
            | true=>
              refine iteF ⟨_,rfl,_,_,rfl,rfl,?_⟩
              refine ⟨_,Nat.sub_succ_lt_self _ _ lt,e+1,10 * v+JM.dv c,rfl,?_,rfl,by omega,lt,?_⟩
              · show [_,_,_,_,some (V.int ((e:Int)+1)),some (V.int ((v:Int) * 10+(c.toNat:Int)-48))]=_
                rw [ev]
                rfl
              · rw [h3,dr,JM.greedy,if_pos ⟨dg,fun z=>g (by rw [Bool.and_eq_true]; exact ⟨z.1,decide_eq_true z.2⟩),q⟩,decide_eq_true (show i<e+1 by omega)]
                omega
      · refine ⟨_,rfl,out ?_⟩
        by_cases lt:e<L.length
        · have dr:L.drop e=L.getD e 0::L.drop (e+1):=by
            rw [List.drop_eq_getElem_cons lt,List.getD_eq_getElem?_getD,List.getElem?_eq_getElem lt]
            rfl
          rw [dr,JM.greedy,if_neg]
          rintro ⟨z,_⟩
          exact g (by rw [Bool.and_eq_true,decide_eq_true_eq]; exact ⟨lt,z⟩)
        · rw [List.drop_eq_nil_of_le (by omega)]
          rfl
def spNum (K:PySem.W.Frag):Sp:=fun vs H Q _=>∃ (a:Addr) (d:Bs),vs=[.ref a]∧SqL K H a (d.map vB)∧(∀ c∈d,JM.digit c=true)∧Q (.int ((Pu.valueOf d:Nat):Int)) H
theorem scNum:FnScope ["figures", "value", "figure"] ["figures"] (defScope sNum):=⟨rfl,rfl,rfl,by decide +kernel,rfl,by decide +kernel,by decide +kernel⟩
theorem get_vB {L:Bs}{i:Nat}{y:V}(h:(L.map vB)[i]?=some y):∃ c,L[i]?=some c∧y=vB c:=by
  rw [List.getElem?_map] at h
  cases e:L[i]? with
  | none=>rw [e] at h; cases h
  | some c=>rw [e] at h; exact ⟨c,rfl,(Option.some.inj h).symm⟩
theorem ok_num {f:Addr}{fd:FuncData}(F:Fun K "number_of" "number_of" sNum f fd) (T:Txt K w mg t):FnOk P w K mg base CX0 1 f fd ["figures"] (spNum K):=by
  refine F.ok scNum (fun vs H Q E h=>?_) (fun cdv A outer s H vs Q E hr h=>?_)
  · obtain ⟨a,d,rfl,_⟩:=h
    rfl
  · obtain ⟨a,d,rfl,hS,hd,k⟩:=h
    refine ⟨_,pss_cons (ps_set (i:=1) scNum.nd rfl (Or.inl rfl) pe_int)
      (pss_cons (ps_for PassesOwn.never rfl (pi_list (pv 0)) (pg_name (i:=2) scNum.nd rfl (Or.inl rfl))
        (pss_one (ps_set (i:=1) scNum.nd rfl (Or.inl rfl) (pe_op op_sub (pe_op op_add (pe_op op_mul (pv 1) pe_int) (pv 2)) (pe_k T.kNought rfl)))))
      (pss_one (ps_ret (pv 1)))),?_⟩
    refine ⟨_,rfl,a,rfl,⟨_,hS⟩,for_list (K:=K) (a:=a) (xs:=d.map vB) (fun i σ H'=>∃ x:Option V,σ=[some (.ref a),some (.int ((Pu.valueOf (d.take i):Nat):Int)),x]∧H'=H) ⟨none,rfl,rfl⟩ (fun i σ H' _ ⟨_,_,e⟩=>by rw [e]; exact hS) ?_ ?_⟩
    · rintro i y σ H' hi ⟨x,rfl,rfl⟩
      obtain ⟨c,hc,rfl⟩:=get_vB hi
      have dg:=hd c (List.mem_of_getElem? hc)
      refine ⟨_,rfl,_,_,rfl,rfl,.inr ⟨by decide,by decide⟩,_,rfl,_,_,rfl,rfl,_,_,rfl,rfl,?_⟩
      refine ⟨some (vB c),?_,rfl⟩
      show [_,some (V.int (((Pu.valueOf (d.take i):Nat):Int) * 10+(c.toNat:Int)-48)),some (vB c)]=_
      have hd:=dg
      unfold JM.digit at hd
      rw [Bool.and_eq_true,decide_eq_true_eq,decide_eq_true_eq] at hd
      rw [JM.take_snoc hc,JM.valueOf_snoc]
      congr 4
      unfold JM.dv
      omega
    · rintro σ H' ⟨x,rfl,rfl⟩
      rw [List.length_map,List.take_length]
      exact ⟨_,rfl,k⟩
def spRight (K:PySem.W.Frag):Sp:=fun vs H Q _=>∃ (c:Nat) (a:Addr) (i:Nat) (L:Bs),vs=[.str ⟨#[c]⟩,.ref a,.int (i:Int)]∧SqL K H a (L.map vB)∧i≤L.length∧Q (.int ((i+JM.stepN c (L.drop i):Nat):Int)) H
theorem scRight:FnScope ["sign", "line", "at"] ["sign", "line", "at"] (defScope sRight):=⟨rfl,rfl,rfl,by decide +kernel,rfl,by decide +kernel,by decide +kernel⟩
theorem drop_getD {L:Bs}{i:Nat}(lt:i<L.length):L.drop i=L.getD i 0::L.drop (i+1):=by
  rw [List.drop_eq_getElem_cons lt,List.getD_eq_getElem?_getD,List.getElem?_eq_getElem lt]
  rfl
theorem at_vB {L:Bs}{i:Nat}(lt:i<L.length):atI (L.map vB) (i:Int)=some (vB (L.getD i 0)):=atI_nat (by
  rw [List.getElem?_map,List.getElem?_eq_getElem lt,List.getD_eq_getElem?_getD,List.getElem?_eq_getElem lt]
  rfl)
theorem ok_right {f:Addr}{fd:FuncData}(F:Fun K "right_end" "right_end" sRight f fd) (T:Txt K w mg t) (cFig:Cal P w K mg base "figures_end" 2 ["line", "at", "low", "high"] (spFig K)):FnOk P w K mg base CX0 3 f fd ["sign", "line", "at"] (spRight K):=by
  refine F.ok scRight (fun vs H Q E h=>?_) (fun cdv A outer s H vs Q E hr h=>?_)
  · obtain ⟨c,a,i,L,rfl,_⟩:=h
    rfl
  · obtain ⟨c,a,i,L,rfl,hS,hi',k⟩:=h
    obtain ⟨kvs,D,hR⟩:=T.dR
    have hR:=hR c
    refine ⟨_,pss_cons (ps_if (pt_cmp (pc_kin (pv 0) (pe_o T.gR rfl))) (pss_one (ps_ret (pe_cal cFig hr (by decide) rfl (pa_cons (pv 1) (pa_cons (pv 2) (pa_cons (pe_ix ix_tup (pe_kget (pe_o T.gR rfl) (pv 0) (fun _ _=>rfl)) pe_int (fun _ _=>rfl)) (pa_cons (pe_ix ix_tup (pe_kget (pe_o T.gR rfl) (pv 0) (fun _ _=>rfl)) pe_int (fun _ _=>rfl)) pa_nil))))))) pss_nil)
      (pss_cons (ps_if (PW.pt (pw_and (pt_cmpR op_lt (pv 2) (pe_callB call_len_seq rfl T.zLen PySem.boot_len (pa_cons (pv 1) pa_nil)) (nomark _)) (pw_and1 (pt_cmpR op_eq (pe_ix ix_list (pv 1) (pv 2) (fun _ _=>rfl)) (pe_callB call_ord rfl T.zOrd boot_ord (pa_cons (pv 0) pa_nil)) (nomark _))))) (pss_one (ps_ret (pe_op op_add (pv 2) pe_int))) pss_nil)
      (pss_one (ps_ret (pv 2)))),?_⟩
    refine ⟨_,rfl,t.aR,kvs,_,rfl,rfl,D,_,rfl,?_⟩
    unfold JM.stepN at k
    cases e:JM.rangeOf c with
    | some q=>
      obtain ⟨lo,hi⟩:=q
      rw [e] at hR k
      obtain ⟨p,hl,hs⟩:=hR
      rw [hl]
      refine iteT ⟨_,rfl,_,rfl,_,rfl,t.aR,kvs,_,_,rfl,rfl,D,hl,p,_,_,_,rfl,rfl,hs _,rfl,_,rfl,t.aR,kvs,_,_,rfl,rfl,D,hl,p,_,_,_,rfl,rfl,hs _,rfl,a,i,lo,hi,L,rfl,JM.rangeOf_rg e,hS,hi',k⟩
    | none=>
      rw [e] at hR k
      have hR:kvs.lookup (⟨#[c]⟩:Str)=none:=hR
      rw [hR]
      refine iteF ?_
      dsimp only at k
      have test:TIs _ _ H (decide (i<L.length)&&decide ((L.getD i 0).toNat=c)):=TIs.and (t:=tTest (tOp (rI0 fun i j=>.bl (decide (i<j))) (tVar 2) (tCB (fun xs H Q=>∃ p ys,xs=[.ref p]∧(SqL K H p ys∨SqT K H p ys)∧Q (.int ys.length) H) (tCons (tVar 1) tNil))))
        (u:=tTest (tOp rEq (tOp (rIxL K) (tVar 1) (tVar 2)) (tCB (fun xs H Q=>∃ x,xs=[.str x]∧x.length=1∧Q (.int (x.cps.getD 0 0:Nat)) H) (tCons (tVar 0) tNil)))) (σ:=[some (.str ⟨#[c]⟩),some (.ref a),some (.int (i:Int))])
        (fun Q q=>⟨_,rfl,_,rfl,a,_,rfl,.inl hS,_,_,rfl,rfl,_,rfl,by
          have z:decide ((i:Int)<((L.map vB).length:Int))=decide (i<L.length):=by
            rw [List.length_map]
            exact decide_eq_decide.mpr (by omega)
          rw [z]
          exact q⟩)
        (fun lt Q q=>⟨_,rfl,_,rfl,a,_,_,_,rfl,rfl,hS,at_vB (of_decide_eq_true lt),_,rfl,_,rfl,rfl,rfl,_,rfl,by
          have z:decide (vB (L.getD i 0)=V.int ((c:Nat):Int))=decide ((L.getD i 0).toNat=c):=by
            unfold vB
            rw [dec_int]
            exact Bool.eq_iff_iff.mpr (by simp; omega)
          exact z ▸ q⟩)
      refine test _ (ite2 (fun g=>?_) (fun g=>?_))
      · rw [Bool.and_eq_true,decide_eq_true_eq,decide_eq_true_eq] at g
        rw [drop_getD g.1] at k
        dsimp only at k
        rw [if_pos g.2] at k
        exact ⟨_,rfl,_,_,rfl,rfl,k⟩
      · refine ⟨_,rfl,?_⟩
        by_cases lt:i<L.length
        · rw [drop_getD lt] at k
          dsimp only at k
          rw [if_neg (fun z=>g (by rw [Bool.and_eq_true,decide_eq_true_eq,decide_eq_true_eq]; exact ⟨lt,z⟩))] at k
          exact k
        · rw [List.drop_eq_nil_of_le (by omega)] at k
          exact k
def spWhole (K:PySem.W.Frag):Sp:=fun vs H Q _=>∃ (c:Nat) (a:Addr) (d:Bs),vs=[.str ⟨#[c]⟩,.ref a]∧SqL K H a (d.map vB)∧((JM.rangeOf c).isSome=true→∀ x∈d,JM.digit x=true)∧Q (.bl (JM.wholeM c d)) H
theorem scWhole:FnScope ["sign", "found"] ["sign", "found"] (defScope sWhole):=⟨rfl,rfl,rfl,by decide +kernel,rfl,by decide +kernel,by decide +kernel⟩
theorem ok_whole {f:Addr}{fd:FuncData}(F:Fun K "is_whole" "is_whole" sWhole f fd) (T:Txt K w mg t) (cNum:Cal P w K mg base "number_of" 1 ["figures"] (spNum K)):FnOk P w K mg base CX0 2 f fd ["sign", "found"] (spWhole K):=by
  refine F.ok scWhole (fun vs H Q E h=>?_) (fun cdv A outer s H vs Q E hr h=>?_)
  · obtain ⟨c,a,d,rfl,_⟩:=h
    rfl
  · obtain ⟨c,a,d,rfl,hS,hd,k⟩:=h
    obtain ⟨kvs,D,hR⟩:=T.dR
    have hR:=hR c
    refine ⟨_,pss_cons (ps_if (pt_not (pt_truth (pv 1) (fun _=>rfl))) (pss_one (ps_ret pe_bl)) pss_nil)
      (pss_cons (ps_if (pt_cmp (pc_kin (pv 0) (pe_o T.gR rfl))) (pss_one (ps_ret (pe_chain op_le op_le (pe_ix ix_tup (pe_kget (pe_o T.gR rfl) (pv 0) (fun _ _=>rfl)) pe_int (fun _ _=>rfl)) (pe_cal cNum hr (by decide) rfl (pa_cons (pv 1) pa_nil)) (pe_ix ix_tup (pe_kget (pe_o T.gR rfl) (pv 0) (fun _ _=>rfl)) pe_int (fun _ _=>rfl))))) pss_nil)
      (pss_one (ps_ret pe_bl))),?_⟩
    refine ⟨_,rfl,_,.inl ⟨_,hS,rfl⟩,?_⟩
    unfold JM.wholeM at k
    by_cases de:d=[]
    · subst de
      refine iteT ?_
      exact k
    · have em:(d.map vB).isEmpty=false:=by
        cases d with
        | nil=>exact absurd rfl de
        | cons _ _=>rfl
      rw [em]
      refine iteF ?_
      rw [decide_eq_true de,Bool.true_and] at k
      refine ⟨_,rfl,t.aR,kvs,_,rfl,rfl,D,_,rfl,?_⟩
      cases e:JM.rangeOf c with
      | some q=>
        obtain ⟨lo,hi⟩:=q
        rw [e] at hR k hd
        obtain ⟨p,hl,hs⟩:=hR
        rw [hl]
        refine iteT ⟨_,rfl,t.aR,kvs,_,_,rfl,rfl,D,hl,p,_,_,_,rfl,rfl,hs _,rfl,_,rfl,a,d,rfl,hS,hd rfl,_,_,rfl,rfl,_,rfl,?_⟩
        dsimp only at k
        unfold JM.within at k
        have z:decide ((lo:Int)≤((Pu.valueOf d:Nat):Int))=decide (lo≤Pu.valueOf d):=decide_eq_decide.mpr (by omega)
        have z2:decide (((Pu.valueOf d:Nat):Int)≤(hi:Int))=decide (Pu.valueOf d≤hi):=decide_eq_decide.mpr (by omega)
        refine ite2 (fun g=>?_) (fun g=>?_)
        · rw [z] at g
          rw [g,Bool.true_and] at k
          refine ⟨_,rfl,t.aR,kvs,_,_,rfl,rfl,D,hl,p,_,_,_,rfl,rfl,hs _,rfl,_,_,rfl,rfl,?_⟩
          rw [←z2] at k
          exact k
        · rw [z] at g
          rw [(Bool.not_eq_true _).mp g,Bool.false_and] at k
          exact k
      | none=>
        rw [e] at hR k
        have hR:kvs.lookup (⟨#[c]⟩:Str)=none:=hR
        rw [hR]
        exact iteF k
def spInitR (t:Adr):Sp:=fun vs H Q _=>∃ (p dx:Addr) (r:Nat) (v:V),vs=[.ref p,.int (r:Int),v]∧H p=some (.ins t.cR dx [])∧∀ H':Hp,H' p=some (.ins t.cR dx (rf r v))→(∀ b o,H b=some o→b≠p→H' b=some o)→Q .non H'
theorem scInitR:FnScope ["self", "right", "part"] ["self", "right", "part"] (defScope sInitR):=⟨rfl,rfl,rfl,by decide +kernel,rfl,by decide +kernel,by decide +kernel⟩
theorem ok_initR {f:Addr}{fd:FuncData}(F:Fun K "__init__" "Reading.__init__" sInitR f fd) (T:Txt K w mg t):FnOk P w K mg base CX0 1 f fd ["self", "right", "part"] (spInitR t):=by
  refine F.ok scInitR (fun vs H Q E h=>?_) (fun cdv A outer s H vs Q E hr h=>?_)
  · obtain ⟨p,dx,r,v,rfl,_⟩:=h
    rfl
  · obtain ⟨p,dx,r,v,rfl,hp,k⟩:=h
    refine ⟨_,pss_cons (ps_fld (pv 0) (pv 1) rfl) (pss_one (ps_fld (pv 0) (pv 2) rfl)),?_⟩
    refine ⟨_,rfl,_,rfl,p,t.cR,dx,[],rfl,hp,T.clR,T.nRr,(by show 0<1000; decide),?_⟩
    refine ⟨_,rfl,_,rfl,p,t.cR,dx,_,rfl,upd_same,T.clR,T.nRp,(by show 1<1000; decide),?_⟩
    exact k _ upd_same fun b o e hb=>by rw [upd_ne hb,upd_ne hb]; exact e
def spInitT (t:Adr):Sp:=fun vs H Q _=>∃ (p dx:Addr) (u v:V),vs=[.ref p,u,v]∧H p=some (.ins t.cT dx [])∧∀ H':Hp,H' p=some (.ins t.cT dx [("parts",u),("refusal",v)])→(∀ b o,H b=some o→b≠p→H' b=some o)→Q .non H'
theorem scInitT:FnScope ["self", "parts", "refusal"] ["self", "parts", "refusal"] (defScope sInitT):=⟨rfl,rfl,rfl,by decide +kernel,rfl,by decide +kernel,by decide +kernel⟩
theorem ok_initT {f:Addr}{fd:FuncData}(F:Fun K "__init__" "Report.__init__" sInitT f fd) (T:Txt K w mg t):FnOk P w K mg base CX0 1 f fd ["self", "parts", "refusal"] (spInitT t):=by
  refine F.ok scInitT (fun vs H Q E h=>?_) (fun cdv A outer s H vs Q E hr h=>?_)
  · obtain ⟨p,dx,r,v,rfl,_⟩:=h
    rfl
  · obtain ⟨p,dx,u,v,rfl,hp,k⟩:=h
    refine ⟨_,pss_cons (ps_fld (pv 0) (pv 1) rfl) (pss_one (ps_fld (pv 0) (pv 2) rfl)),?_⟩
    refine ⟨_,rfl,_,rfl,p,t.cT,dx,[],rfl,hp,T.clT,T.nTp,(by show 0<1000; decide),?_⟩
    refine ⟨_,rfl,_,rfl,p,t.cT,dx,_,rfl,upd_same,T.clT,T.nTr,(by show 1<1000; decide),?_⟩
    exact k _ upd_same fun b o e hb=>by rw [upd_ne hb,upd_ne hb]; exact e
def spInitP (t:Adr):Sp:=fun vs H Q _=>∃ (p dx d:Addr) (i:Nat),vs=[.ref p,.str (formS i),.ref d]∧i<10∧H p=some (.ins t.cP dx [])∧∀ H':Hp,H' p=some (.ins t.cP dx (pf i d))→(∀ b o,H b=some o→b≠p→H' b=some o)→Q .non H'
theorem scInitP:FnScope ["self", "form", "numbers", "words"] ["self", "form", "numbers"] (defScope sInitP):=⟨rfl,rfl,rfl,by decide +kernel,rfl,by decide +kernel,by decide +kernel⟩
theorem words_of:∀ i,i<10→(Txt.words (formS i)).head?=some (wordS i)∧(Txt.words (formS i)).getLast?=some (endS i)∧(formS i).length+2≤100:=by decide +kernel
theorem at_head {α:Type}{l:List α}{x:α}(h:l.head?=some x):atI l 0=some x:=by
  cases l with
  | nil=>cases h
  | cons a r=>
    cases h
    exact atI_nat (j:=0) rfl
theorem at_tail {α:Type}{l:List α}{x:α}(h:l.getLast?=some x):atI l (-1)=some x:=by
  obtain ⟨r,rfl⟩:=List.getLast?_eq_some_iff.mp h
  exact atI_last r x
theorem ok_initP {f:Addr}{fd:FuncData}(F:Fun K "__init__" "Part.__init__" sInitP f fd) (T:Txt K w mg t):FnOk P w K mg base CX0 1 f fd ["self", "form", "numbers"] (spInitP t):=by
  refine F.ok scInitP (fun vs H Q E h=>?_) (fun cdv A outer s H vs Q E hr h=>?_)
  · obtain ⟨p,dx,d,i,rfl,_⟩:=h
    rfl
  · obtain ⟨p,dx,d,i,rfl,hi,hp,k⟩:=h
    obtain ⟨w1,w2,w3⟩:=words_of i hi
    refine ⟨_,pss_cons (ps_set (i:=3) scInitP.nd rfl (Or.inl rfl) (pe_words (pv 1)))
      (pss_cons (ps_fld (pv 0) (pe_ix ix_list (pv 3) pe_int (fun _ _=>rfl)) rfl)
      (pss_cons (ps_fld (pv 0) (pe_ix ix_list (pv 3) (pe_un un_neg pe_int) (fun _ _=>rfl)) rfl)
      (pss_one (ps_fld (pv 0) (pv 2) rfl)))),?_⟩
    refine ⟨_,rfl,⟨_,rfl⟩,_,rfl,rfl,Nat.le_trans w3 (by decide),fun l hl=>?_⟩
    have npl:p≠l:=ne_of_none hp hl
    have a1:atI ((Txt.words (formS i)).map V.str) 0=some (.str (wordS i)):=at_head (by rw [List.head?_map,w1]; rfl)
    have a2:atI ((Txt.words (formS i)).map V.str) (-1)=some (.str (endS i)):=at_tail (by rw [List.getLast?_map,w2]; rfl)
    have l1:upd H l (.lst ((Txt.words (formS i)).map V.str)) l=some (.lst ((Txt.words (formS i)).map V.str)):=upd_same
    refine ⟨_,rfl,l,_,_,_,rfl,rfl,SqL.of l1,a1,_,rfl,p,t.cP,dx,[],rfl,by rw [upd_ne npl]; exact hp,T.clP,T.nPw,(by show 0<1000; decide),?_⟩
    refine ⟨_,rfl,_,rfl,l,_,_,_,rfl,rfl,SqL.of (by rw [upd_ne (Ne.symm npl)]; exact l1),a2,_,rfl,p,t.cP,dx,_,rfl,upd_same,T.clP,T.nPe,(by show 1<1000; decide),?_⟩
    refine ⟨_,rfl,_,rfl,p,t.cP,dx,_,rfl,upd_same,T.clP,T.nPn,(by show 2<1000; decide),?_⟩
    exact k _ upd_same fun b o e hb=>by
      rw [upd_ne hb,upd_ne hb,upd_ne hb,upd_ne (ne_of_none e hl)]
      exact e
def spBy (K:PySem.W.Frag) (t:Adr):Sp:=fun vs H Q _=>∃ (i:Nat) (a:Addr) (L:Bs),vs=[.str (formS i),.ref a]∧i<10∧SqL K H a (L.map vB)∧∀ (H':Hp) (p:Addr),Same H H'→RdAt t H' p (JM.readBy i L)→Q (.ref p) H'
theorem scBy:FnScope ["form", "line", "numbers", "at", "sign", "end", "found"] ["form", "line"] (defScope sBy):=⟨rfl,rfl,rfl,by decide +kernel,rfl,by decide +kernel,by decide +kernel⟩
theorem codes_cps (i:Nat):(formS i).cps.toList=JM.codes i:=TL.tl_ofString _
theorem cut_vB {L:Bs}{i j:Nat}(h1:i≤j) (h2:j≤L.length):cutV (L.map vB) (some (i:Int)) (some (j:Int))=((L.drop i).take (j-i)).map vB:=by
  unfold cutV
  rw [HT.sIx_nat,HT.sIx_nat,List.length_map,Nat.min_eq_left h2,Nat.min_eq_left (Nat.le_trans h1 h2),List.map_take,List.map_drop]
theorem letters_snoc {cs:List Nat}{j c:Nat}(h:cs[j]?=some c):JM.letters (cs.take (j+1))=if (JM.rangeOf c).isSome=true then JM.letters (cs.take j)++[c] else JM.letters (cs.take j):=by
  unfold JM.letters
  rw [JM.take_snoc h,List.filter_append,List.filter_cons,List.filter_nil]
  split
  · rfl
  · rw [List.append_nil]
theorem letters_fresh {cs:List Nat}{j c:Nat}(nd:(JM.letters cs).Nodup) (h:cs[j]?=some c) (hc:(JM.rangeOf c).isSome=true):c ∉ JM.letters (cs.take j):=by
  intro hm
  have e:cs=cs.take j++c::cs.drop (j+1):=by
    obtain ⟨hl,e⟩:=List.getElem?_eq_some_iff.mp h
    rw [←e,←List.drop_eq_getElem_cons hl,List.take_append_drop]
  unfold JM.letters at nd hm
  rw [e,List.filter_append,List.filter_cons,if_pos hc] at nd
  have:=(List.nodup_append.mp nd).2.2 c hm c (by simp)
  exact this rfl
theorem nums_snoc {cs vs:List Nat}{c v:Nat}(hl:cs.length=vs.length):nums (cs++[c]) (vs++[v])=nums cs vs++[((Sum.inr ⟨#[c]⟩:Key),V.int (v:Int))]:=by
  unfold nums
  rw [List.zip_append hl,List.map_append]
  rfl
theorem nums_none {cs vs:List Nat}{c:Nat}(h:c ∉ cs):valV (nums cs vs) (Sum.inr ⟨#[c]⟩)=none:=by
  unfold nums
  induction cs generalizing vs with
  | nil=>rfl
  | cons a cs ih=>
    cases vs with
    | nil=>rfl
    | cons v vs=>
      rw [List.zip_cons_cons,List.map_cons,valV_neg]
      · exact ih fun z=>h (List.mem_cons_of_mem _ z)
      · intro z
        have z1:=Sum.inr.inj z
        have z2:#[a]=#[c]:=congrArg Str.cps z1
        have z3:a=c:=by simpa using z2
        exact h (by rw [z3]; exact List.mem_cons_self)
theorem putK_new {kvs:List (Key×V)}{k:Key}{v:V}(h:valV kvs k=none):putK kvs k v=kvs++[(k,v)]:=by
  unfold putK
  rw [if_neg]
  rw [valV_any,h]
  decide
theorem take_zero_len {cs:List Nat}{j c:Nat}(h:cs[j]?=some c):cs.drop j=c::cs.drop (j+1):=by
  obtain ⟨hl,e⟩:=List.getElem?_eq_some_iff.mp h
  rw [←e,←List.drop_eq_getElem_cons hl]
theorem ok_by {f:Addr}{fd:FuncData}(F:Fun K "read_by" "read_by" sBy f fd) (T:Txt K w mg t) (cRight:Cal P w K mg base "right_end" 3 ["sign", "line", "at"] (spRight K)) (cWhole:Cal P w K mg base "is_whole" 2 ["sign", "found"] (spWhole K))
    (cNum:Cal P w K mg base "number_of" 1 ["figures"] (spNum K)) (mR:Mak P w K mg base "Reading" t.cR 1 ["self", "right", "part"] (spInitR t)) (mP:Mak P w K mg base "Part" t.cP 1 ["self", "form", "numbers"] (spInitP t)) :
    FnOk P w K mg base CX0 4 f fd ["form", "line"] (spBy K t):=by
  refine F.ok scBy (fun vs H Q E h=>?_) (fun cdv A outer s H vs Q E hr h=>?_)
  · obtain ⟨i,a,L,rfl,_⟩:=h
    rfl
  · obtain ⟨i,a,L,rfl,hi,hS,k⟩:=h
    rw [JM.read_by hi] at k
    have nd:=JM.letters_nd i hi
    have cps:=codes_cps i
    generalize ec:JM.codes i=cs at k nd cps
    obtain ⟨kvs,D,hR⟩:=T.dR
    have hu:=hu_of hr
    refine ⟨_,pss_cons (ps_set (i:=2) scBy.nd rfl (Or.inl rfl) pe_dnewK)
      (pss_cons (ps_set (i:=3) scBy.nd rfl (Or.inl rfl) pe_int)
      (pss_cons (ps_for PassesOwn.never rfl (pi_str (pv 0)) (pg_name (i:=4) scBy.nd rfl (Or.inl rfl))
        (pss_cons (ps_set (i:=5) scBy.nd rfl (Or.inl rfl) (pe_cal cRight hr (by decide) rfl (pa_cons (pv 4) (pa_cons (pv 1) (pa_cons (pv 3) pa_nil)))))
        (pss_cons (ps_set (i:=6) scBy.nd rfl (Or.inl rfl) (pe_slice sl_list (pv 1) (po_some (pv 3)) (po_some (pv 5))))
        (pss_cons (ps_if (pt_not (pt_val (pe_cal cWhole hr (by decide) rfl (pa_cons (pv 4) (pa_cons (pv 6) pa_nil))))) (pss_one (ps_ret (pe_mak mR hr (by decide) rfl (pa_cons (pv 5) (pa_cons pe_non pa_nil))))) pss_nil)
        (pss_cons (ps_if (pt_cmp (pc_kin (pv 4) (pe_o T.gR rfl))) (pss_one (ps_dput hu (pv 2) (pv 4) (pe_cal cNum hr (by decide) rfl (pa_cons (pv 6) pa_nil)) rfl)) pss_nil)
        (pss_one (ps_set (i:=3) scBy.nd rfl (Or.inl rfl) (pv 5))))))))
      (pss_one (ps_ret (pe_mak mR hr (by decide) rfl (pa_cons (pv 3) (pa_cons (pe_mak mP hr (by decide) rfl (pa_cons (pv 0) (pa_cons (pv 2) pa_nil))) pa_nil))))))),?_⟩
    intro d hd
    refine ⟨_,rfl,_,rfl,for_str (x:=formS i) (fun j σ H'=>∃ (at_:Nat) (vs:List Nat) (x4 x5 x6:Option V),σ=[some (.str (formS i)),some (.ref a),some (.ref d),some (.int (at_:Int)),x4,x5,x6]∧Same H H'∧
        H' d=some (.dK (nums (JM.letters (cs.take j)) vs))∧(JM.letters (cs.take j)).length=vs.length∧at_≤L.length∧JM.readS cs L=((JM.readS (cs.drop j) (L.drop at_)).1+at_,(JM.readS (cs.drop j) (L.drop at_)).2.map (vs++·)))
      ⟨0,[],none,none,none,rfl,same_upd hd,upd_same,rfl,Nat.zero_le _,?_⟩ ?_ ?_⟩
    · rw [List.drop_zero,List.drop_zero]
      apply Prod.ext
      · rfl
      · show _=(JM.readS cs L).2.map ([]++·)
        cases (JM.readS cs L).2 <;> rfl
    · rintro j c σ H1 hc ⟨at_,vs,x4,x5,x6,rfl,s1,hd1,hl,ha,e⟩
      rw [cps] at hc
      rw [take_zero_len hc,JM.readS] at e
      have nle:=JM.stepN_le c (L.drop at_)
      rw [List.length_drop] at nle
      refine ⟨_,rfl,_,rfl,_,rfl,c,a,at_,L,rfl,s1.seq hS,ha,?_⟩
      refine ⟨_,rfl,_,rfl,_,rfl,_,rfl,_,rfl,a,_,rfl,s1.seq hS,fun p hp=>?_⟩
      rw [cut_vB (Nat.le_add_right _ _) (by omega),Nat.add_sub_cancel_left]
      have hdg:(JM.rangeOf c).isSome=true→∀ x∈(L.drop at_).take (JM.stepN c (L.drop at_)),JM.digit x=true:=fun z=>JM.stepN_digits z
      generalize (L.drop at_).take (JM.stepN c (L.drop at_))=found at e hdg
      generalize JM.stepN c (L.drop at_)=n at e nle
      have s2:Same H1 (upd H1 p (.lst (found.map vB))):=same_upd hp
      have hp2:upd H1 p (.lst (found.map vB)) p=some (.lst (found.map vB)):=upd_same
      have hd2:=s2 _ _ hd1
      have s12:=s1.trans s2
      generalize upd H1 p (.lst (found.map vB))=H2 at s2 hp2 hd2 s12
      refine ⟨_,rfl,_,rfl,c,p,found,rfl,SqL.of hp2,hdg,_,rfl,?_⟩
      cases wh:JM.wholeM c found with
      | false=>
        rw [wh,if_neg (by decide)] at e
        refine iteT ⟨_,rfl,?_⟩
        intro x dx nx ndx nex
        refine ⟨x,dx,at_+n,.non,rfl,upd_same,fun H3 h3 kp=>⟨rfl,k H3 x ?_ ?_⟩⟩
        · exact s12.trans (Same.made nx ndx kp)
        · rw [e]
          refine ⟨dx,.non,?_,rfl⟩
          rw [h3]
          show some (HO.ins t.cR dx (rf (at_+n) .non))=some (HO.ins t.cR dx (rf (n+at_) .non))
          rw [Nat.add_comm]
      | true=>
        rw [wh,if_pos rfl] at e
        refine iteF ?_
        have hRc:=hR c
        refine ⟨_,rfl,t.aR,kvs,_,rfl,rfl,D,_,rfl,?_⟩
        cases er:JM.rangeOf c with
        | some q=>
          obtain ⟨lo,hi'⟩:=q
          rw [er] at hRc
          obtain ⟨rp,hlk,_⟩:=hRc
          have som:(JM.rangeOf c).isSome=true:=by rw [er]; rfl
          rw [hlk]
          refine iteT ⟨_,rfl,p,found,rfl,SqL.of hp2,hdg som,_,rfl,_,rfl,d,_,rfl,DPut.k (k:=Sum.inr ⟨#[c]⟩) hd2 ?_,?_⟩
          · refine Nat.lt_of_le_of_lt (m:=200) ?_ (by decide)
            have:(nums (JM.letters (cs.take j)) vs).length≤(JM.letters (cs.take j)).length:=by
              unfold nums
              rw [List.length_map,List.length_zip]
              omega
            have l2:(JM.letters (cs.take j)).length≤cs.length:=by
              unfold JM.letters
              exact Nat.le_trans (List.length_filter_le _ _) (by rw [List.length_take]; omega)
            have l3:cs.length≤100:=by
              have:=(words_of i hi).2.2
              rw [←cps,←TL.len_tl]
              omega
            omega
          · refine ⟨_,rfl,?_⟩
            refine ⟨at_+n,vs++[Pu.valueOf found],_,_,_,rfl,fun b o eb=>?_,?_,?_,by omega,?_⟩
            · rw [upd_ne (ne_of_none eb hd)]
              exact s12 b o eb
            · rw [upd_same,putK_new (nums_none (letters_fresh nd hc som)),letters_snoc hc,if_pos som,nums_snoc hl]
            · rw [letters_snoc hc,if_pos som,List.length_append,List.length_append,hl]
              rfl
            · rw [e,List.drop_drop,som]
              apply Prod.ext
              · show _+_+_=_+(_+_)
                omega
              · show Option.map _ (Option.map _ _)=Option.map _ _
                rw [Option.map_map]
                congr 1
                funext us
                show vs++(if true=true then Pu.valueOf found::us else us)=vs++[Pu.valueOf found]++us
                rw [if_pos rfl,List.append_assoc]
                rfl
        | none=>
          rw [er] at hRc
          have hRc:kvs.lookup (⟨#[c]⟩:Str)=none:=hRc
          have som:¬(JM.rangeOf c).isSome=true:=by rw [er]; decide
          rw [hRc]
          refine iteF ?_
          refine ⟨_,rfl,?_⟩
          refine ⟨at_+n,vs,_,_,_,rfl,s12,?_,?_,by omega,?_⟩
          · rw [letters_snoc hc,if_neg som]
            exact hd2
          · rw [letters_snoc hc,if_neg som]
            exact hl
          · rw [e,List.drop_drop]
            apply Prod.ext
            · show _+_+_=_+(_+_)
              omega
            · show Option.map _ (Option.map _ _)=Option.map _ _
              rw [Option.map_map]
              congr 1
              funext us
              show vs++(if (JM.rangeOf c).isSome=true then Pu.valueOf found::us else us)=vs++us
              rw [if_neg som]
    · rintro σ H1 ⟨at_,vs,x4,x5,x6,rfl,s1,hd1,hl,ha,e⟩
      rw [cps] at hd1 hl e
      rw [List.take_length] at hd1 hl
      rw [List.drop_length] at e
      refine ⟨_,rfl,_,rfl,_,rfl,?_⟩
      intro x dx nx ndx nex
      refine ⟨x,dx,d,i,rfl,hi,upd_same,fun H3 h3 kp=>⟨rfl,?_⟩⟩
      have s2:=Same.made nx ndx kp
      intro y dy ny ndy ney
      refine ⟨y,dy,at_,.ref x,rfl,upd_same,fun H4 h4 kp4=>⟨rfl,k H4 y ?_ ?_⟩⟩
      · exact (s1.trans s2).trans (Same.made ny ndy kp4)
      · have s3:=Same.made ny ndy kp4
        rw [e]
        refine ⟨dy,.ref x,?_,x,rfl,dx,d,s3 _ _ h3,?_⟩
        · rw [h4]
          show some (HO.ins t.cR dy (rf at_ (.ref x)))=some (HO.ins t.cR dy (rf (0+at_) (.ref x)))
          rw [Nat.zero_add]
        · show H4 d=some (.dK (nums (JM.letters (JM.codes i)) (vs++[])))
          rw [ec,List.append_nil]
          exact s3 _ _ (s2 _ _ hd1)
def spLine (K:PySem.W.Frag) (t:Adr):Sp:=fun vs H Q _=>∃ (a:Addr) (L:Bs),vs=[.ref a]∧SqL K H a (L.map vB)∧∀ (H':Hp) (p:Addr),Same H H'→RdAt t H' p (JM.readLine L)→Q (.ref p) H'
theorem scLine:FnScope ["line", "best", "form", "reading"] ["line"] (defScope sLine):=⟨rfl,rfl,rfl,by decide +kernel,rfl,by decide +kernel,by decide +kernel⟩
theorem ok_line {f:Addr}{fd:FuncData}(F:Fun K "read_line" "read_line" sLine f fd) (T:Txt K w mg t) (cBy:Cal P w K mg base "read_by" 4 ["form", "line"] (spBy K t)) (mR:Mak P w K mg base "Reading" t.cR 1 ["self", "right", "part"] (spInitR t)) :
    FnOk P w K mg base CX0 5 f fd ["line"] (spLine K t):=by
  refine F.ok scLine (fun vs H Q E h=>?_) (fun cdv A outer s H vs Q E hr h=>?_)
  · obtain ⟨a,L,rfl,_⟩:=h
    rfl
  · obtain ⟨a,L,rfl,hS,k⟩:=h
    refine ⟨_,pss_cons (ps_set (i:=1) scLine.nd rfl (Or.inl rfl) (pe_mak mR hr (by decide) rfl (pa_cons pe_int (pa_cons pe_non pa_nil))))
      (pss_cons (ps_for PassesOwn.never rfl (pi_tup (pe_o T.gF rfl)) (pg_name (i:=2) scLine.nd rfl (Or.inl rfl))
        (pss_cons (ps_set (i:=3) scLine.nd rfl (Or.inl rfl) (pe_cal cBy hr (by decide) rfl (pa_cons (pv 2) (pa_cons (pv 0) pa_nil))))
        (pss_one (ps_if (pt_cmpR op_gt (pe_fld (pv 3) rfl) (pe_fld (pv 1) rfl) (nomark _)) (pss_one (ps_set (i:=1) scLine.nd rfl (Or.inl rfl) (pv 3))) pss_nil))))
      (pss_one (ps_ret (pv 1)))),?_⟩
    intro x dx nx ndx nex
    refine ⟨x,dx,0,.non,rfl,upd_same,fun H1 h1 kp=>⟨rfl,?_⟩⟩
    have s1:=Same.made nx ndx kp
    refine ⟨t.aF,rfl,⟨_,T.sF _⟩,for_tup (K:=K) (a:=t.aF) (xs:=(List.range 10).map fun i=>V.str (formS i)) (fun j σ H'=>∃ (b:Addr) (x2 x3:Option V),σ=[some (.ref a),some (.ref b),x2,x3]∧Same H H'∧RdAt t H' b (JM.bestTo L j))
      ⟨x,none,none,rfl,s1,dx,.non,h1,rfl⟩ (fun _ _ _ _ _=>T.sF _) ?_ ?_⟩
    · rintro j y σ H2 hj ⟨b,x2,x3,rfl,s2,r2⟩
      have hj10:j<10:=by
        have:=(List.getElem?_eq_some_iff.mp hj).1
        simpa using this
      have ey:y=V.str (formS j):=by
        rw [List.getElem?_map,List.getElem?_range hj10] at hj
        exact (Option.some.inj hj).symm
      subst ey
      refine ⟨_,rfl,_,rfl,j,a,L,rfl,hj10,s2.seq hS,fun H3 p s3 r3=>?_⟩
      have r2':=r2.same s3
      have r3':=r3
      obtain ⟨d3,v3,o3,m3⟩:=r3
      obtain ⟨d2,v2,o2,m2⟩:=r2.same s3
      refine ⟨_,rfl,p,t.cR,d3,_,_,rfl,o3,T.clR,T.nRr,rfl,_,rfl,b,t.cR,d2,_,_,rfl,o2,T.clR,T.nRr,rfl,_,_,rfl,rfl,_,rfl,ite2 (fun g=>?_) (fun g=>?_)⟩
      · have g:=of_decide_eq_true g
        refine ⟨_,rfl,?_⟩
        refine ⟨p,_,_,rfl,s2.trans s3,?_⟩
        show RdAt t H3 p (JM.better (JM.bestTo L j) (JM.readBy j L))
        unfold JM.better
        rw [if_pos (by omega)]
        exact r3'
      · have g:¬(JM.bestTo L j).1<(JM.readBy j L).1:=fun z=>g (decide_eq_true (by omega))
        refine ⟨b,_,_,rfl,s2.trans s3,?_⟩
        show RdAt t H3 b (JM.better (JM.bestTo L j) (JM.readBy j L))
        unfold JM.better
        rw [if_neg g]
        exact r2'
    · rintro σ H2 ⟨b,x2,x3,rfl,s2,r2⟩
      exact ⟨_,rfl,k H2 b s2 r2⟩
def spSplit (K:PySem.W.Frag):Sp:=fun vs H Q _=>∃ (a:Addr) (b:Bs),vs=[.ref a]∧SqL K H a (b.map vB)∧b.length≤100000∧∀ (H':Hp) (p:Addr),Same H H'→Each H' p LnAt (Pu.pieces b)→Q (.ref p) H'
theorem scSplit:FnScope ["text", "lines", "line", "byte"] ["text"] (defScope sSplit):=⟨rfl,rfl,rfl,by decide +kernel,rfl,by decide +kernel,by decide +kernel⟩
structure Cut (b:Bs) (H H':Hp) (p l:Addr) (i:Nat):Prop where
  ex:∃ (as:List Addr) (done:List Bs) (cur:Bs),H' p=some (.lst (as.map V.ref))∧as.length=done.length∧(∀ (j:Nat) (a:Addr) (x:Bs),as[j]?=some a→done[j]?=some x→LnAt H' a x)∧
    LnAt H' l cur∧p ∉ as∧l ∉ as∧(10:UInt8) ∉ cur∧Pu.pieces b=done++Pu.pieces (cur++b.drop i)∧as.length≤i∧cur.length≤i
  lp:l≠p
  np:H p=none
  nl:H l=none
  sm:Same H H'
theorem ok_split {f:Addr}{fd:FuncData}(F:Fun K "split_lines" "split_lines" sSplit f fd) (T:Txt K w mg t):FnOk P w K mg base CX0 1 f fd ["text"] (spSplit K):=by
  refine F.ok scSplit (fun vs H Q E h=>?_) (fun cdv A outer s H vs Q E hr h=>?_)
  · obtain ⟨a,b,rfl,_⟩:=h
    rfl
  · obtain ⟨a,b,rfl,hS,hb,k⟩:=h
    have big:(100001:Nat)<sizeLine:=by decide
    refine ⟨_,pss_cons (ps_set (i:=1) scSplit.nd rfl (Or.inl rfl) (pe_lst pa_nil))
      (pss_cons (ps_set (i:=2) scSplit.nd rfl (Or.inl rfl) (pe_lst pa_nil))
      (pss_cons (ps_for PassesOwn.never rfl (pi_list (pv 0)) (pg_name (i:=3) scSplit.nd rfl (Or.inl rfl))
        (pss_cons (ps_expr (pe_bm PySem.F.plainAttrs_list PySem.F.slot_list_append PySem.F.type_list_append mt_append (pv 2) (pa_cons (pv 3) pa_nil)))
        (pss_one (ps_if (pt_cmpR op_eq (pv 3) (pe_k T.kEnd rfl) (nomark _)) (pss_cons (ps_expr (pe_bm PySem.F.plainAttrs_list PySem.F.slot_list_append PySem.F.type_list_append mt_append (pv 1) (pa_cons (pv 2) pa_nil))) (pss_one (ps_set (i:=2) scSplit.nd rfl (Or.inl rfl) (pe_lst pa_nil)))) pss_nil))))
      (pss_cons (ps_if (pt_truth (pv 2) (fun _=>rfl)) (pss_one (ps_expr (pe_bm PySem.F.plainAttrs_list PySem.F.slot_list_append PySem.F.type_list_append mt_append (pv 1) (pa_cons (pv 2) pa_nil)))) pss_nil)
      (pss_one (ps_ret (pv 1)))))),?_⟩
    refine ⟨Nat.zero_le _,fun p hp=>?_⟩
    refine ⟨Nat.zero_le _,fun l hl=>?_⟩
    have npl:l≠p:=Ne.symm (ne_of_none (upd_same (H:=H) (a:=p) (o:=.lst [])) hl)
    have hl0:H l=none:=by rw [upd_ne npl] at hl; exact hl
    have s0:Same H (upd (upd H p (.lst [])) l (.lst [])):=(same_upd hp).trans (same_upd hl)
    refine ⟨_,rfl,a,rfl,⟨_,s0.seq hS⟩,for_list (K:=K) (a:=a) (xs:=b.map vB) (fun i σ H'=>∃ (l:Addr) (x:Option V),σ=[some (.ref a),some (.ref p),some (.ref l),x]∧Cut b H H' p l i) ?_ (fun i σ H' _ ⟨_,_,_,c⟩=>c.sm.seq hS) ?_ ?_⟩
    · refine ⟨l,none,rfl,⟨[],[],[],by rw [upd_ne (Ne.symm npl)]; exact upd_same,rfl,fun j a x ha=>(by cases ha),upd_same,(by simp),(by simp),(by simp),rfl,Nat.le_refl _,Nat.le_refl _⟩,npl,hp,hl0,s0⟩
    · rintro i y σ H1 hi ⟨l,x,rfl,⟨as,done,cur,h1,h2,h3,h4,h5,h6,h7,h8,h9,h10⟩,lp,np,nl,sm⟩
      obtain ⟨c,hc,rfl⟩:=get_vB hi
      have hil:i<b.length:=(List.getElem?_eq_some_iff.mp hc).1
      have hdr:b.drop i=c::b.drop (i+1):=by
        obtain ⟨z,e⟩:=List.getElem?_eq_some_iff.mp hc
        rw [←e,←List.drop_eq_getElem_cons z]
      refine ⟨_,rfl,.inl ⟨rfl,_,SqL.of h4⟩,_,rfl,l,_,_,rfl,rfl,h4,(by rw [List.length_map]; omega),?_⟩
      have g1:upd H1 l (.lst (cur.map vB++[vB c])) l=some (.lst ((cur++[c]).map vB)):=by rw [upd_same,List.map_append]; rfl
      have g2:upd H1 l (.lst (cur.map vB++[vB c])) p=some (.lst (as.map V.ref)):=by rw [upd_ne (Ne.symm lp)]; exact h1
      have g3:∀ (j:Nat) (a:Addr) (x:Bs),as[j]?=some a→done[j]?=some x→LnAt (upd H1 l (.lst (cur.map vB++[vB c]))) a x:=fun j a x ha hx=>by
        have ne:a≠l:=fun z=>h6 (by rw [←z]; exact List.mem_of_getElem? ha)
        unfold LnAt
        rw [upd_ne ne]
        exact h3 j a x ha hx
      have g4:Same H (upd H1 l (.lst (cur.map vB++[vB c]))):=fun q o e=>by
        rw [upd_ne (ne_of_none e nl)]
        exact sm q o e
      generalize upd H1 l (.lst (cur.map vB++[vB c]))=H2 at g1 g2 g3 g4
      refine ⟨_,rfl,rfl,_,rfl,ite2 (fun e=>?_) (fun e=>?_)⟩
      · have ec:c=10:=by
          have:=V.int.inj (of_decide_eq_true e)
          apply UInt8.toNat_inj.mp
          show c.toNat=10
          omega
        subst ec
        refine ⟨_,rfl,.inl ⟨rfl,_,SqL.of g2⟩,_,rfl,p,_,_,rfl,rfl,g2,(by rw [List.length_map]; omega),?_⟩
        have k1:upd H2 p (.lst (as.map V.ref++[V.ref l])) p=some (.lst ((as++[l]).map V.ref)):=by rw [upd_same,List.map_append]; rfl
        have k2:∀ q o,H2 q=some o→q≠p→upd H2 p (.lst (as.map V.ref++[V.ref l])) q=some o:=fun q o e ne=>by rw [upd_ne ne]; exact e
        have k3:Same H (upd H2 p (.lst (as.map V.ref++[V.ref l]))):=fun q o e=>k2 q o (g4 q o e) (ne_of_none e np)
        generalize upd H2 p (.lst (as.map V.ref++[V.ref l]))=H3 at k1 k2 k3
        refine ⟨Nat.zero_le _,fun q hq=>?_⟩
        have k4:=same_upd (o:=.lst []) hq
        have lH3:H3 l=some (.lst ((cur++[10]).map vB)):=k2 l _ g1 lp
        have nql:q≠l:=Ne.symm (ne_of_none lH3 hq)
        have nqp:q≠p:=Ne.symm (ne_of_none k1 hq)
        refine ⟨q,_,rfl,⟨as++[l],done++[cur++[10]],[],k4 _ _ k1,by rw [List.length_append,List.length_append,h2]; rfl,fun j a x ha hx=>?_,upd_same,?_,?_,by simp,?_,by rw [List.length_append]; exact Nat.succ_le_succ h9,Nat.zero_le _⟩,nqp,np,k3.free hq,k3.trans k4⟩
        · by_cases lt:j<as.length
          · rw [List.getElem?_append_left lt] at ha
            rw [List.getElem?_append_left (by omega)] at hx
            have na:a≠p:=fun z=>h5 (by rw [←z]; exact List.mem_of_getElem? ha)
            exact k4 _ _ (k2 _ _ (g3 j a x ha hx) na)
          · rw [List.getElem?_append_right (by omega)] at ha
            rw [List.getElem?_append_right (by omega)] at hx
            have ej:j=as.length:=by
              have:=(List.getElem?_eq_some_iff.mp ha).1
              simp at this
              omega
            subst ej
            rw [Nat.sub_self] at ha
            rw [h2,Nat.sub_self] at hx
            cases ha
            cases hx
            exact k4 _ _ lH3
        · intro z
          rcases List.mem_append.mp z with z | z
          · exact h5 z
          · exact lp (List.mem_singleton.mp z).symm
        · intro z
          rcases List.mem_append.mp z with z | z
          · obtain ⟨j,hj,ej⟩:=List.mem_iff_getElem.mp z
            have hx:done[j]?=some done[j]:=List.getElem?_eq_getElem (by omega)
            have ha:as[j]?=some q:=by rw [List.getElem?_eq_getElem hj,ej]
            have na:q≠p:=fun z=>h5 (by rw [←z]; exact List.mem_of_getElem? ha)
            have:=k2 _ _ (g3 j q _ ha hx) na
            rw [hq] at this
            cases this
          · exact nql (List.mem_singleton.mp z)
        · rw [h8,hdr,JM.pieces_line cur _ h7,List.append_assoc]
          rfl
      · have ec:c≠10:=by
          rintro rfl
          exact e (decide_eq_true rfl)
        refine ⟨l,_,rfl,⟨as,done,cur++[c],g2,h2,g3,g1,h5,h6,?_,?_,by omega,by rw [List.length_append]; exact Nat.succ_le_succ h10⟩,lp,np,nl,g4⟩
        · intro z
          rcases List.mem_append.mp z with z | z
          · exact h7 z
          · exact ec (List.mem_singleton.mp z).symm
        · rw [h8,hdr,List.append_assoc]
          rfl
    · rintro σ H1 ⟨l,x,rfl,⟨as,done,cur,h1,h2,h3,h4,h5,h6,h7,h8,h9,h10⟩,lp,np,nl,sm⟩
      rw [List.length_map] at h8 h9 h10
      rw [List.drop_length,List.append_nil] at h8
      refine ⟨_,rfl,_,.inl ⟨_,SqL.of h4,rfl⟩,?_⟩
      by_cases ce:cur=[]
      · subst ce
        refine iteF ⟨_,rfl,k H1 p sm ?_⟩
        rw [h8]
        exact ⟨as,h1,by rw [h2]; simp [Pu.pieces],fun j a x ha hx=>h3 j a x ha (by simpa [Pu.pieces] using hx)⟩
      · have em:(cur.map vB).isEmpty=false:=by
          cases cur with
          | nil=>exact absurd rfl ce
          | cons _ _=>rfl
        rw [em]
        refine iteT ?_
        refine ⟨_,rfl,.inl ⟨rfl,_,SqL.of h1⟩,_,rfl,p,_,_,rfl,rfl,h1,(by rw [List.length_map]; omega),?_⟩
        refine ⟨_,rfl,k _ p (fun q o e=>by rw [upd_ne (ne_of_none e np)]; exact sm q o e) ?_⟩
        rw [h8,JM.pieces_last cur h7 ce]
        refine ⟨as++[l],by rw [upd_same,List.map_append]; rfl,by rw [List.length_append,List.length_append,h2]; rfl,fun j a x ha hx=>?_⟩
        unfold LnAt
        by_cases lt:j<as.length
        · rw [List.getElem?_append_left lt] at ha
          rw [List.getElem?_append_left (by omega)] at hx
          have na:a≠p:=fun z=>h5 (by rw [←z]; exact List.mem_of_getElem? ha)
          rw [upd_ne na]
          exact h3 j a x ha hx
        · rw [List.getElem?_append_right (by omega)] at ha
          rw [List.getElem?_append_right (by omega)] at hx
          have ej:j=as.length:=by
            have:=(List.getElem?_eq_some_iff.mp ha).1
            simp at this
            omega
          subst ej
          rw [Nat.sub_self] at ha
          rw [h2,Nat.sub_self] at hx
          cases ha
          cases hx
          rw [upd_ne lp]
          exact h4
def spParts (t:Adr):Sp:=fun vs H Q _=>∃ (a:Addr) (ls:List Bs),vs=[.ref a]∧Each H a LnAt ls∧∀ (H':Hp) (p:Addr),Same H H'→Each H' p (PtAt t) (JM.readParts (ls.take 64))→Q (.ref p) H'
theorem scParts:FnScope ["lines", "parts", "line", "part"] ["lines"] (defScope sParts):=⟨rfl,rfl,rfl,by decide +kernel,rfl,by decide +kernel,by decide +kernel⟩
theorem readParts_take:∀ (ls:List Bs) (i:Nat) (L:Bs),ls[i]?=some L→(JM.readParts (ls.take i)).length=i→JM.readParts (ls.take (i+1))=JM.readParts (ls.take i)++(match (JM.readLine L).2 with | none=>[] | some x=>[x])
  | [],i,L,h,_=>by simp at h
  | A::r,0,L,h,_=>by
    have e:A=L:=Option.some.inj h
    subst e
    show JM.readParts [A]=JM.readParts []++_
    cases e:(JM.readLine A).2 with
    | none=>simp [JM.readParts,e]
    | some x=>simp [JM.readParts,e]
  | A::r,i+1,L,h,hl=>by
    have h':r[i]?=some L:=h
    show JM.readParts (A::r.take (i+1))=JM.readParts (A::r.take i)++_
    have hl:(JM.readParts (A::r.take i)).length=i+1:=hl
    rw [JM.readParts,JM.readParts] at *
    cases e:(JM.readLine A).2 with
    | none=>rw [e] at hl; simp at hl
    | some x=>
      rw [e] at hl
      dsimp only at hl ⊢
      rw [readParts_take r i L h' (by simpa using hl)]
      rfl
theorem readParts_stop:∀ (ls:List Bs) (i:Nat) (L:Bs),ls[i]?=some L→(JM.readParts (ls.take i)).length=i→(JM.readLine L).2=none→JM.readParts ls=JM.readParts (ls.take i)
  | [],i,L,h,_,_=>by simp at h
  | A::r,0,L,h,_,hn=>by
    have e:A=L:=Option.some.inj h
    subst e
    rw [JM.readParts,hn]
    rfl
  | A::r,i+1,L,h,hl,hn=>by
    have h':r[i]?=some L:=h
    have hl:(JM.readParts (A::r.take i)).length=i+1:=hl
    show JM.readParts (A::r)=JM.readParts (A::r.take i)
    rw [JM.readParts,JM.readParts] at *
    cases e:(JM.readLine A).2 with
    | none=>rfl
    | some x=>
      rw [e] at hl
      dsimp only at hl ⊢
      rw [readParts_stop r i L h' (by simpa using hl) hn]
theorem each_nil {α:Type}{H:Hp}{p:Addr}{R:Hp→Addr→α→Prop}(h:H p=some (.lst [])):Each H p R []:=⟨[],h,rfl,fun j a x ha=>by cases ha⟩
theorem ok_parts {f:Addr}{fd:FuncData}(F:Fun K "read_parts" "read_parts" sParts f fd) (T:Txt K w mg t) (cLine:Cal P w K mg base "read_line" 5 ["line"] (spLine K t)):FnOk P w K mg base CX0 6 f fd ["lines"] (spParts t):=by
  refine F.ok scParts (fun vs H Q E h=>?_) (fun cdv A outer s H vs Q E hr h=>?_)
  · obtain ⟨a,b,rfl,_⟩:=h
    rfl
  · obtain ⟨a,ls,rfl,⟨bs,hb1,hb2,hb3⟩,k⟩:=h
    refine ⟨_,pss_cons (ps_set (i:=1) scParts.nd rfl (Or.inl rfl) (pe_lst pa_nil))
      (pss_cons (ps_for PassesOwn.never rfl (pi_list (pe_slice sl_list (pv 0) po_none (po_some (pe_k T.kLines rfl)))) (pg_name (i:=2) scParts.nd rfl (Or.inl rfl))
        (pss_cons (ps_set (i:=3) scParts.nd rfl (Or.inl rfl) (pe_fld (pe_cal cLine hr (by decide) rfl (pa_cons (pv 2) pa_nil)) rfl))
        (pss_cons (ps_if (pt_cmpR op_isN (pv 3) pe_non (nomark _)) (pss_one (ps_ret (pv 1))) pss_nil)
        (pss_one (ps_expr (pe_bm PySem.F.plainAttrs_list PySem.F.slot_list_append PySem.F.type_list_append mt_append (pv 1) (pa_cons (pv 3) pa_nil)))))))
      (pss_one (ps_ret (pv 1)))),?_⟩
    refine ⟨Nat.zero_le _,fun p hp=>?_⟩
    have s0:Same H (upd H p (.lst [])):=same_upd hp
    refine ⟨_,rfl,_,rfl,a,_,rfl,SqL.of (s0 _ _ hb1),fun q hq=>?_⟩
    have cutE:cutV (bs.map V.ref) none (some 64)=(bs.take 64).map V.ref:=by
      unfold cutV
      rw [show ((64:Int))=((64:Nat):Int) by rfl,HT.sIx_nat,HT.sIx_none,List.drop_zero,Nat.sub_zero,List.length_map,←List.map_take]
      congr 1
      by_cases z:64≤bs.length
      · rw [Nat.min_eq_left z]
      · rw [Nat.min_eq_right (by omega),List.take_of_length_le (Nat.le_refl _),List.take_of_length_le (by omega)]
    rw [cutE]
    have s1:Same H (upd (upd H p (.lst [])) q (.lst ((bs.take 64).map V.ref))):=s0.trans (same_upd hq)
    have npq:p≠q:=ne_of_none (upd_same (H:=H) (a:=p) (o:=.lst [])) hq
    have hq0:H q=none:=s0.free hq
    have hp1:upd (upd H p (.lst [])) q (.lst ((bs.take 64).map V.ref)) p=some (.lst []):=by rw [upd_ne npq]; exact upd_same
    have hq1:upd (upd H p (.lst [])) q (.lst ((bs.take 64).map V.ref)) q=some (.lst ((bs.take 64).map V.ref)):=upd_same
    generalize upd (upd H p (.lst [])) q (.lst ((bs.take 64).map V.ref))=H1 at s1 hp1 hq1
    have l64:(bs.take 64).length=(ls.take 64).length:=by rw [List.length_take,List.length_take,hb2]
    refine ⟨q,rfl,⟨_,SqL.of hq1⟩,for_list (K:=K) (a:=q) (xs:=(bs.take 64).map V.ref) (fun i σ H'=>∃ (x y:Option V),σ=[some (.ref a),some (.ref p),x,y]∧Same H H'∧H' q=some (.lst ((bs.take 64).map V.ref))∧
        Each H' p (PtAt t) (JM.readParts ((ls.take 64).take i))∧(JM.readParts ((ls.take 64).take i)).length=i)
      ⟨none,none,rfl,s1,hq1,each_nil hp1,rfl⟩ (fun i σ H' _ ⟨_,_,_,_,h,_⟩=>SqL.of h) ?_ ?_⟩
    · rintro i y σ H2 hi ⟨x2,x3,rfl,s2,hq2,⟨as,e1,e2,e3⟩,hl⟩
      obtain ⟨c,hc,rfl⟩:∃ c,(bs.take 64)[i]?=some c∧y=V.ref c:=by
        rw [List.getElem?_map] at hi
        cases e:(bs.take 64)[i]? with
        | none=>rw [e] at hi; cases hi
        | some c=>rw [e] at hi; exact ⟨c,rfl,(Option.some.inj hi).symm⟩
      have hi1:=(List.getElem?_eq_some_iff.mp hc).1
      have hi64:i<64:=by rw [List.length_take] at hi1; omega
      obtain ⟨L,hL⟩:∃ L,(ls.take 64)[i]?=some L:=⟨_,List.getElem?_eq_getElem (by omega)⟩
      have lnL:LnAt H c L:=hb3 i c L (by rw [List.getElem?_take_of_lt hi64] at hc; exact hc) (by rw [List.getElem?_take_of_lt hi64] at hL; exact hL)
      refine ⟨_,rfl,c,L,rfl,SqL.of (s2 _ _ lnL),fun H3 r s3 rd=>?_⟩
      obtain ⟨dr,v,o,m⟩:=rd
      refine ⟨r,t.cR,dr,_,_,rfl,o,T.clR,T.nRp,rfl,?_⟩
      refine ⟨_,rfl,rfl,_,rfl,?_⟩
      cases er:(JM.readLine L).2 with
      | none=>
        rw [er] at m
        have m:v=.non:=m
        subst m
        refine iteT ⟨_,rfl,k H3 p (s2.trans s3) ?_⟩
        rw [readParts_stop (ls.take 64) i L hL hl er]
        exact ⟨as,s3 _ _ e1,e2,fun j a x ha hx=>(e3 j a x ha hx).same s3⟩
      | some x=>
        rw [er] at m
        obtain ⟨b,rfl,pb⟩:=m
        refine iteF ?_
        refine ⟨_,rfl,.inl ⟨rfl,_,SqL.of (s3 _ _ e1)⟩,_,rfl,p,_,_,rfl,rfl,s3 _ _ e1,?_,?_⟩
        · rw [List.length_map,e2,hl]
          exact Nat.lt_trans hi64 (by decide)
        · have stay:∀ z o,H3 z=some o→z≠p→upd H3 p (.lst (as.map V.ref++[V.ref b])) z=some o:=fun z o e ne=>by rw [upd_ne ne]; exact e
          have ptp:∀ a x,PtAt t H3 a x→PtAt t (upd H3 p (.lst (as.map V.ref++[V.ref b]))) a x:=fun a x ⟨dx,d,h1,h2⟩=>
            ⟨dx,d,stay _ _ h1 (ne_of h1 (s3 _ _ e1) (by intro z; cases z)),stay _ _ h2 (ne_of h2 (s3 _ _ e1) (by intro z; cases z))⟩
          refine ⟨_,_,rfl,fun z o e=>stay z o (s3 _ _ (s2 z o e)) (ne_of_none e hp),stay _ _ (s3 _ _ hq2) (Ne.symm npq),?_,?_⟩
          · rw [readParts_take (ls.take 64) i L hL hl,er]
            refine ⟨as++[b],by rw [upd_same,List.map_append]; rfl,by rw [List.length_append,List.length_append,e2]; rfl,fun j a y ha hy=>?_⟩
            by_cases lt:j<as.length
            · rw [List.getElem?_append_left lt] at ha
              rw [List.getElem?_append_left (by omega)] at hy
              exact ptp _ _ ((e3 j a y ha hy).same s3)
            · rw [List.getElem?_append_right (by omega)] at ha
              rw [List.getElem?_append_right (by omega)] at hy
              have ej:j=as.length:=by
                have:=(List.getElem?_eq_some_iff.mp ha).1
                simp at this
                omega
              subst ej
              rw [Nat.sub_self] at ha
              rw [e2,Nat.sub_self] at hy
              cases ha
              cases hy
              exact ptp _ _ pb
          · rw [readParts_take (ls.take 64) i L hL hl,er,List.length_append,hl]
            rfl
    · rintro σ H2 ⟨x2,x3,rfl,s2,hq2,e,hl⟩
      rw [List.length_map,l64,List.take_length] at e
      exact ⟨_,rfl,k H2 p s2 e⟩
theorem lk_word (i:Nat) (d:Addr):(pf i d).lookup ("word" : Str)=some (.str (wordS i)):=by
  unfold pf
  simp [List.lookup]
theorem lk_end (i:Nat) (d:Addr):(pf i d).lookup ("ending" : Str)=some (.str (endS i)):=by
  unfold pf
  have h:(("ending" : Str)==("word" : Str))=false:=by decide +kernel
  simp [List.lookup,h]
theorem lk_nums (i:Nat) (d:Addr):(pf i d).lookup ("numbers" : Str)=some (.ref d):=by
  unfold pf
  have h:(("numbers" : Str)==("word" : Str))=false:=by decide +kernel
  have h2:(("numbers" : Str)==("ending" : Str))=false:=by decide +kernel
  simp [List.lookup,h,h2]
theorem isWord (x:Str) (f:Nat→Bool) (h:∀ i,i<10→decide (wordS i=x)=f i) {i:Nat}(hi:i<10):decide (V.str (wordS i)=V.str x)=f i:=by
  rw [←h i hi]
  exact decide_eq_decide.mpr ⟨fun z=>V.str.inj z,fun z=>by rw [z]⟩
theorem w_key {i:Nat}(hi:i<10):decide (V.str (wordS i)=V.str "key")=(decide (i=2) || decide (i=3)):=isWord "key" (fun i=>decide (i=2) || decide (i=3)) (by decide +kernel) hi
theorem w_see {i:Nat}(hi:i<10):decide (V.str (wordS i)=V.str "see")=decide (i=6):=isWord "see" (fun i=>decide (i=6)) (by decide +kernel) hi
theorem w_sum {i:Nat}(hi:i<10):decide (V.str (wordS i)=V.str "sum")=decide (i=4):=isWord "sum" (fun i=>decide (i=4)) (by decide +kernel) hi
theorem w_count {i:Nat}(hi:i<10):decide (V.str (wordS i)=V.str "count")=decide (i=5):=isWord "count" (fun i=>decide (i=5)) (by decide +kernel) hi
theorem w_list {i:Nat}(hi:i<10):decide (V.str (wordS i)=V.str "list")=decide (7≤i):=isWord "list" (fun i=>decide (7≤i)) (by decide +kernel) hi
theorem e_holes {i:Nat}(hi:i<10):decide (V.str (endS i)=V.str "holes")=decide (i=2):=by
  have h:∀ i,i<10→decide (endS i = "holes")=decide (i=2):=by decide +kernel
  rw [←h i hi]
  exact decide_eq_decide.mpr ⟨fun z=>V.str.inj z,fun z=>by rw [z]⟩
theorem let_are:∀ i,i<10→JM.letters (JM.codes i)=([[67,82],[67,82],[67,78,80],[67,78,80],[67,78,80,87],[80,87],[67,78,80],[],[],[]]:List (List Nat)).getD i []:=by decide +kernel
def NumIs (H:Hp) (d:Addr) (x:Str) (n:Nat):Prop:=DGet H d (.str x) (some (.int (n:Int)))
theorem num_is {H:Hp}{d:Addr}{kvs:List (Key×V)}{x:Str}{n:Nat}(h:H d=some (.dK kvs)) (e:valV kvs (Sum.inr x)=some (.int (n:Int))):NumIs H d x n:=by
  have:=DGet.k (k:=Sum.inr x) h
  rw [e] at this
  exact this
def spPass (t:Adr):Sp:=fun vs H Q _=>∃ (a:Addr) (x:JM.Pt),vs=[.ref a]∧PtAt t H a x∧JM.PtOk x∧Q (.int ((JM.passM x:Nat):Int)) H
theorem scPass:FnScope ["part"] ["part"] (defScope sPass):=⟨rfl,rfl,rfl,by decide +kernel,rfl,by decide +kernel,by decide +kernel⟩
theorem ok_pass {f:Addr}{fd:FuncData}(F:Fun K "part_passes" "part_passes" sPass f fd) (T:Txt K w mg t):FnOk P w K mg base CX0 1 f fd ["part"] (spPass t):=by
  refine F.ok scPass (fun vs H Q E h=>?_) (fun cdv A outer s H vs Q E hr h=>?_)
  · obtain ⟨a,x,rfl,_⟩:=h
    rfl
  · obtain ⟨a,⟨i,vs⟩,rfl,⟨dx,d,ha,hd⟩,⟨hi,ok⟩,k⟩:=h
    dsimp only at ha hd hi ok
    have hu:=hu_of hr
    refine ⟨_,pss_cons (ps_if (pt_cmpR op_ne (pe_fld (pv 0) rfl) pe_str (nomark _)) (pss_one (ps_ret pe_int)) pss_nil)
      (pss_cons (ps_if (pt_cmpR op_eq (pe_fld (pv 0) rfl) pe_str (nomark _)) (pss_one (ps_ret (pe_op op_mul pe_int (pe_dget hu (pe_fld (pv 0) rfl) pe_str (fun _ _=>rfl))))) pss_nil)
      (pss_one (ps_ret (pe_dget hu (pe_fld (pv 0) rfl) pe_str (fun _ _=>rfl))))),?_⟩
    refine ⟨_,rfl,a,t.cP,dx,_,_,rfl,ha,T.clP,T.nPw,lk_word i d,rfl,_,rfl,?_⟩
    rw [w_key hi]
    by_cases e2:i=2
    · subst e2
      refine iteF ?_
      refine ⟨_,rfl,a,t.cP,dx,_,_,rfl,ha,T.clP,T.nPe,lk_end 2 d,rfl,_,rfl,?_⟩
      rw [e_holes hi]
      obtain ⟨c,n,p,rfl,h1,h2,h3,h4⟩:=ok
      rw [let_are 2 hi] at hd
      have nn:NumIs H d "N" n:=num_is hd rfl
      exact iteT ⟨_,rfl,a,t.cP,dx,_,_,rfl,ha,T.clP,T.nPn,lk_nums 2 d,d,_,rfl,nn,_,_,rfl,rfl,.inl ⟨by decide,by decide⟩,k⟩
    · by_cases e3:i=3
      · subst e3
        refine iteF ?_
        refine ⟨_,rfl,a,t.cP,dx,_,_,rfl,ha,T.clP,T.nPe,lk_end 3 d,rfl,_,rfl,?_⟩
        rw [e_holes hi]
        obtain ⟨c,n,p,rfl,h1,h2,h3,h4⟩:=ok
        rw [let_are 3 hi] at hd
        have nn:NumIs H d "N" n:=num_is hd rfl
        exact iteF ⟨_,rfl,a,t.cP,dx,_,_,rfl,ha,T.clP,T.nPn,lk_nums 3 d,d,_,rfl,nn,k⟩
      · rw [decide_eq_false e2,decide_eq_false e3]
        refine iteT ?_
        have z:JM.passM (i,vs)=0:=by
          unfold JM.passM
          dsimp only
          split
          · exact absurd rfl e2
          · exact absurd rfl e3
          · rfl
        rw [z] at k
        exact k
def spField:Sp:=fun vs H Q _=>∃ (d:Addr) (c n:Nat),vs=[.ref d]∧NumIs H d "C" c∧NumIs H d "N" n∧Q (.bl (decide (c+n≤80))) H
theorem scField:FnScope ["numbers"] ["numbers"] (defScope sField):=⟨rfl,rfl,rfl,by decide +kernel,rfl,by decide +kernel,by decide +kernel⟩
theorem ok_field {f:Addr}{fd:FuncData}(F:Fun K "has_field" "has_field" sField f fd) (T:Txt K w mg t):FnOk P w K mg base CX0 1 f fd ["numbers"] spField:=by
  refine F.ok scField (fun vs H Q E h=>?_) (fun cdv A outer s H vs Q E hr h=>?_)
  · obtain ⟨d,c,n,rfl,_⟩:=h
    rfl
  · obtain ⟨d,c,n,rfl,hc,hn,k⟩:=h
    have hu:=hu_of hr
    refine ⟨_,pss_one (ps_ret (pe_cmpR op_le (pe_op op_add (pe_dget hu (pv 0) pe_str (fun _ _=>rfl)) (pe_dget hu (pv 0) pe_str (fun _ _=>rfl))) (pe_k T.kCols rfl) (nomark _))),?_⟩
    refine ⟨_,rfl,d,_,rfl,hc,_,rfl,d,_,rfl,hn,_,_,rfl,rfl,_,_,rfl,rfl,?_⟩
    rw [←show decide ((c:Int)+(n:Int)≤80)=decide (c+n≤80) from decide_eq_decide.mpr (by omega)] at k
    exact k
def spRoom (t:Adr):Sp:=fun vs H Q _=>∃ (a:Addr) (x:JM.Pt),vs=[.ref a]∧PtAt t H a x∧JM.PtOk x∧Q (.bl (JM.roomM x)) H
theorem scRoom:FnScope ["part", "numbers", "amount"] ["part"] (defScope sRoom):=⟨rfl,rfl,rfl,by decide +kernel,rfl,by decide +kernel,by decide +kernel⟩
theorem ok_room {f:Addr}{fd:FuncData}(F:Fun K "has_room" "has_room" sRoom f fd) (T:Txt K w mg t) (cField:Cal P w K mg base "has_field" 1 ["numbers"] spField):FnOk P w K mg base CX0 2 f fd ["part"] (spRoom t):=by
  refine F.ok scRoom (fun vs H Q E h=>?_) (fun cdv A outer s H vs Q E hr h=>?_)
  · obtain ⟨a,x,rfl,_⟩:=h
    rfl
  · obtain ⟨a,⟨i,vs⟩,rfl,⟨dx,d,ha,hd⟩,⟨hi,ok⟩,k⟩:=h
    dsimp only at ha hd hi ok
    have hu:=hu_of hr
    refine ⟨_,pss_cons (ps_set (i:=1) scRoom.nd rfl (Or.inl rfl) (pe_fld (pv 0) rfl))
      (pss_cons (ps_if (PW.pt (pw_or (pt_cmpR op_eq (pe_fld (pv 0) rfl) pe_str (nomark _)) (pw_or1 (pt_cmpR op_eq (pe_fld (pv 0) rfl) pe_str (nomark _)))))
        (pss_one (ps_ret (pe_and (pe_cal cField hr (by decide) rfl (pa_cons (pv 1) pa_nil)) (pe_one (pe_cmpR op_le (pe_op op_add (pe_dget hu (pv 1) pe_str (fun _ _=>rfl)) (pe_dget hu (pv 1) pe_str (fun _ _=>rfl))) (pe_k T.kPlaces rfl) (nomark _)))))) pss_nil)
      (pss_cons (ps_if (pt_cmpR op_eq (pe_fld (pv 0) rfl) pe_str (nomark _))
        (pss_cons (ps_set (i:=2) scRoom.nd rfl (Or.inl rfl) (pe_and (pe_cal cField hr (by decide) rfl (pa_cons (pv 1) pa_nil)) (pe_one (pe_cmpR op_le (pe_dget hu (pv 1) pe_str (fun _ _=>rfl)) (pe_k T.kAmt rfl) (nomark _)))))
        (pss_one (ps_ret (pe_and (pv 2) (pe_one (pe_cmpR op_le (pe_op op_add (pe_dget hu (pv 1) pe_str (fun _ _=>rfl)) (pe_dget hu (pv 1) pe_str (fun _ _=>rfl))) (pe_k T.kPlaces rfl) (nomark _))))))) pss_nil)
      (pss_cons (ps_if (pt_cmpR op_eq (pe_fld (pv 0) rfl) pe_str (nomark _)) (pss_one (ps_ret (pe_cmpR op_le (pe_op op_add (pe_dget hu (pv 1) pe_str (fun _ _=>rfl)) (pe_dget hu (pv 1) pe_str (fun _ _=>rfl))) (pe_k T.kPlaces rfl) (nomark _)))) pss_nil)
      (pss_one (ps_ret pe_bl))))),?_⟩
    refine ⟨_,rfl,a,t.cP,dx,_,_,rfl,ha,T.clP,T.nPn,lk_nums i d,?_⟩
    have isW:∀ x:Str,TIs (tTest (tOp rEq (tFld K (tVar 0) "word") (tC (.str x)))) [some (.ref a),some (.ref d),none] H (decide (V.str (wordS i)=V.str x)):=fun x Q q=>⟨_,rfl,a,t.cP,dx,_,_,rfl,ha,T.clP,T.nPw,lk_word i d,rfl,_,rfl,q⟩
    refine TIs.or (isW "key") (fun _=>isW "see") _ ?_
    rw [w_key hi,w_see hi]
    have room3:∀ c n p:Nat,vs=[c,n,p]→NumIs H d "C" c→NumIs H d "N" n→NumIs H d "P" p→(JM.roomM (i,vs)=(decide (c+n≤80)&&decide (p+n≤132)))→tRet (tAndV (tCall spField [] E0 (tCons (tVar 1) tNil)) (tOp (rI0 fun i j=>.bl (decide (i≤j))) (tOp (rI0 fun i j=>.int (i+j)) (tDGet (tVar 1) (tC (.str "P"))) (tDGet (tVar 1) (tC (.str "N")))) (tC (.int 132))))
        { nx:=fun _ H'=>Q .non H',rt:=Q } [some (.ref a),some (.ref d),none] H:=by
      intro c n p ev hc hn hp hrm
      refine ⟨_,rfl,d,c,n,rfl,hc,hn,_,rfl,?_⟩
      rw [hrm] at k
      refine ite2 (fun g=>?_) (fun g=>?_)
      · rw [g,Bool.true_and] at k
        refine ⟨_,rfl,d,_,rfl,hp,_,rfl,d,_,rfl,hn,_,_,rfl,rfl,_,_,rfl,rfl,?_⟩
        rw [←show decide ((p:Int)+(n:Int)≤132)=decide (p+n≤132) from decide_eq_decide.mpr (by omega)] at k
        exact k
      · rw [(Bool.not_eq_true _).mp g,Bool.false_and] at k
        exact k
    match i,hi with
    | 0,hi=>exact iteF (isW "sum" _ (by rw [w_sum hi]; exact iteF (isW "count" _ (by rw [w_count hi]; exact iteF k))))
    | 1,hi=>exact iteF (isW "sum" _ (by rw [w_sum hi]; exact iteF (isW "count" _ (by rw [w_count hi]; exact iteF k))))
    | 2,hi=>
      rw [let_are 2 hi] at hd
      obtain ⟨c,n,p,rfl,h1,h2,h3,h4⟩:=ok
      exact iteT (room3 c n p rfl (num_is hd rfl) (num_is hd rfl) (num_is hd rfl) rfl)
    | 3,hi=>
      rw [let_are 3 hi] at hd
      obtain ⟨c,n,p,rfl,h1,h2,h3,h4⟩:=ok
      exact iteT (room3 c n p rfl (num_is hd rfl) (num_is hd rfl) (num_is hd rfl) rfl)
    | 4,hi=>
      rw [let_are 4 hi] at hd
      obtain ⟨c,n,p,ww,rfl,h1,h2,h3,h4,h5,h6⟩:=ok
      have hc:NumIs H d "C" c:=num_is hd rfl
      have hn:NumIs H d "N" n:=num_is hd rfl
      have hp:NumIs H d "P" p:=num_is hd rfl
      have hw:NumIs H d "W" ww:=num_is hd rfl
      refine iteF (isW "sum" _ ?_)
      rw [w_sum hi]
      refine iteT ⟨_,rfl,d,c,n,rfl,hc,hn,_,rfl,?_⟩
      have k:Q (.bl ((decide (c+n≤80)&&decide (n≤18))&&decide (p+ww≤132))) H:=k
      have last:∀ b:Bool,Q (.bl (b&&decide (p+ww≤132))) H→tRet (tAndV (tVar 2) (tOp (rI0 fun i j=>.bl (decide (i≤j))) (tOp (rI0 fun i j=>.int (i+j)) (tDGet (tVar 1) (tC (.str "P"))) (tDGet (tVar 1) (tC (.str "W")))) (tC (.int 132))))
          { nx:=fun _ H'=>Q .non H',rt:=Q } [some (.ref a),some (.ref d),some (.bl b)] H:=by
        intro b k
        refine ⟨_,rfl,b,rfl,?_⟩
        refine ite2 (fun g=>?_) (fun g=>?_)
        · rw [g,Bool.true_and] at k
          refine ⟨_,rfl,d,_,rfl,hp,_,rfl,d,_,rfl,hw,_,_,rfl,rfl,_,_,rfl,rfl,?_⟩
          rw [←show decide ((p:Int)+(ww:Int)≤132)=decide (p+ww≤132) from decide_eq_decide.mpr (by omega)] at k
          exact k
        · rw [(Bool.not_eq_true _).mp g,Bool.false_and] at k
          exact k
      refine ite2 (fun g=>?_) (fun g=>?_)
      · rw [g,Bool.true_and] at k
        refine ⟨_,rfl,d,_,rfl,hn,_,_,rfl,rfl,?_⟩
        rw [←show decide ((n:Int)≤18)=decide (n≤18) from decide_eq_decide.mpr (by omega)] at k
        exact last _ k
      · rw [(Bool.not_eq_true _).mp g,Bool.false_and] at k
        exact last false k
    | 5,hi=>
      rw [let_are 5 hi] at hd
      obtain ⟨p,ww,rfl,h4,h5,h6⟩:=ok
      have hp:NumIs H d "P" p:=num_is hd rfl
      have hw:NumIs H d "W" ww:=num_is hd rfl
      refine iteF (isW "sum" _ ?_)
      rw [w_sum hi]
      refine iteF (isW "count" _ ?_)
      rw [w_count hi]
      refine iteT ⟨_,rfl,d,_,rfl,hp,_,rfl,d,_,rfl,hw,_,_,rfl,rfl,_,_,rfl,rfl,?_⟩
      have k:Q (.bl (decide (p+ww≤132))) H:=k
      rw [←show decide ((p:Int)+(ww:Int)≤132)=decide (p+ww≤132) from decide_eq_decide.mpr (by omega)] at k
      exact k
    | 6,hi=>
      rw [let_are 6 hi] at hd
      obtain ⟨c,n,p,rfl,h1,h2,h3,h4⟩:=ok
      exact iteT (room3 c n p rfl (num_is hd rfl) (num_is hd rfl) (num_is hd rfl) rfl)
    | 7,hi=>exact iteF (isW "sum" _ (by rw [w_sum hi]; exact iteF (isW "count" _ (by rw [w_count hi]; exact iteF k))))
    | 8,hi=>exact iteF (isW "sum" _ (by rw [w_sum hi]; exact iteF (isW "count" _ (by rw [w_count hi]; exact iteF k))))
    | 9,hi=>exact iteF (isW "sum" _ (by rw [w_sum hi]; exact iteF (isW "count" _ (by rw [w_count hi]; exact iteF k))))
    | i+10,hi=>omega
theorem get_ref {as:List Addr}{i:Nat}{y:V}(h:(as.map V.ref)[i]?=some y):∃ c,as[i]?=some c∧y=V.ref c:=by
  rw [List.getElem?_map] at h
  cases e:as[i]? with
  | none=>rw [e] at h; cases h
  | some c=>rw [e] at h; exact ⟨c,rfl,(Option.some.inj h).symm⟩
def spUnfit (t:Adr):Sp:=fun vs H Q _=>∃ (a:Addr) (ps:List JM.Pt),vs=[.ref a]∧Each H a (PtAt t) ps∧(∀ x∈ps,JM.PtOk x)∧∀ H':Hp,Same H H'→Q (match JM.unfit (ps.map JM.rl) with
  | some i=>.int (i:Int)
  | none=>.non) H'
theorem scUnfit:FnScope ["parts", "counts", "latest", "passes", "index", "part", "sort", "most"] ["parts"] (defScope sUnfit):=⟨rfl,rfl,rfl,by decide +kernel,rfl,by decide +kernel,by decide +kernel⟩
def cl (ps:List JM.Pt):List V:=(List.range 5).map fun s=>V.int ((JM.cnt ps s:Nat):Int)
theorem sort_lt (i:Nat):JM.sortAt i<5:=by
  unfold JM.sortAt
  repeat' split
  all_goals decide
theorem cl_at (ps:List JM.Pt) {s:Nat}(h:s<5):(cl ps)[s]?=some (V.int ((JM.cnt ps s:Nat):Int)):=by
  unfold cl
  rw [List.getElem?_map,List.getElem?_range h]
  rfl
theorem cl_step (ps:List JM.Pt) (x:JM.Pt):(cl ps).set (JM.sortAt x.1) (V.int (((JM.cnt ps (JM.sortAt x.1):Nat):Int)+1))=cl (ps++[x]):=by
  apply List.ext_getElem?
  intro j
  have hs:=sort_lt x.1
  have len:(cl ps).length=5:=by unfold cl; simp
  by_cases hj:j<5
  · rw [cl_at _ hj]
    by_cases e:JM.sortAt x.1=j
    · subst e
      rw [List.getElem?_set_self (by omega),JM.cnt_snoc]
      rfl
    · rw [List.getElem?_set_ne e,cl_at _ hj]
      have:JM.cnt (ps++[x]) j=JM.cnt ps j:=by
        unfold JM.cnt
        rw [List.filter_append,List.filter_cons,if_neg (by simpa using e),List.filter_nil,List.append_nil]
      rw [this]
  · rw [List.getElem?_eq_none (by rw [List.length_set]; omega),List.getElem?_eq_none (by unfold cl; simp; omega)]
theorem sorts_at:∀ i,i<10→sorts.lookup (wordS i)=some (.int ((JM.sortAt i:Nat):Int)):=by decide +kernel
theorem most_at:∀ s,s<5→atI [V.int 16,V.int 3,V.int 8,V.int 16,V.int 1] ((s:Nat):Int)=some (V.int ((Pu.mostOf s:Nat):Int)):=by decide +kernel
theorem lastSort_snoc (ps:List JM.Pt) (x:JM.Pt):JM.lastSort (ps++[x])=JM.sortAt x.1:=by
  unfold JM.lastSort
  rw [List.getLast?_append]
  rfl
theorem blk2:blkC ["parts", "counts", "latest", "passes", "index", "part", "sort", "most"] (defScope sUnfit) { kind:=.function,names:=[(".0",.local),("most",.local)],isGenerator:=false,isCoroutine:=false } [("most",7)]=true:=by decide +kernel
theorem ok_unfit {f:Addr}{fd:FuncData}(F:Fun K "first_unfit" "first_unfit" sUnfit f fd) (T:Txt K w mg t) (cPass:Cal P w K mg base "part_passes" 1 ["part"] (spPass t)) (cRoom:Cal P w K mg base "has_room" 2 ["part"] (spRoom t)) :
    FnOk P w K mg base CX0 3 f fd ["parts"] (spUnfit t):=by
  refine F.ok scUnfit (fun vs H Q E h=>?_) (fun cdv A outer s H vs Q E hr h=>?_)
  · obtain ⟨a,ps,rfl,_⟩:=h
    rfl
  · obtain ⟨a,ps,rfl,⟨as,h1,h2,h3⟩,ok,k⟩:=h
    refine ⟨_,pss_cons (ps_setLc (own:=[("most",7)]) (i:=1) rfl scUnfit.nd rfl rfl (sw_true rfl rfl rfl rfl) (pi_tup (pe_o T.gM rfl)) (blkOk_by blk2) (fun s H C cl fp=>pg_name (i:=7) scUnfit.nd rfl (Or.inl rfl)) (fun s H C cl fp=>pts_nil) (fun s H C cl fp=>pe_int))
      (pss_cons (ps_set (i:=2) scUnfit.nd rfl (Or.inl rfl) pe_int)
      (pss_cons (ps_set (i:=3) scUnfit.nd rfl (Or.inl rfl) pe_int)
      (pss_cons (ps_for PassesOwn.never rfl (pi_enum rfl T.zEnum (pa_cons (pv 0) pa_nil)) (pg_tup rfl (pgs_cons (pg_name (i:=4) scUnfit.nd rfl (Or.inl rfl)) (pgs_cons (pg_name (i:=5) scUnfit.nd rfl (Or.inl rfl)) pgs_nil)))
        (pss_cons (ps_set (i:=6) scUnfit.nd rfl (Or.inl rfl) (pe_kget (pe_o T.gS rfl) (pe_fld (pv 5) rfl) (fun _ _=>rfl)))
        (pss_cons (ps_augS (pv 1) (pv 6) get_list pe_int ip_add set_list)
        (pss_cons (ps_aug (i:=3) scUnfit.nd rfl (Or.inl rfl) (pe_cal cPass hr (by decide) rfl (pa_cons (pv 5) pa_nil)) ip_add)
        (pss_cons (ps_if (PW.pt (pw_or (pt_cmpR op_lt (pv 6) (pv 2) (nomark _)) (pw_or1 (pt_cmpR op_gt (pe_ix ix_list (pv 1) (pv 6) (fun _ _=>rfl)) (pe_ix ix_tup (pe_o T.gM rfl) (pv 6) (fun _ _=>rfl)) (nomark _))))) (pss_one (ps_ret (pv 4))) pss_nil)
        (pss_cons (ps_if (PW.pt (pw_or (pt_cmpR op_gt (pv 3) (pe_k T.kPasses rfl) (nomark _)) (pw_or1 (pt_not (pt_val (pe_cal cRoom hr (by decide) rfl (pa_cons (pv 5) pa_nil))))))) (pss_one (ps_ret (pv 4))) pss_nil)
        (pss_one (ps_set (i:=2) scUnfit.nd rfl (Or.inl rfl) (pv 6)))))))))
      (pss_one (ps_ret pe_non))))),?_⟩
    refine ⟨t.aM,rfl,⟨_,T.sM _⟩,fun D hD=>?_⟩
    refine lc_tup (K:=K) (a:=t.aM) (xs:=[.int 16,.int 3,.int 8,.int 16,.int 1]) (fun i H'=>Same H H'∧H' D=some (.lst (List.replicate i (V.int 0))))
      ⟨same_upd hD,upd_same⟩ (fun _ _ _ _=>T.sM _) ?_ ?_
    · rintro i y H' hi ⟨s,hd⟩
      have hil:i<5:=(List.getElem?_eq_some_iff.mp hi).1
      refine ⟨rfl,_,hd,?_,?_,?_⟩
      · rw [List.length_replicate]
        exact Nat.lt_trans hil (by decide)
      · intro b o e
        rw [upd_ne (ne_of_none e hD)]
        exact s b o e
      · rw [upd_same,←List.replicate_succ']
    rintro H1 ⟨s1,hd1⟩
    have hd1:H1 D=some (.lst (cl (ps.take 0))):=hd1
    refine ⟨_,rfl,a,_,rfl,SqL.of (s1 _ _ h1),for_enum (K:=K) (a:=a) (xs:=as.map V.ref) (fun i σ H'=>∃ (x4 x5 x6 x7:Option V),σ=[some (.ref a),some (.ref D),some (.int ((JM.lastSort (ps.take i):Nat):Int)),some (.int ((((ps.take i).map JM.passM).sum:Nat):Int)),x4,x5,x6,x7]∧
        Same H H'∧H' D=some (.lst (cl (ps.take i)))∧∀ j,j<i→Pu.lineFine (ps.map JM.rl) j=true)
      ⟨none,none,none,none,rfl,s1,hd1,fun j hj=>absurd hj (Nat.not_lt_zero j)⟩ (fun i σ H' _ ⟨_,_,_,_,_,s,_⟩=>SqL.of (s _ _ h1)) ?_ ?_⟩
    · rintro i y σ H2 Tp hi ⟨x4,x5,x6,x7,rfl,s2,hd2,fine⟩ hTp
      obtain ⟨c,hc,rfl⟩:=get_ref hi
      have hil:=(List.getElem?_eq_some_iff.mp hc).1
      obtain ⟨x,hx⟩:∃ x,ps[i]?=some x:=⟨_,List.getElem?_eq_getElem (by omega)⟩
      have okx:=ok x (List.mem_of_getElem? hx)
      have s3:Same H2 (upd H2 Tp (.tup [.int (i:Nat),.ref c])):=same_upd hTp
      have ht3:upd H2 Tp (.tup [.int (i:Nat),.ref c]) Tp=some (.tup [.int (i:Nat),.ref c]):=upd_same
      have hd3:=s3 _ _ hd2
      have s23:=s2.trans s3
      have px:=(h3 i c x hc hx).same s23
      generalize upd H2 Tp (.tup [.int (i:Nat),.ref c])=H3 at ht3 hd3 s23 px
      have hs5:=sort_lt x.1
      refine ⟨Tp,_,rfl,SqT.of ht3,rfl,_,_,rfl,_,_,rfl,rfl,?_⟩
      obtain ⟨dx,d,ha,hdd⟩:=id px
      refine ⟨_,rfl,c,t.cP,dx,_,_,rfl,ha,T.clP,T.nPw,lk_word x.1 d,t.aS,sorts,_,_,rfl,rfl,T.dS,sorts_at x.1 okx.1,?_⟩
      refine ⟨_,rfl,_,rfl,D,_,_,_,rfl,rfl,SqL.of hd3,atI_nat (cl_at (ps.take i) hs5),_,_,rfl,rfl,D,_,_,JM.sortAt x.1,rfl,rfl,hd3,?_,?_⟩
      · unfold ixN
        rw [if_pos (by omega),if_pos (by unfold cl; simp; omega)]
        rfl
      rw [cl_step,←JM.take_snoc hx]
      have stay:∀ z o,H3 z=some o→z≠D→upd H3 D (.lst (cl (ps.take (i+1)))) z=some o:=fun z o e ne=>by rw [upd_ne ne]; exact e
      have nD:H D=none:=hD
      have s4:Same H (upd H3 D (.lst (cl (ps.take (i+1))))):=fun z o e=>stay z o (s23 z o e) (ne_of_none e nD)
      have px4:PtAt t (upd H3 D (.lst (cl (ps.take (i+1))))) c x:=⟨dx,d,stay _ _ ha (ne_of ha hd3 (by intro z; cases z)),stay _ _ hdd (ne_of hdd hd3 (by intro z; cases z))⟩
      have hd4:upd H3 D (.lst (cl (ps.take (i+1)))) D=some (.lst (cl (ps.take (i+1)))):=upd_same
      generalize upd H3 D (.lst (cl (ps.take (i+1))))=H4 at s4 px4 hd4
      refine ⟨_,rfl,_,rfl,c,x,rfl,px4,okx,_,_,rfl,rfl,?_⟩
      have psum:((((ps.take i).map JM.passM).sum:Nat):Int)+((JM.passM x:Nat):Int)=((((ps.take (i+1)).map JM.passM).sum:Nat):Int):=by
        rw [JM.take_snoc hx,List.map_append,List.sum_append]
        simp
      have lf:=JM.line_fine hx okx fine
      have hps:((ps.take (i+1)).map JM.passM).sum=((ps.take i).map JM.passM).sum+JM.passM x:=by
        rw [JM.take_snoc hx,List.map_append,List.sum_append]
        simp
      have hcn:JM.cnt (ps.take (i+1)) (JM.sortAt x.1)=JM.cnt (ps.take i) (JM.sortAt x.1)+1:=by rw [JM.take_snoc hx,JM.cnt_snoc]
      unfold JM.fineM at lf
      rw [←hps,←hcn] at lf
      have out:Pu.lineFine (ps.map JM.rl) i=false→Q (.int (i:Int)) H4:=fun z=>by
        have:=k H4 s4
        rw [JM.unfit_some (by rw [List.length_map]; omega) fine z] at this
        exact this
      dsimp only
      rw [psum]
      have test1:=TIs.or (t:=tTest (tOp (rI0 fun i j=>.bl (decide (i<j))) (tVar 6) (tVar 2))) (u:=tTest (tOp (rI0 fun i j=>.bl (decide (j<i))) (tOp (rIxL K) (tVar 1) (tVar 6)) (tOp (rIxT K) (tC (.ref t.aM)) (tVar 6))))
        (σ:=[some (.ref a),some (.ref D),some (.int ((JM.lastSort (ps.take i):Nat):Int)),some (.int ((((ps.take (i+1)).map JM.passM).sum:Nat):Int)),some (.int (i:Int)),some (.ref c),some (.int ((JM.sortAt x.1:Nat):Int)),x7]) (H:=H4)
        (b:=decide (JM.sortAt x.1<JM.lastSort (ps.take i))) (c:=decide (Pu.mostOf (JM.sortAt x.1)<JM.cnt (ps.take (i+1)) (JM.sortAt x.1)))
        (fun Q q=>⟨_,rfl,_,rfl,_,_,rfl,rfl,_,rfl,by
          rw [←show decide (((JM.sortAt x.1:Nat):Int)<((JM.lastSort (ps.take i):Nat):Int))=decide (JM.sortAt x.1<JM.lastSort (ps.take i)) from decide_eq_decide.mpr (by omega)] at q
          exact q⟩)
        (fun _ Q q=>⟨_,rfl,_,rfl,D,_,_,_,rfl,rfl,SqL.of hd4,atI_nat (cl_at (ps.take (i+1)) hs5),_,rfl,t.aM,_,_,_,rfl,rfl,T.sM _,most_at _ hs5,_,_,rfl,rfl,_,rfl,by
          rw [←show decide (((Pu.mostOf (JM.sortAt x.1):Nat):Int)<((JM.cnt (ps.take (i+1)) (JM.sortAt x.1):Nat):Int))=decide (Pu.mostOf (JM.sortAt x.1)<JM.cnt (ps.take (i+1)) (JM.sortAt x.1)) from decide_eq_decide.mpr (by omega)] at q
          exact q⟩)
      refine test1 _ ?_
      generalize (decide (JM.sortAt x.1<JM.lastSort (ps.take i)) || decide (Pu.mostOf (JM.sortAt x.1)<JM.cnt (ps.take (i+1)) (JM.sortAt x.1)))=b1 at lf
      cases b1 with
      | true=>exact iteT ⟨_,rfl,out (by rw [lf]; rfl)⟩
      | false=>
        refine iteF ?_
        have test2:=TIs.or (t:=tTest (tOp (rI0 fun i j=>.bl (decide (j<i))) (tVar 3) (tC (.int 250)))) (u:=tNot (tB (tCall (spRoom t) [] E0 (tCons (tVar 5) tNil))))
          (σ:=[some (.ref a),some (.ref D),some (.int ((JM.lastSort (ps.take i):Nat):Int)),some (.int ((((ps.take (i+1)).map JM.passM).sum:Nat):Int)),some (.int (i:Int)),some (.ref c),some (.int ((JM.sortAt x.1:Nat):Int)),x7]) (H:=H4)
          (b:=decide (250<((ps.take (i+1)).map JM.passM).sum)) (c:=!JM.roomM x)
          (fun Q q=>⟨_,rfl,_,_,rfl,rfl,_,rfl,by
            rw [←show decide ((250:Int)<((((ps.take (i+1)).map JM.passM).sum:Nat):Int))=decide (250<((ps.take (i+1)).map JM.passM).sum) from decide_eq_decide.mpr (by omega)] at q
            exact q⟩)
          (fun _ Q q=>⟨_,rfl,c,x,rfl,px4,okx,_,rfl,q⟩)
        refine test2 _ ?_
        generalize (decide (250<((ps.take (i+1)).map JM.passM).sum) || !JM.roomM x)=b2 at lf
        cases b2 with
        | true=>exact iteT ⟨_,rfl,out (by rw [lf]; rfl)⟩
        | false=>
          refine iteF ⟨_,rfl,?_⟩
          refine ⟨some (.int (i:Int)),some (.ref c),some (.int ((JM.sortAt x.1:Nat):Int)),x7,?_,s4,hd4,fun j hj=>?_⟩
          · rw [show JM.lastSort (ps.take (i+1))=JM.sortAt x.1 by rw [JM.take_snoc hx,lastSort_snoc]]
            rfl
          · by_cases e:j=i
            · subst e
              rw [lf]
              rfl
            · exact fine j (by omega)
    · rintro σ H2 ⟨x4,x5,x6,x7,rfl,s2,hd2,fine⟩
      have:=k H2 s2
      rw [JM.unfit_none (by rw [List.length_map]; rw [List.length_map,h2] at fine; exact fine)] at this
      exact this
def spWrong (t:Adr):Sp:=fun vs H Q _=>∃ (a:Addr) (i:Nat) (ls:List Bs),vs=[.ref a,.int (i:Int)]∧Each H a LnAt ls∧i<ls.length∧∀ (H':Hp) (p:Addr),Same H H'→H' p=some (.lst (([1,(i:Int),if i=64 then 0 else ((JM.readLine (ls.getD i [])).1:Int)]:List Int).map V.int))→Q (.ref p) H'
theorem scWrong:FnScope ["lines", "index"] ["lines", "index"] (defScope sWrong):=⟨rfl,rfl,rfl,by decide +kernel,rfl,by decide +kernel,by decide +kernel⟩
theorem ok_wrong {f:Addr}{fd:FuncData}(F:Fun K "wrong_bytes_fault" "wrong_bytes_fault" sWrong f fd) (T:Txt K w mg t) (cLine:Cal P w K mg base "read_line" 5 ["line"] (spLine K t)):FnOk P w K mg base CX0 6 f fd ["lines", "index"] (spWrong t):=by
  refine F.ok scWrong (fun vs H Q E h=>?_) (fun cdv A outer s H vs Q E hr h=>?_)
  · obtain ⟨a,i,ls,rfl,_⟩:=h
    rfl
  · obtain ⟨a,i,ls,rfl,⟨as,h1,h2,h3⟩,hi,k⟩:=h
    refine ⟨_,pss_cons (ps_if (pt_cmpR op_eq (pv 1) (pe_k T.kLines rfl) (nomark _)) (pss_one (ps_ret (pe_lst (pa_cons pe_int (pa_cons (pv 1) (pa_cons pe_int pa_nil)))))) pss_nil)
      (pss_one (ps_ret (pe_lst (pa_cons pe_int (pa_cons (pv 1) (pa_cons (pe_fld (pe_cal cLine hr (by decide) rfl (pa_cons (pe_ix ix_list (pv 0) (pv 1) (fun _ _=>rfl)) pa_nil)) rfl) pa_nil)))))),?_⟩
    refine ⟨_,rfl,rfl,_,rfl,ite2 (fun e=>?_) (fun e=>?_)⟩
    · have e:i=64:=by
        have:=V.int.inj (of_decide_eq_true e)
        omega
      refine ⟨_,rfl,(by show 3≤sizeLine; decide),fun p hp=>k _ p (same_upd hp) ?_⟩
      rw [upd_same,if_pos e]
      rfl
    · have e:i≠64:=by
        rintro rfl
        exact e (decide_eq_true rfl)
      obtain ⟨c,hc⟩:∃ c,as[i]?=some c:=⟨_,List.getElem?_eq_getElem (by omega)⟩
      have hL:ls[i]?=some (ls.getD i []):=by
        rw [List.getD_eq_getElem?_getD,List.getElem?_eq_getElem hi]
        rfl
      refine ⟨_,rfl,_,rfl,_,rfl,a,_,_,_,rfl,rfl,SqL.of h1,atI_nat (by rw [List.getElem?_map,hc]; rfl),c,_,rfl,SqL.of (h3 i c _ hc hL),fun H1 r s1 rd=>?_⟩
      obtain ⟨dr,v,o,m⟩:=rd
      refine ⟨r,t.cR,dr,_,_,rfl,o,T.clR,T.nRr,rfl,(by show 3≤sizeLine; decide),fun p hp=>k _ p (s1.trans (same_upd hp)) ?_⟩
      rw [upd_same,if_neg e]
      rfl
def spFault (t:Adr):Sp:=fun vs H Q _=>∃ (a q:Addr) (b:Bs),vs=[.ref a,.ref q]∧Each H a LnAt (Pu.pieces b)∧Each H q (PtAt t) (JM.psOf b)∧∀ (H':Hp) (p:Addr),Same H H'→H' p=some (.lst ((JM.faultM b).map V.int))→Q (.ref p) H'
theorem scFault:FnScope ["lines", "parts", "unfit"] ["lines", "parts"] (defScope sFault):=⟨rfl,rfl,rfl,by decide +kernel,rfl,by decide +kernel,by decide +kernel⟩
theorem ps_ok (b:Bs):∀ x∈JM.psOf b,JM.PtOk x:=fun x hx=>JM.parts_ok _ (fun p hp=>JM.pieces_are b.length b (Nat.le_refl _) p (List.mem_of_mem_take hp)) x hx
theorem ok_fault {f:Addr}{fd:FuncData}(F:Fun K "find_fault" "find_fault" sFault f fd) (T:Txt K w mg t) (cWrong:Cal P w K mg base "wrong_bytes_fault" 6 ["lines", "index"] (spWrong t)) (cUnfit:Cal P w K mg base "first_unfit" 3 ["parts"] (spUnfit t)) :
    FnOk P w K mg base CX0 7 f fd ["lines", "parts"] (spFault t):=by
  refine F.ok scFault (fun vs H Q E h=>?_) (fun cdv A outer s H vs Q E hr h=>?_)
  · obtain ⟨a,q,b,rfl,_⟩:=h
    rfl
  · obtain ⟨a,q,b,rfl,eL,eP,k⟩:=h
    have hok:=ps_ok b
    have eL':=eL
    have eP':=eP
    obtain ⟨as,a1,a2,a3⟩:=eL
    obtain ⟨qs,q1,q2,q3⟩:=eP
    refine ⟨_,pss_cons (ps_if (pt_cmpR op_lt (pe_callB call_len_seq rfl T.zLen PySem.boot_len (pa_cons (pv 1) pa_nil)) (pe_callB call_len_seq rfl T.zLen PySem.boot_len (pa_cons (pv 0) pa_nil)) (nomark _)) (pss_one (ps_ret (pe_cal cWrong hr (by decide) rfl (pa_cons (pv 0) (pa_cons (pe_callB call_len_seq rfl T.zLen PySem.boot_len (pa_cons (pv 1) pa_nil)) pa_nil))))) pss_nil)
      (pss_cons (ps_set (i:=2) scFault.nd rfl (Or.inl rfl) (pe_cal cUnfit hr (by decide) rfl (pa_cons (pv 1) pa_nil)))
      (pss_cons (ps_if (pt_cmpR op_notN (pv 2) pe_non (nomark _)) (pss_one (ps_ret (pe_lst (pa_cons pe_int (pa_cons (pv 2) (pa_cons pe_int pa_nil)))))) pss_nil)
      (pss_cons (ps_if (PW.pt (pw_or (pt_not (pt_truth (pv 1) (fun _=>rfl))) (pw_or1 (pt_cmpR op_ne (pe_fld (pe_ix ix_list (pv 1) (pe_un un_neg pe_int) (fun _ _=>rfl)) rfl) pe_str (nomark _))))) (pss_one (ps_ret (pe_lst (pa_cons pe_int (pa_cons (pe_callB call_len_seq rfl T.zLen PySem.boot_len (pa_cons (pv 1) pa_nil)) (pa_cons pe_int pa_nil)))))) pss_nil)
      (pss_one (ps_ret (pe_lst pa_nil)))))),?_⟩
    refine ⟨_,rfl,q,_,rfl,.inl (SqL.of q1),_,rfl,a,_,rfl,.inl (SqL.of a1),_,_,rfl,rfl,_,rfl,?_⟩
    rw [show decide (((qs.map V.ref).length:Int)<((as.map V.ref).length:Int))=decide ((JM.psOf b).length<(Pu.pieces b).length) by rw [List.length_map,List.length_map,q2,a2]; exact decide_eq_decide.mpr (by omega)]
    unfold JM.faultM at k
    refine ite2 (fun e=>?_) (fun e=>?_)
    · have e:=of_decide_eq_true e
      rw [if_pos e] at k
      refine ⟨_,rfl,_,rfl,q,_,rfl,.inl (SqL.of q1),a,(JM.psOf b).length,Pu.pieces b,?_,eL',e,k⟩
      rw [List.length_map,q2]
      rfl
    · have e:¬(JM.psOf b).length<(Pu.pieces b).length:=fun z=>e (decide_eq_true z)
      rw [if_neg e] at k
      refine ⟨_,rfl,q,JM.psOf b,rfl,eP',hok,fun H1 s1=>?_⟩
      cases eu:JM.unfit ((JM.psOf b).map JM.rl) with
      | some i=>
        rw [eu] at k
        refine ⟨_,rfl,rfl,_,rfl,iteT ⟨_,rfl,(by show 3≤sizeLine; decide),fun p hp=>k _ p (s1.trans (same_upd hp)) ?_⟩⟩
        rw [upd_same]
        rfl
      | none=>
        rw [eu] at k
        dsimp only at k
        refine ⟨_,rfl,rfl,_,rfl,iteF ?_⟩
        have eq:((JM.psOf b).map JM.rl).getLast?.map Pu.RLine.sort=some 4↔∃ x,(JM.psOf b).getLast?=some x∧7≤x.1:=by
          rw [List.getLast?_map,Option.map_map]
          cases el:(JM.psOf b).getLast? with
          | none=>simp
          | some x=>
            have hx:=hok x (List.mem_of_getLast? el)
            show some ((JM.rl x).sort)=some 4↔_
            rw [JM.sort_rl]
            constructor
            · intro z
              refine ⟨x,rfl,?_⟩
              have z:=Option.some.inj z
              unfold JM.sortAt at z
              repeat' split at z
              all_goals omega
            · rintro ⟨y,ey,hy⟩
              cases ey
              unfold JM.sortAt
              rw [if_neg (by omega),if_neg (by omega),if_neg (by omega),if_neg (by omega)]
        have lenQ:((qs.map V.ref).length:Int)=((JM.psOf b).length:Int):=by rw [List.length_map,q2]
        have test:TIs _ _ H1 (!decide (((JM.psOf b).map JM.rl).getLast?.map Pu.RLine.sort=some 4)):=TIs.or (t:=tNot (fun σ H Q=>tVar 1 σ H fun x H'=>∃ k,TruV K x H' k∧Q k H')) (u:=tTest (tOp rNe (tFld K (tOp (rIxL K) (tVar 1) (tUn (rU fun i=>.int (-i)) (tC (.int 1)))) "word") (tC (.str "list"))))
            (σ:=[some (.ref a),some (.ref q),some .non]) (H:=H1) (b:=qs.isEmpty) (c:=!decide (((JM.psOf b).map JM.rl).getLast?.map Pu.RLine.sort=some 4))
            (fun Q h=>⟨_,rfl,_,.inl ⟨_,SqL.of (s1 _ _ q1),rfl⟩,by
              cases qs with
              | nil=>exact h
              | cons _ _=>exact h⟩)
            (fun ne Q h=>by
              have ne:qs≠[]:=by
                rintro rfl
                cases ne
              obtain ⟨c,hc⟩:∃ c,qs.getLast?=some c:=⟨_,List.getLast?_eq_some_getLast ne⟩
              obtain ⟨x,hx⟩:∃ x,(JM.psOf b).getLast?=some x:=⟨_,List.getLast?_eq_some_getLast (by
                intro z
                rw [z] at q2
                exact ne (List.length_eq_zero_iff.mp q2))⟩
              have pc:PtAt t H1 c x:=(q3 (qs.length-1) c x (by rw [←List.getLast?_eq_getElem?]; exact hc) (by rw [q2,←List.getLast?_eq_getElem?]; exact hx)).same s1
              obtain ⟨dx,d,h1,h2⟩:=pc
              refine ⟨_,rfl,_,rfl,q,_,_,_,rfl,rfl,SqL.of (s1 _ _ q1),at_tail (by rw [List.getLast?_map,hc]; rfl),c,t.cP,dx,_,_,rfl,h1,T.clP,T.nPw,lk_word x.1 d,rfl,_,rfl,?_⟩
              have ox:=hok x (List.mem_of_getLast? hx)
              rw [w_list ox.1]
              have:decide (((JM.psOf b).map JM.rl).getLast?.map Pu.RLine.sort=some 4)=decide (7≤x.1):=decide_eq_decide.mpr (eq.trans ⟨fun ⟨y,ey,hy⟩=>by rw [hx] at ey; cases ey; exact hy,fun z=>⟨x,hx,z⟩⟩)
              rw [this] at h
              exact h) |>.eq (by
                cases hq:qs.isEmpty with
                | false=>rfl
                | true=>
                  have qe:qs=[]:=List.isEmpty_iff.mp hq
                  have pe:JM.psOf b=[]:=by
                    rw [qe] at q2
                    exact List.length_eq_zero_iff.mp q2.symm
                  rw [pe]
                  rfl)
        refine test _ ?_
        by_cases g:((JM.psOf b).map JM.rl).getLast?.map Pu.RLine.sort=some 4
        · rw [decide_eq_true g]
          rw [if_pos g] at k
          exact iteF ⟨Nat.zero_le _,fun p hp=>k _ p (s1.trans (same_upd hp)) upd_same⟩
        · rw [decide_eq_false g]
          rw [if_neg g] at k
          refine iteT ⟨_,rfl,q,_,rfl,.inl (SqL.of (s1 _ _ q1)),(by show 3≤sizeLine; decide),fun p hp=>k _ p (s1.trans (same_upd hp)) ?_⟩
          rw [upd_same,lenQ]
          rfl
def RepAt (t:Adr) (H:Hp) (p:Addr) (b:Bs):Prop:=∃ (dx u r:Addr),H p=some (.ins t.cT dx [("parts",.ref u),("refusal",.ref r)])∧H r=some (.lst ((JM.refM b).map V.int))∧(JM.refM b=[]→Each H u (PtAt t) (JM.psOf b))
def spReport (K:PySem.W.Frag) (t:Adr):Sp:=fun vs H Q _=>∃ (a:Addr) (b:Bs),vs=[.ref a]∧SqL K H a (b.map vB)∧b.length≤65536∧∀ (H':Hp) (p:Addr),Same H H'→RepAt t H' p b→Q (.ref p) H'
theorem scReport:FnScope ["text", "lines", "parts", "fault"] ["text"] (defScope sReport):=⟨rfl,rfl,rfl,by decide +kernel,rfl,by decide +kernel,by decide +kernel⟩
theorem ok_report {f:Addr}{fd:FuncData}(F:Fun K "read_report" "read_report" sReport f fd) (T:Txt K w mg t) (cSplit:Cal P w K mg base "split_lines" 1 ["text"] (spSplit K)) (cParts:Cal P w K mg base "read_parts" 6 ["lines"] (spParts t)) (cFault:Cal P w K mg base "find_fault" 7 ["lines", "parts"] (spFault t))
    (mT:Mak P w K mg base "Report" t.cT 1 ["self", "parts", "refusal"] (spInitT t)):FnOk P w K mg base CX0 8 f fd ["text"] (spReport K t):=by
  refine F.ok scReport (fun vs H Q E h=>?_) (fun cdv A outer s H vs Q E hr h=>?_)
  · obtain ⟨a,b,rfl,_⟩:=h
    rfl
  · obtain ⟨a,b,rfl,hS,hb,k⟩:=h
    refine ⟨_,pss_cons (ps_if (pt_cmpR op_gt (pe_callB call_len_seq rfl T.zLen PySem.boot_len (pa_cons (pv 0) pa_nil)) (pe_k T.kBytes rfl) (nomark _)) (pss_one (ps_ret (pe_mak mT hr (by decide) rfl (pa_cons (pe_lst pa_nil) (pa_cons (pe_lst (pa_cons (pe_k T.kLong rfl) pa_nil)) pa_nil))))) pss_nil)
      (pss_cons (ps_set (i:=1) scReport.nd rfl (Or.inl rfl) (pe_cal cSplit hr (by decide) rfl (pa_cons (pv 0) pa_nil)))
      (pss_cons (ps_set (i:=2) scReport.nd rfl (Or.inl rfl) (pe_cal cParts hr (by decide) rfl (pa_cons (pv 1) pa_nil)))
      (pss_cons (ps_set (i:=3) scReport.nd rfl (Or.inl rfl) (pe_cal cFault hr (by decide) rfl (pa_cons (pv 1) (pa_cons (pv 2) pa_nil))))
      (pss_cons (ps_if (pt_truth (pv 3) (fun _=>rfl)) (pss_one (ps_ret (pe_mak mT hr (by decide) rfl (pa_cons (pe_lst pa_nil) (pa_cons (pe_op op_cat (pe_lst (pa_cons (pe_k T.kFaulty rfl) pa_nil)) (pv 3)) pa_nil))))) pss_nil)
      (pss_one (ps_ret (pe_mak mT hr (by decide) rfl (pa_cons (pv 2) (pa_cons (pe_lst pa_nil) pa_nil))))))))),?_⟩
    refine ⟨_,rfl,a,_,rfl,.inl hS,_,_,rfl,rfl,_,rfl,?_⟩
    rw [show decide ((4096:Int)<((b.map vB).length:Int))=decide (4096<b.length) by rw [List.length_map]; exact decide_eq_decide.mpr (by omega)]
    refine ite2 (fun e=>?_) (fun e=>?_)
    · have e:=of_decide_eq_true e
      refine ⟨Nat.zero_le _,fun u hu=>⟨(by show 1≤sizeLine; decide),fun r hr'=>?_⟩⟩
      intro x dx nx ndx nex
      refine ⟨x,dx,.ref u,.ref r,rfl,upd_same,fun H3 h3 kp=>⟨rfl,k H3 x ?_ ?_⟩⟩
      · exact ((same_upd hu).trans (same_upd hr')).trans (Same.made nx ndx kp)
      · have rf:JM.refM b=[-1]:=by
          unfold JM.refM
          rw [if_pos e]
        refine ⟨dx,u,r,h3,?_,fun z=>by rw [rf] at z; cases z⟩
        rw [rf]
        exact Same.made nx ndx kp _ _ upd_same
    · have e:¬4096<b.length:=fun z=>e (decide_eq_true z)
      refine ⟨_,rfl,a,b,rfl,hS,by omega,fun H1 p1 s1 e1=>?_⟩
      refine ⟨_,rfl,p1,Pu.pieces b,rfl,e1,fun H2 p2 s2 e2=>?_⟩
      refine ⟨_,rfl,_,rfl,p1,p2,b,rfl,e1.same s2 (fun a x h=>s2 _ _ h),e2,fun H3 p3 s3 e3=>?_⟩
      have s13:=(s1.trans s2).trans s3
      have e2':Each H3 p2 (PtAt t) (JM.psOf b):=e2.same s3 (fun a x h=>h.same s3)
      refine ⟨_,rfl,_,.inl ⟨_,SqL.of e3,rfl⟩,?_⟩
      have jd:JM.refM b=if JM.faultM b=[] then [] else -6::JM.faultM b:=by
        unfold JM.refM
        rw [if_neg e]
      by_cases fe:JM.faultM b=[]
      · rw [fe]
        refine iteF ⟨_,rfl,Nat.zero_le _,fun r hr'=>?_⟩
        intro x dx nx ndx nex
        refine ⟨x,dx,.ref p2,.ref r,rfl,upd_same,fun H4 h4 kp=>⟨rfl,k H4 x ?_ ?_⟩⟩
        · exact (s13.trans (same_upd hr')).trans (Same.made nx ndx kp)
        · have s4:=(same_upd (o:=.lst []) hr').trans (Same.made nx ndx kp)
          refine ⟨dx,p2,r,h4,?_,fun _=>e2'.same s4 (fun a x h=>h.same s4)⟩
          rw [jd,if_pos fe]
          exact Same.made nx ndx kp _ _ upd_same
      · have em:((JM.faultM b).map V.int).isEmpty=false:=by
          cases z:JM.faultM b with
          | nil=>exact absurd z fe
          | cons _ _=>rfl
        rw [em]
        have flen:(JM.faultM b).length≤3:=by
          unfold JM.faultM
          repeat' split
          all_goals simp
        refine iteT ⟨Nat.zero_le _,fun u hu=>⟨(by show 1≤sizeLine; decide),fun g hg=>?_⟩⟩
        have su:=same_upd (o:=.lst []) hu
        have sg:=same_upd (o:=.lst [V.int (-6)]) hg
        refine ⟨_,rfl,g,p3,_,_,rfl,rfl,upd_same,sg _ _ (su _ _ e3),?_,fun r hr'=>?_⟩
        · rw [List.length_map]
          refine Nat.le_trans (m:=4) ?_ (by decide)
          show 1+_≤4
          omega
        · have sr:=same_upd (o:=.lst ([V.int (-6)]++(JM.faultM b).map V.int)) hr'
          intro x dx nx ndx nex
          refine ⟨x,dx,.ref u,.ref r,rfl,upd_same,fun H4 h4 kp=>⟨rfl,k H4 x ?_ ?_⟩⟩
          · exact (((s13.trans su).trans sg).trans sr).trans (Same.made nx ndx kp)
          · refine ⟨dx,u,r,h4,?_,fun z=>by rw [jd,if_neg fe] at z; cases z⟩
            rw [jd,if_neg fe]
            exact Same.made nx ndx kp _ _ upd_same
theorem text_back:∀ ns:List Int,(∀ n∈ns,0≤n∧n≤255)→(ReportsNeutral.text ns).map vB=ns.map V.int
  | [],_=>rfl
  | n::ns,h=>by
    have ih:=text_back ns fun m hm=>h m (List.mem_cons_of_mem _ hm)
    have hn:=h n List.mem_cons_self
    show vB (UInt8.ofNat n.toNat)::(ReportsNeutral.text ns).map vB=V.int n::ns.map V.int
    rw [ih]
    congr 1
    unfold vB
    congr 1
    rw [UInt8.toNat_ofNat']
    omega
end
abbrev sWs:Stmt:=top 67
abbrev sKs:Stmt:=top 68
abbrev blkS (names:List (Str×NameKind)):Scope:={ kind:=.function,names:=names,isGenerator:=false,isCoroutine:=false }
section
variable {P:Program}{w:World}{K:PySem.W.Frag}{mg:Str→Option Value}{base:Heap}{t:Adr}
theorem each_of {β:Type}{H:Hp}{p:Addr}{R:Hp→Addr→β→Prop}{ys:List β}(h:EachV H p (fun H v x=>∃ a,v=.ref a∧R H a x) ys):Each H p R ys:=by
  obtain ⟨vs,e,pr⟩:=h
  have go:∀ {vs:List V} {ys:List β},Paired (fun v y=>∃ a,v=.ref a∧R H a y) vs ys→∃ as:List Addr,vs=as.map V.ref∧Paired (fun a y=>R H a y) as ys:=by
    intro vs ys q
    induction q with
    | nil=>exact ⟨[],rfl,.nil⟩
    | cons r _ ih=>
      obtain ⟨a,rfl,h⟩:=r
      obtain ⟨as,rfl,q⟩:=ih
      exact ⟨a::as,rfl,.cons h q⟩
  obtain ⟨as,rfl,q⟩:=go pr
  exact ⟨as,e,paired_len q,fun j a x h1 h2=>paired_at q h1 h2⟩
def PtV (t:Adr) (H:Hp) (v:V) (x:JM.Pt):Prop:=∃ a,v=.ref a∧PtAt t H a x
theorem pt_mono {t:Adr}{D:Addr}(H H':Hp) (y:V) (z:JM.Pt) (acc:List V) (hD:H D=some (.lst acc)) (o:OffD D H H') (h:PtV t H y z):PtV t H' y z:=by
  obtain ⟨a,e,dx,d,h1,h2⟩:=h
  exact ⟨a,e,dx,d,o _ _ (ne_of h1 hD (by intro z; cases z)) h1,o _ _ (ne_of h2 hD (by intro z; cases z)) h2⟩
def spSel (t:Adr) (p:JM.Pt→Bool):Sp:=fun vs H Q _=>∃ (a:Addr) (ps:List JM.Pt),vs=[.ref a]∧Each H a (PtAt t) ps∧(∀ x∈ps,JM.PtOk x)∧ps.length≤64∧∀ (H':Hp) (q:Addr),Same H H'→H q=none→Each H' q (PtAt t) (ps.filter p)→Q (.ref q) H'
theorem w_where {i:Nat}(hi:i<10):decide (V.str (wordS i)=V.str "where")=(decide (i=0) || decide (i=1)):=isWord "where" (fun i=>decide (i=0) || decide (i=1)) (by decide +kernel) hi
theorem scWs:FnScope ["parts", "part"] ["parts"] (defScope sWs):=⟨rfl,rfl,rfl,by decide +kernel,rfl,by decide +kernel,by decide +kernel⟩
theorem blkWs:blkC ["parts", "part"] (defScope sWs) (blkS [(".0",.local),("part",.local)]) [("part",1)]=true:=by decide +kernel
theorem ok_ws {f:Addr}{fd:FuncData}(F:Fun K "wheres_of" "wheres_of" sWs f fd) (T:Txt K w mg t):FnOk P w K mg base CX0 1 f fd ["parts"] (spSel t JM.isW):=by
  refine F.ok scWs (fun vs H Q E h=>?_) (fun cdv A outer s H vs Q E hr h=>?_)
  · obtain ⟨a,ps,rfl,_⟩:=h
    rfl
  · obtain ⟨a,ps,rfl,⟨as,h1,h2,h3⟩,ok,len,k⟩:=h
    refine ⟨_,pss_one (ps_ret (pe_lc (own:=[("part",1)]) (tt:=tTest (tOp rEq (tFld K (tVar 1) "word") (tC (.str "where")))) rfl scWs.nd (pi_list (pv 0)) (blkOk_by blkWs) (fun s H C cl fp=>pg_name (i:=1) scWs.nd rfl (Or.inl rfl))
      (fun s H C cl fp=>pts_one (pt_cmpR op_eq (pe_fld (pv 1) rfl) pe_str (nomark _))) (fun s H C cl fp=>pv 1))),?_⟩
    refine ⟨_,rfl,a,rfl,⟨_,SqL.of h1⟩,fun D hD=>?_⟩
    refine lc_mapL (p:=JM.isW) (f:=id) (S:=PtV t) (by rw [List.length_map]; exact h2) (by omega) hD (SqL.of h1) pt_mono ?_ (fun H' s e=>k H' D s hD (by have e:=each_of e; rw [List.map_id] at e; exact e))
    intro i v x H' hv hx s Fin Nx kY kN
    obtain ⟨c,hc,rfl⟩:=get_ref hv
    obtain ⟨dx,d,g1,g2⟩:=(h3 i c x hc hx).same s
    have okx:=ok x (List.mem_of_getElem? hx)
    refine ⟨rfl,_,rfl,c,t.cP,dx,_,_,rfl,g1,T.clP,T.nPw,lk_word _ _,rfl,_,rfl,?_⟩
    rw [w_where okx.1]
    show if JM.isW x=true then _ else _
    cases e:JM.isW x with
    | true=>exact iteT ⟨_,rfl,kY e H' _ (Same.refl _) ⟨c,rfl,dx,d,g1,g2⟩⟩
    | false=>exact iteF (kN e H' (Same.refl _))
theorem scKs:FnScope ["parts", "part"] ["parts"] (defScope sKs):=⟨rfl,rfl,rfl,by decide +kernel,rfl,by decide +kernel,by decide +kernel⟩
theorem blkKs:blkC ["parts", "part"] (defScope sKs) (blkS [(".0",.local),("part",.local)]) [("part",1)]=true:=by decide +kernel
theorem ok_ks {f:Addr}{fd:FuncData}(F:Fun K "keys_of" "keys_of" sKs f fd) (T:Txt K w mg t):FnOk P w K mg base CX0 1 f fd ["parts"] (spSel t JM.isK):=by
  refine F.ok scKs (fun vs H Q E h=>?_) (fun cdv A outer s H vs Q E hr h=>?_)
  · obtain ⟨a,ps,rfl,_⟩:=h
    rfl
  · obtain ⟨a,ps,rfl,⟨as,h1,h2,h3⟩,ok,len,k⟩:=h
    refine ⟨_,pss_one (ps_ret (pe_lc (own:=[("part",1)]) (tt:=tTest (tOp rEq (tFld K (tVar 1) "word") (tC (.str "key")))) rfl scKs.nd (pi_list (pv 0)) (blkOk_by blkKs) (fun s H C cl fp=>pg_name (i:=1) scKs.nd rfl (Or.inl rfl))
      (fun s H C cl fp=>pts_one (pt_cmpR op_eq (pe_fld (pv 1) rfl) pe_str (nomark _))) (fun s H C cl fp=>pv 1))),?_⟩
    refine ⟨_,rfl,a,rfl,⟨_,SqL.of h1⟩,fun D hD=>?_⟩
    refine lc_mapL (p:=JM.isK) (f:=id) (S:=PtV t) (by rw [List.length_map]; exact h2) (by omega) hD (SqL.of h1) pt_mono ?_ (fun H' s e=>k H' D s hD (by have e:=each_of e; rw [List.map_id] at e; exact e))
    intro i v x H' hv hx s Fin Nx kY kN
    obtain ⟨c,hc,rfl⟩:=get_ref hv
    obtain ⟨dx,d,g1,g2⟩:=(h3 i c x hc hx).same s
    have okx:=ok x (List.mem_of_getElem? hx)
    refine ⟨rfl,_,rfl,c,t.cP,dx,_,_,rfl,g1,T.clP,T.nPw,lk_word _ _,rfl,_,rfl,?_⟩
    rw [w_key okx.1]
    show if JM.isK x=true then _ else _
    cases e:JM.isK x with
    | true=>exact iteT ⟨_,rfl,kY e H' _ (Same.refl _) ⟨c,rfl,dx,d,g1,g2⟩⟩
    | false=>exact iteF (kN e H' (Same.refl _))
structure Nums (H:Hp) (d:Addr) (x:JM.Pt):Prop where
  c:x.1<5∨x.1=6→NumIs H d "C" (JM.n0 x)
  r:x.1<2→NumIs H d "R" (JM.n1 x)
  n:x.1=2∨x.1=3∨x.1=4∨x.1=6→NumIs H d "N" (JM.n1 x)
  p:x.1=2∨x.1=3∨x.1=4∨x.1=6→NumIs H d "P" (JM.n2 x)
  p5:x.1=5→NumIs H d "P" (JM.n0 x)
  w5:x.1=5→NumIs H d "W" (JM.n1 x)
  w4:x.1=4→NumIs H d "W" (JM.n3 x)
theorem nums_at {H:Hp}{d:Addr}{x:JM.Pt}(ok:JM.PtOk x) (h:H d=some (.dK (nums (JM.letters (JM.codes x.1)) x.2))):Nums H d x:=by
  obtain ⟨i,vs⟩:=x
  obtain ⟨hi,ok⟩:=ok
  dsimp only at h hi ok
  match i,hi with
  | 0,hi=>
    rw [let_are 0 hi] at h
    obtain ⟨c,r,rfl,_⟩:=ok
    exact ⟨fun _=>num_is h rfl,fun _=>num_is h rfl,fun z=>by simp at z,fun z=>by simp at z,fun z=>by simp at z,fun z=>by simp at z,fun z=>by simp at z⟩
  | 1,hi=>
    rw [let_are 1 hi] at h
    obtain ⟨c,r,rfl,_⟩:=ok
    exact ⟨fun _=>num_is h rfl,fun _=>num_is h rfl,fun z=>by simp at z,fun z=>by simp at z,fun z=>by simp at z,fun z=>by simp at z,fun z=>by simp at z⟩
  | 2,hi=>
    rw [let_are 2 hi] at h
    obtain ⟨c,n,p,rfl,_⟩:=ok
    exact ⟨fun _=>num_is h rfl,fun z=>by simp at z,fun z=>num_is h rfl,fun z=>num_is h rfl,fun z=>by simp at z,fun z=>by simp at z,fun z=>by simp at z⟩
  | 3,hi=>
    rw [let_are 3 hi] at h
    obtain ⟨c,n,p,rfl,_⟩:=ok
    exact ⟨fun _=>num_is h rfl,fun z=>by simp at z,fun z=>num_is h rfl,fun z=>num_is h rfl,fun z=>by simp at z,fun z=>by simp at z,fun z=>by simp at z⟩
  | 4,hi=>
    rw [let_are 4 hi] at h
    obtain ⟨c,n,p,ww,rfl,_⟩:=ok
    exact ⟨fun _=>num_is h rfl,fun z=>by simp at z,fun z=>num_is h rfl,fun z=>num_is h rfl,fun z=>by simp at z,fun z=>by simp at z,fun z=>num_is h rfl⟩
  | 5,hi=>
    rw [let_are 5 hi] at h
    obtain ⟨p,ww,rfl,_⟩:=ok
    exact ⟨fun z=>by simp at z,fun z=>by simp at z,fun z=>by simp at z,fun z=>by simp at z,fun _=>num_is h rfl,fun z=>num_is h rfl,fun z=>by simp at z⟩
  | 6,hi=>
    rw [let_are 6 hi] at h
    obtain ⟨c,n,p,rfl,_⟩:=ok
    exact ⟨fun _=>num_is h rfl,fun z=>by simp at z,fun z=>num_is h rfl,fun z=>num_is h rfl,fun z=>by simp at z,fun z=>by simp at z,fun z=>by simp at z⟩
  | 7,hi=>exact ⟨fun z=>by simp at z,fun z=>by simp at z,fun z=>by simp at z,fun z=>by simp at z,fun z=>by simp at z,fun z=>by simp at z,fun z=>by simp at z⟩
  | 8,hi=>exact ⟨fun z=>by simp at z,fun z=>by simp at z,fun z=>by simp at z,fun z=>by simp at z,fun z=>by simp at z,fun z=>by simp at z,fun z=>by simp at z⟩
  | 9,hi=>exact ⟨fun z=>by simp at z,fun z=>by simp at z,fun z=>by simp at z,fun z=>by simp at z,fun z=>by simp at z,fun z=>by simp at z,fun z=>by simp at z⟩
  | i+10,hi=>omega
end
abbrev sHasR:Stmt:=top 11
abbrev sTopR:Stmt:=top 12
abbrev sFldOf:Stmt:=top 13
abbrev sMeant:Stmt:=top 73
abbrev sKeyF:Stmt:=top 74
abbrev sKeyR:Stmt:=top 75
abbrev sRanks:Stmt:=top 76
def vN (h:Nat):V:=.int (h:Int)
def CdAt (H:Hp) (a:Addr) (x:Pu.Card):Prop:=H a=some (.lst (x.map vN))
theorem CdAt.same {H H':Hp}{a:Addr}{x:Pu.Card}(s:Same H H') (h:CdAt H a x):CdAt H' a x:=s _ _ h
theorem get_vN {L:List Nat}{i:Nat}{y:V}(h:(L.map vN)[i]?=some y):∃ c,L[i]?=some c∧y=vN c:=by
  rw [List.getElem?_map] at h
  cases e:L[i]? with
  | none=>rw [e] at h; cases h
  | some c=>rw [e] at h; exact ⟨c,rfl,(Option.some.inj h).symm⟩
theorem mt_bits {X:Cx}:MtR X "int.bit_length" (fun x xs H Q=>∃ i:Int,x=.int i∧xs=[]∧Q (.int ((Builtin.Int.intBits i:Nat):Int)) H):=by
  intro pins s σ H x xs v us Q I rx rv h
  obtain ⟨i,rfl,rfl,q⟩:=h
  obtain ⟨t,rfl⟩:=rx
  rw [Vals.zero rv]
  exact PyProof.Rows.call_int_bit_length ⟨.int _,H,I.tok _,⟨_,rfl⟩,q⟩
section
variable {P:Program}{w:World}{K:PySem.W.Frag}{mg:Str→Option Value}{base:Heap}{t:Adr}
def spHasR:Sp:=fun vs H Q _=>∃ h r:Nat,vs=[vN h,vN r]∧Q (.bl (h.testBit r)) H
theorem scHasR:FnScope ["holes", "row"] ["holes", "row"] (defScope sHasR):=⟨rfl,rfl,rfl,by decide +kernel,rfl,by decide +kernel,by decide +kernel⟩
theorem ok_hasR {f:Addr}{fd:FuncData}(F:Fun K "has_row" "has_row" sHasR f fd):FnOk P w K mg base CX0 1 f fd ["holes", "row"] spHasR:=by
  refine F.ok scHasR (fun vs H Q E h=>?_) (fun cdv A outer s H vs Q E hr h=>?_)
  · obtain ⟨h,r,rfl,_⟩:=h
    rfl
  · obtain ⟨h,r,rfl,k⟩:=h
    refine ⟨_,pss_one (ps_ret (pe_cmpR op_eq (pe_op op_and (pe_op op_shr (pv 0) (pv 1)) pe_int) pe_int (nomark _))),?_⟩
    refine ⟨_,rfl,_,rfl,_,_,rfl,rfl,(by show (0:Int)≤(r:Int); omega),_,_,rfl,rfl,rfl,?_⟩
    have e:decide (V.int (Builtin.bitAnd ((h:Int) / 2 ^ ((r:Int)).toNat) 1)=V.int 1)=h.testBit r:=by
      rw [dec_int,bitAnd_m1,Int.toNat_natCast,Nat.testBit_eq_decide_div_mod_eq]
      have e2:(h:Int) / 2 ^ r % 2=((h / 2 ^ r % 2:Nat):Int):=by
        rw [Int.natCast_emod,Int.natCast_ediv,Int.natCast_pow]
        rfl
      rw [e2]
      apply Bool.eq_iff_iff.mpr
      simp
      omega
    rw [←e] at k
    exact k
def spTopR:Sp:=fun vs H Q _=>∃ h:Nat,vs=[vN h]∧h<4096∧Q (vN (Pu.topOf h)) H
theorem scTopR:FnScope ["holes"] ["holes"] (defScope sTopR):=⟨rfl,rfl,rfl,by decide +kernel,rfl,by decide +kernel,by decide +kernel⟩
theorem ok_topR {f:Addr}{fd:FuncData}(F:Fun K "top_rank" "top_rank" sTopR f fd):FnOk P w K mg base CX0 1 f fd ["holes"] spTopR:=by
  refine F.ok scTopR (fun vs H Q E h=>?_) (fun cdv A outer s H vs Q E hr h=>?_)
  · obtain ⟨h,rfl,_⟩:=h
    rfl
  · obtain ⟨h,rfl,hl,k⟩:=h
    refine ⟨_,pss_one (ps_ret (pe_bm0 PySem.F.plainAttrs_int PySem.F.slot_int_bit_length PySem.F.type_int_bit_length mt_bits (pv 0))),?_⟩
    refine ⟨_,rfl,rfl,_,rfl,rfl,?_⟩
    have e:Builtin.Int.intBits (h:Int)=Pu.topOf h:=by
      rw [JM.top_log h hl]
      unfold Builtin.Int.intBits
      by_cases z:h=0
      · subst z; rfl
      · rw [if_neg z,if_neg (by simp; omega)]
        rfl
    rw [e]
    exact k
theorem cut_vN {L:List Nat}{c n:Nat}:cutV (L.map vN) (some (c:Int)) (some ((c+n:Nat):Int))=(Pu.fieldOf L c n).map vN:=by
  unfold cutV Pu.fieldOf
  rw [HT.sIx_nat,HT.sIx_nat,List.length_map,List.map_take,List.map_drop]
  by_cases h:c≤L.length
  · rw [Nat.min_eq_left h]
    by_cases h2:c+n≤L.length
    · rw [Nat.min_eq_left h2,Nat.add_sub_cancel_left]
    · rw [Nat.min_eq_right (by omega),List.take_of_length_le (by rw [List.length_drop,List.length_map]; omega),List.take_of_length_le (by rw [List.length_drop,List.length_map]; omega)]
  · rw [Nat.min_eq_right (by omega),Nat.min_eq_right (by omega),List.drop_eq_nil_of_le (by rw [List.length_map]; omega),List.drop_eq_nil_of_le (by rw [List.length_map]; omega)]
    simp
def spFldOf:Sp:=fun vs H Q _=>∃ (a:Addr) (x:Pu.Card) (c n:Nat),vs=[.ref a,vN c,vN n]∧CdAt H a x∧∀ p,H p=none→Q (.ref p) (upd H p (.lst ((Pu.fieldOf x c n).map vN)))
theorem scFldOf:FnScope ["card", "column", "length"] ["card", "column", "length"] (defScope sFldOf):=⟨rfl,rfl,rfl,by decide +kernel,rfl,by decide +kernel,by decide +kernel⟩
theorem ok_fldOf {f:Addr}{fd:FuncData}(F:Fun K "field_of" "field_of" sFldOf f fd):FnOk P w K mg base CX0 1 f fd ["card", "column", "length"] spFldOf:=by
  refine F.ok scFldOf (fun vs H Q E h=>?_) (fun cdv A outer s H vs Q E hr h=>?_)
  · obtain ⟨a,x,c,n,rfl,_⟩:=h
    rfl
  · obtain ⟨a,x,c,n,rfl,ha,k⟩:=h
    refine ⟨_,pss_one (ps_ret (pe_slice sl_list (pv 0) (po_some (pv 1)) (po_some (pe_op op_add (pv 1) (pv 2))))),?_⟩
    refine ⟨_,rfl,_,rfl,_,rfl,_,rfl,_,rfl,_,_,rfl,rfl,_,rfl,a,_,rfl,SqL.of ha,fun p hp=>?_⟩
    have e:cutV (x.map vN) (some (c:Int)) (some ((c:Int)+(n:Int)))=(Pu.fieldOf x c n).map vN:=by
      rw [show (c:Int)+(n:Int)=((c+n:Nat):Int) by omega]
      exact cut_vN
    rw [e]
    exact k p hp
def KeyIn (t:Adr) (vs:List V) (H:Hp) (x:Pu.Card) (k:JM.Pt):Prop:=∃ a b,vs=[.ref a,.ref b]∧CdAt H a x∧PtAt t H b k∧JM.PtOk k∧JM.isK k=true
def spKeyF (t:Adr):Sp:=fun vs H Q _=>∃ (x:Pu.Card) (k:JM.Pt),KeyIn t vs H x k∧∀ p,H p=none→Q (.ref p) (upd H p (.lst ((Pu.fieldOf x (JM.n0 k) (JM.n1 k)).map vN)))
theorem scKeyF:FnScope ["card", "key"] ["card", "key"] (defScope sKeyF):=⟨rfl,rfl,rfl,by decide +kernel,rfl,by decide +kernel,by decide +kernel⟩
theorem ok_keyF {f:Addr}{fd:FuncData}(F:Fun K "key_field" "key_field" sKeyF f fd) (T:Txt K w mg t) (cFldOf:Cal P w K mg base "field_of" 1 ["card", "column", "length"] spFldOf):FnOk P w K mg base CX0 2 f fd ["card", "key"] (spKeyF t):=by
  refine F.ok scKeyF (fun vs H Q E h=>?_) (fun cdv A outer s H vs Q E hr h=>?_)
  · obtain ⟨x,k,⟨a,b,rfl,_⟩,_⟩:=h
    rfl
  · obtain ⟨x,kk,⟨a,b,rfl,ha,⟨dx,d,hb,hd⟩,ok,isk⟩,k⟩:=h
    have hu:=hu_of hr
    have nm:=nums_at ok hd
    have x23:=JM.is_num.2.1.mp isk
    refine ⟨_,pss_one (ps_ret (pe_cal cFldOf hr (by decide) rfl (pa_cons (pv 0) (pa_cons (pe_dget hu (pe_fld (pv 1) rfl) pe_str (fun _ _=>rfl)) (pa_cons (pe_dget hu (pe_fld (pv 1) rfl) pe_str (fun _ _=>rfl)) pa_nil))))),?_⟩
    refine ⟨_,rfl,_,rfl,b,t.cP,dx,_,_,rfl,hb,T.clP,T.nPn,lk_nums _ _,d,_,rfl,nm.c (by omega),_,rfl,b,t.cP,dx,_,_,rfl,hb,T.clP,T.nPn,lk_nums _ _,d,_,rfl,nm.n (by omega),?_⟩
    exact ⟨a,x,_,_,rfl,ha,k⟩
def NatV (H:Hp) (v:V) (n:Nat):Prop:=v=vN n
theorem nat_mono {D:Addr}(H H':Hp) (y:V) (z:Nat) (acc:List V) (hD:H D=some (.lst acc)) (o:OffD D H H') (h:NatV H y z):NatV H' y z:=h
theorem nats_of {H:Hp}{p:Addr}{ns:List Nat}(h:EachV H p NatV ns):H p=some (.lst (ns.map vN)):=by
  obtain ⟨vs,e,pr⟩:=h
  have go:∀ {vs:List V} {ns:List Nat},Paired (fun v n=>NatV H v n) vs ns→vs=ns.map vN:=by
    intro vs ns q
    induction q with
    | nil=>rfl
    | cons r _ ih=>rw [List.map_cons,←ih,show _=vN _ from r]
  rw [e,go pr]
theorem fld_mem {x:Pu.Card}{c n h:Nat}(hm:h∈Pu.fieldOf x c n):h∈x:=List.mem_of_mem_drop (List.mem_of_mem_take hm)
theorem fld_len {x:Pu.Card}{c n:Nat}:(Pu.fieldOf x c n).length≤x.length:=by
  unfold Pu.fieldOf
  rw [List.length_take,List.length_drop]
  omega
theorem w_top {i:Nat}(hi:i<10):decide (V.str (endS i)=V.str "top")=decide (i=3):=by
  match i,hi with
  | 0,_=>decide +kernel
  | 1,_=>decide +kernel
  | 2,_=>decide +kernel
  | 3,_=>decide +kernel
  | 4,_=>decide +kernel
  | 5,_=>decide +kernel
  | 6,_=>decide +kernel
  | 7,_=>decide +kernel
  | 8,_=>decide +kernel
  | 9,_=>decide +kernel
  | i+10,hi=>omega
theorem w_yes {i:Nat}(hi:i<10):decide (V.str (endS i)=V.str "yes")=decide (i=0):=by
  match i,hi with
  | 0,_=>decide +kernel
  | 1,_=>decide +kernel
  | 2,_=>decide +kernel
  | 3,_=>decide +kernel
  | 4,_=>decide +kernel
  | 5,_=>decide +kernel
  | 6,_=>decide +kernel
  | 7,_=>decide +kernel
  | 8,_=>decide +kernel
  | 9,_=>decide +kernel
  | i+10,hi=>omega
def CdOk (x:Pu.Card):Prop:=x.length=80∧∀ h∈x,h<4096
def spKeyR (t:Adr):Sp:=fun vs H Q _=>∃ (x:Pu.Card) (k:JM.Pt),KeyIn t vs H x k∧CdOk x∧∀ H' p,Same H H'→H p=none→H' p=some (.lst ((JM.ranksM x k).map vN))→Q (.ref p) H'
theorem scKeyR:FnScope ["card", "key", "field", "holes"] ["card", "key"] (defScope sKeyR):=⟨rfl,rfl,rfl,by decide +kernel,rfl,by decide +kernel,by decide +kernel⟩
theorem blkKeyR:blkC ["card", "key", "field", "holes"] (defScope sKeyR) (blkS [(".0",.local),("holes",.local),("top_rank",.globalImplicit)]) [("holes",3)]=true:=by decide +kernel
theorem ok_keyR {f:Addr}{fd:FuncData}(F:Fun K "key_ranks" "key_ranks" sKeyR f fd) (T:Txt K w mg t) (cKeyF:Cal P w K mg base "key_field" 2 ["card", "key"] (spKeyF t)) (cTopR:Cal P w K mg base "top_rank" 1 ["holes"] spTopR):FnOk P w K mg base CX0 3 f fd ["card", "key"] (spKeyR t):=by
  refine F.ok scKeyR (fun vs H Q E h=>?_) (fun cdv A outer s H vs Q E hr h=>?_)
  · obtain ⟨x,k,⟨a,b,rfl,_⟩,_⟩:=h
    rfl
  · obtain ⟨x,kk,⟨a,b,rfl,ha,⟨dx,d,hb,hd⟩,ok,isk⟩,⟨cl,ch⟩,k⟩:=h
    have x23:=JM.is_num.2.1.mp isk
    refine ⟨_,pss_cons (ps_set (i:=2) scKeyR.nd rfl (Or.inl rfl) (pe_cal cKeyF hr (by decide) rfl (pa_cons (pv 0) (pa_cons (pv 1) pa_nil))))
      (pss_cons (ps_if (pt_cmpR op_eq (pe_fld (pv 1) rfl) pe_str (nomark _)) (pss_one (ps_ret (pe_lc (own:=[("holes",3)]) rfl scKeyR.nd (pi_list (pv 2)) (blkOk_by blkKeyR) (fun s H C cl fp=>pg_name (i:=3) scKeyR.nd rfl (Or.inl rfl)) (fun s H C cl fp=>pts_nil)
        (fun s H C cl fp=>pe_cal cTopR hr (by decide) rfl (pa_cons (pv 3) pa_nil))))) pss_nil)
      (pss_one (ps_ret (pv 2)))),?_⟩
    refine ⟨_,rfl,_,rfl,x,kk,⟨a,b,rfl,ha,⟨dx,d,hb,hd⟩,ok,isk⟩,fun p hp=>?_⟩
    have s1:=same_upd (o:=.lst ((Pu.fieldOf x (JM.n0 kk) (JM.n1 kk)).map vN)) hp
    refine ⟨_,rfl,b,t.cP,dx,_,_,rfl,s1 _ _ hb,T.clP,T.nPe,lk_end _ _,rfl,_,rfl,?_⟩
    rw [w_top ok.1]
    refine ite2 (fun e=>?_) (fun e=>?_)
    · have e3:kk.1=3:=of_decide_eq_true e
      refine ⟨_,rfl,p,rfl,⟨_,SqL.of upd_same⟩,fun D hD=>?_⟩
      have hD0:H D=none:=s1.free hD
      refine lc_mapL (xs:=Pu.fieldOf x (JM.n0 kk) (JM.n1 kk)) (p:=fun _=>true) (f:=Pu.topOf) (S:=NatV) (by rw [List.length_map]) (by have:=@fld_len x (JM.n0 kk) (JM.n1 kk); omega) hD (SqL.of upd_same) nat_mono ?_ (fun H' s e=>k H' D (s1.trans s) hD0 ?_)
      · intro i v h H' hv hx s Fin Nx kY kN
        obtain ⟨c,hc,rfl⟩:=get_vN hv
        rw [hx] at hc
        cases hc
        refine ⟨rfl,yes_do ⟨_,rfl,h,rfl,ch h (fld_mem (List.mem_of_getElem? hx)),?_⟩⟩
        exact kY rfl H' _ (Same.refl _) rfl
      · rw [flt_all] at e
        rw [nats_of e]
        unfold JM.ranksM
        congr 2
        congr 1
        apply List.map_congr_left
        intro h _
        unfold JM.rankM
        rw [if_neg (by omega)]
    · have e2:kk.1=2:=by
        have:kk.1≠3:=fun z=>e (decide_eq_true z)
        omega
      refine ⟨_,rfl,k _ p s1 hp ?_⟩
      rw [upd_same]
      unfold JM.ranksM
      rw [show JM.rankM kk=id from funext fun h=>by unfold JM.rankM; rw [if_pos e2]; rfl,List.map_id]
def spRanks (t:Adr):Sp:=fun vs H Q _=>∃ (a b:Addr) (x:Pu.Card) (ks:List JM.Pt),vs=[.ref a,.ref b]∧CdAt H a x∧CdOk x∧Each H b (PtAt t) ks∧(∀ k∈ks,JM.PtOk k∧JM.isK k=true)∧ks.length≤64∧
  ∀ H' p,Same H H'→H p=none→H' p=some (.lst ((ks.flatMap (JM.ranksM x)).map vN))→Q (.ref p) H'
theorem scRanks:FnScope ["card", "keys", "ranks", "key"] ["card", "keys"] (defScope sRanks):=⟨rfl,rfl,rfl,by decide +kernel,rfl,by decide +kernel,by decide +kernel⟩
theorem ranks_len {x:Pu.Card}(h:x.length=80):∀ ks:List JM.Pt,(ks.flatMap (JM.ranksM x)).length≤80 * ks.length
  | []=>Nat.zero_le _
  | k::ks=>by
    have:=ranks_len h ks
    have h2:=@fld_len x (JM.n0 k) (JM.n1 k)
    rw [List.flatMap_cons,List.length_append,List.length_cons]
    unfold JM.ranksM
    rw [List.length_map]
    unfold JM.ranksM at this
    omega
theorem ok_ranks {f:Addr}{fd:FuncData}(F:Fun K "card_ranks" "card_ranks" sRanks f fd) (cKeyR:Cal P w K mg base "key_ranks" 3 ["card", "key"] (spKeyR t)):FnOk P w K mg base CX0 4 f fd ["card", "keys"] (spRanks t):=by
  refine F.ok scRanks (fun vs H Q E h=>?_) (fun cdv A outer s H vs Q E hr h=>?_)
  · obtain ⟨a,b,x,ks,rfl,_⟩:=h
    rfl
  · obtain ⟨a,b,x,ks,rfl,ha,cok,⟨bs,b1,b2,b3⟩,okK,lK,k⟩:=h
    have big:(100000:Nat)<sizeLine:=by decide
    refine ⟨_,pss_cons (ps_set (i:=2) scRanks.nd rfl (Or.inl rfl) (pe_lst pa_nil))
      (pss_cons (ps_for PassesOwn.never rfl (pi_list (pv 1)) (pg_name (i:=3) scRanks.nd rfl (Or.inl rfl))
        (pss_one (ps_expr (pe_bm PySem.F.plainAttrs_list PySem.F.slot_list_extend PySem.F.type_list_extend mt_extend (pv 2) (pa_cons (pe_cal cKeyR hr (by decide) rfl (pa_cons (pv 0) (pa_cons (pv 3) pa_nil))) pa_nil)))))
      (pss_one (ps_ret (pv 2)))),?_⟩
    refine ⟨Nat.zero_le _,fun p hp=>?_⟩
    have s0:=same_upd (o:=.lst []) hp
    refine ⟨_,rfl,b,rfl,⟨_,SqL.of (s0 _ _ b1)⟩,for_list (K:=K) (a:=b) (xs:=bs.map V.ref) (fun i σ H'=>∃ y,σ=[some (.ref a),some (.ref b),some (.ref p),y]∧Same H H'∧H' p=some (.lst (((ks.take i).flatMap (JM.ranksM x)).map vN))) ?_ (fun i σ H' _ ⟨_,_,s,_⟩=>SqL.of (s _ _ b1)) ?_ ?_⟩
    · exact ⟨none,rfl,s0,upd_same⟩
    · rintro i y σ H1 hi ⟨z,rfl,s1,h1⟩
      obtain ⟨c,hc,rfl⟩:=get_ref hi
      have hil:i<ks.length:=by rw [←b2]; exact (List.getElem?_eq_some_iff.mp hc).1
      have hk:ks[i]?=some ks[i]:=List.getElem?_eq_getElem hil
      obtain ⟨okk,isk⟩:=okK ks[i] (List.getElem_mem hil)
      refine ⟨_,rfl,.inl ⟨rfl,_,SqL.of h1⟩,_,rfl,_,rfl,x,ks[i],⟨a,c,rfl,ha.same s1,(b3 i c _ hc hk).same s1,okk,isk⟩,cok,fun H2 q s2 hq hH2=>?_⟩
      have l1:=ranks_len cok.1 (ks.take (i+1))
      have et:(ks.take (i+1)).flatMap (JM.ranksM x)=(ks.take i).flatMap (JM.ranksM x)++JM.ranksM x ks[i]:=by
        rw [take_next hk,List.flatMap_append]
        simp
      have l2:(ks.take (i+1)).length≤64:=by rw [List.length_take]; omega
      refine ⟨p,q,_,_,rfl,rfl,s2 _ _ h1,hH2,?_,?_⟩
      · rw [List.length_map,List.length_map,←List.length_append,←et]
        omega
      · refine ⟨_,rfl,fun r o e=>?_,?_⟩
        · rw [upd_ne (ne_of_none e hp)]
          exact s2 _ _ (s1 _ _ e)
        · rw [upd_same,et,List.map_append]
    · rintro σ H1 ⟨z,rfl,s1,h1⟩
      refine ⟨_,rfl,k H1 p s1 hp ?_⟩
      rw [h1,List.length_map,b2,List.take_length]
theorem w_c {x:JM.Pt}(ok:JM.PtOk x) (h:JM.isW x=true):JM.n0 x<80:=by
  obtain ⟨k,vs⟩:=x
  rcases JM.is_num.1.mp h with e | e
  · dsimp only at e
    subst e
    obtain ⟨c,r,rfl,h1,h2⟩:=ok.2
    show c<80
    omega
  · dsimp only at e
    subst e
    obtain ⟨c,r,rfl,h1,h2⟩:=ok.2
    show c<80
    omega
def spMeant (t:Adr):Sp:=fun vs H Q _=>∃ (a b:Addr) (x:Pu.Card) (ws:List JM.Pt),vs=[.ref a,.ref b]∧CdAt H a x∧CdOk x∧Each H b (PtAt t) ws∧(∀ k∈ws,JM.PtOk k∧JM.isW k=true)∧Q (.bl (ws.all (JM.holds x))) H
theorem scMeant:FnScope ["card", "wheres", "where", "punched"] ["card", "wheres"] (defScope sMeant):=⟨rfl,rfl,rfl,by decide +kernel,rfl,by decide +kernel,by decide +kernel⟩
theorem ok_meant {f:Addr}{fd:FuncData}(F:Fun K "is_meant" "is_meant" sMeant f fd) (T:Txt K w mg t) (cHasR:Cal P w K mg base "has_row" 1 ["holes", "row"] spHasR):FnOk P w K mg base CX0 2 f fd ["card", "wheres"] (spMeant t):=by
  refine F.ok scMeant (fun vs H Q E h=>?_) (fun cdv A outer s H vs Q E hr h=>?_)
  · obtain ⟨a,b,x,ks,rfl,_⟩:=h
    rfl
  · obtain ⟨a,b,x,ws,rfl,ha,cok,⟨bs,b1,b2,b3⟩,okK,k⟩:=h
    have hu:=hu_of hr
    refine ⟨_,pss_cons (ps_for PassesOwn.never rfl (pi_list (pv 1)) (pg_name (i:=2) scMeant.nd rfl (Or.inl rfl))
        (pss_cons (ps_set (i:=3) scMeant.nd rfl (Or.inl rfl) (pe_cal cHasR hr (by decide) rfl (pa_cons (pe_ix ix_list (pv 0) (pe_dget hu (pe_fld (pv 2) rfl) pe_str (fun _ _=>rfl)) (fun _ _=>rfl)) (pa_cons (pe_dget hu (pe_fld (pv 2) rfl) pe_str (fun _ _=>rfl)) pa_nil))))
        (pss_one (ps_if (pt_cmpR op_ne (pv 3) (pe_cmpR op_eq (pe_fld (pv 2) rfl) pe_str (nomark _)) (nomark _)) (pss_one (ps_ret pe_bl)) pss_nil))))
      (pss_one (ps_ret pe_bl)),?_⟩
    refine ⟨_,rfl,b,rfl,⟨_,SqL.of b1⟩,for_list (K:=K) (a:=b) (xs:=bs.map V.ref) (fun i σ H'=>∃ y z,σ=[some (.ref a),some (.ref b),y,z]∧H'=H∧(ws.take i).all (JM.holds x)=true) ?_ (fun i σ H' _ ⟨_,_,_,s,_⟩=>by rw [s]; exact SqL.of b1) ?_ ?_⟩
    · exact ⟨none,none,rfl,rfl,by simp⟩
    · rintro i y σ H1 hi ⟨z,z2,rfl,rfl,h1⟩
      obtain ⟨c,hc,rfl⟩:=get_ref hi
      have hil:i<ws.length:=by rw [←b2]; exact (List.getElem?_eq_some_iff.mp hc).1
      have hk:ws[i]?=some ws[i]:=List.getElem?_eq_getElem hil
      obtain ⟨okk,isk⟩:=okK ws[i] (List.getElem_mem hil)
      obtain ⟨dx,d,g1,g2⟩:=b3 i c _ hc hk
      have nm:=nums_at okk g2
      have w01:=JM.is_num.1.mp isk
      have c80:JM.n0 ws[i]<80:=w_c okk isk
      have ix:atI (x.map vN) ((JM.n0 ws[i]:Nat):Int)=some (vN (x.getD (JM.n0 ws[i]) 0)):=atI_nat (by
        rw [List.getElem?_map,List.getElem?_eq_getElem (by rw [cok.1]; exact c80),List.getD_eq_getElem?_getD,List.getElem?_eq_getElem (by rw [cok.1]; exact c80)]
        rfl)
      refine ⟨_,rfl,_,rfl,c,t.cP,dx,_,_,rfl,g1,T.clP,T.nPn,lk_nums _ _,d,_,rfl,nm.c (by omega),a,_,_,_,rfl,rfl,SqL.of ha,ix,_,rfl,c,t.cP,dx,_,_,rfl,g1,T.clP,T.nPn,lk_nums _ _,d,_,rfl,nm.r (by omega),_,_,rfl,?_⟩
      refine ⟨_,rfl,_,rfl,c,t.cP,dx,_,_,rfl,g1,T.clP,T.nPe,lk_end _ _,rfl,rfl,_,rfl,?_⟩
      rw [w_yes okk.1]
      have e:(!decide (V.bl ((x.getD (JM.n0 ws[i]) 0).testBit (JM.n1 ws[i]))=V.bl (decide (ws[i].1=0))))=!JM.holds x ws[i]:=by
        unfold JM.holds
        congr 1
        apply Bool.eq_iff_iff.mpr
        simp
      rw [e]
      have et:(ws.take (i+1)).all (JM.holds x)=JM.holds x ws[i]:=by
        rw [take_next hk,List.all_append,h1]
        simp
      cases q:JM.holds x ws[i] with
      | true=>exact iteF ⟨_,_,rfl,rfl,by rw [et,q]⟩
      | false=>
        refine iteT ?_
        have e2:ws.all (JM.holds x)=false:=by
          rw [←Bool.not_eq_true,List.all_eq_true]
          intro z
          rw [z _ (List.getElem_mem hil)] at q
          cases q
        rw [e2] at k
        exact k
    · rintro σ H1 ⟨z,z2,rfl,rfl,h1⟩
      rw [List.length_map,b2,List.take_length] at h1
      rw [h1] at k
      exact k
end
abbrev sRdC:Stmt:=top 9
abbrev sRdD:Stmt:=top 10
abbrev sMio:Stmt:=top 77
structure Tx3 (mg:Str→Option Value):Prop where
  kHoles:∃ u,mg "MOST_HOLES" = some (.int 4095 u)
  kCards:∃ u,mg "MOST_CARDS" = some (.int 1000 u)
  kNoD:∃ u,mg "NO_DECK" = some (.int (-8) u)
  zRange:mg "range" = none
  zSorted:mg "sorted" = none
section
variable {P:Program}{w:World}{K:PySem.W.Frag}{mg:Str→Option Value}{base:Heap}{t:Adr}
theorem rgc_two {n:Nat}(h:n≤1000) (h2:n % 2=0):RgC 0 (n:Int) 2 (n / 2):=by
  have e:Builtin.Range.rangeSize 0 (n:Int) 2=((n / 2:Nat):Int):=by
    unfold Builtin.Range.rangeSize
    simp only [show (2:Int) > 0 by decide,if_true]
    split <;> omega
  refine ⟨by decide,by decide,?_,e⟩
  unfold Builtin.Range.small
  rw [e]
  have a:∀ i:Int,-(2 ^ 62)≤i→i<2 ^ 62→Builtin.Range.rangeFitsLong i=true:=fun i h1 h2=>by
    unfold Builtin.Range.rangeFitsLong
    rw [Bool.and_eq_true,decide_eq_true_eq,decide_eq_true_eq]
    omega
  simp only [a 0 (by omega) (by omega),a (n:Int) (by omega) (by omega),a 2 (by omega) (by omega),a ((n / 2:Nat):Int) (by omega) (by omega),a (0+2) (by omega) (by omega)]
  rw [if_pos (by decide),a ((n:Int)+(2-1)) (by omega) (by omega),Bool.or_true]
  rfl
theorem rd_two (b:Int) (y:Pu.Card) (l:List Int) (i:Nat) (h:2 * i+1<l.length):JM.rdCard b y (l.drop (2 * i)) =
    if (b<l[2 * i]∧l[2 * i]<80)∧1≤l[2 * i+1]∧l[2 * i+1]≤4095 then JM.rdCard l[2 * i] (y.set (l[2 * i]).toNat (l[2 * i+1]).toNat) (l.drop (2 * (i+1))) else none:=by
  rw [List.drop_eq_getElem_cons (show 2 * i<l.length by omega),List.drop_eq_getElem_cons h,JM.rdCard]
  rfl
theorem ch_lt {ta tb tc:TE}{σ:L2.St}{H:Hp}{x y z:Int}(ha:EIs ta σ H (.int x)) (hb:EIs tb σ H (.int y)) (hc:EIs tc σ H (.int z)) :
    TIs (tTest (tChain (rI0 fun i j=>.bl (decide (i<j))) (rI0 fun i j=>.bl (decide (i<j))) ta tb tc)) σ H (decide (x<y)&&decide (y<z)):=fun Q q=>by
  refine ha _ (hb _ ⟨x,y,rfl,rfl,_,rfl,ite2 (fun g=>?_) (fun g=>?_)⟩)
  · refine hc _ ⟨y,z,rfl,rfl,_,rfl,?_⟩
    rw [g,Bool.true_and] at q
    exact q
  · refine ⟨_,rfl,?_⟩
    rw [Bool.not_eq_true] at g
    rw [g,Bool.false_and] at q
    exact q
theorem ch_le {ta tb tc:TE}{σ:L2.St}{H:Hp}{x y z:Int}(ha:EIs ta σ H (.int x)) (hb:EIs tb σ H (.int y)) (hc:EIs tc σ H (.int z)) :
    TIs (tTest (tChain (rI0 fun i j=>.bl (decide (i≤j))) (rI0 fun i j=>.bl (decide (i≤j))) ta tb tc)) σ H (decide (x≤y)&&decide (y≤z)):=fun Q q=>by
  refine ha _ (hb _ ⟨x,y,rfl,rfl,_,rfl,ite2 (fun g=>?_) (fun g=>?_)⟩)
  · refine hc _ ⟨y,z,rfl,rfl,_,rfl,?_⟩
    rw [g,Bool.true_and] at q
    exact q
  · refine ⟨_,rfl,?_⟩
    rw [Bool.not_eq_true] at g
    rw [g,Bool.false_and] at q
    exact q
theorem ch_ltle {ta tb tc:TE}{σ:L2.St}{H:Hp}{x y z:Int}(ha:EIs ta σ H (.int x)) (hb:EIs tb σ H (.int y)) (hc:EIs tc σ H (.int z)) :
    TIs (tTest (tChain (rI0 fun i j=>.bl (decide (i<j))) (rI0 fun i j=>.bl (decide (i≤j))) ta tb tc)) σ H (decide (x<y)&&decide (y≤z)):=fun Q q=>by
  refine ha _ (hb _ ⟨x,y,rfl,rfl,_,rfl,ite2 (fun g=>?_) (fun g=>?_)⟩)
  · refine hc _ ⟨y,z,rfl,rfl,_,rfl,?_⟩
    rw [g,Bool.true_and] at q
    exact q
  · refine ⟨_,rfl,?_⟩
    rw [Bool.not_eq_true] at g
    rw [g,Bool.false_and] at q
    exact q
def spRdC:Sp:=fun vs H Q _=>∃ (a:Addr) (l:List Int),vs=[.ref a]∧H a=some (.lst (l.map V.int))∧l.length % 2=0∧l.length≤1000∧(JM.rdCard (-1) Pu.blankCard l=none→∀ H',Same H H'→Q .non H')∧
  ∀ x H' p,JM.rdCard (-1) Pu.blankCard l=some x→Same H H'→H p=none→CdAt H' p x→Q (.ref p) H'
theorem scRdC:FnScope ["told", "card", "before", "at", "column", "holes"] ["told"] (defScope sRdC):=⟨rfl,rfl,rfl,by decide +kernel,rfl,by decide +kernel,by decide +kernel⟩
theorem get_int {l:List Int}{i:Nat}(h:i<l.length):atI (l.map V.int) (i:Int)=some (V.int l[i]):=atI_nat (by rw [List.getElem?_map,List.getElem?_eq_getElem h]; rfl)
theorem ok_rdC {f:Addr}{fd:FuncData}(F:Fun K "read_card" "read_card" sRdC f fd) (T:Txt K w mg t) (T3:Tx3 mg):FnOk P w K mg base CX0 1 f fd ["told"] spRdC:=by
  refine F.ok scRdC (fun vs H Q E h=>?_) (fun cdv A outer s H vs Q E hr h=>?_)
  · obtain ⟨a,l,rfl,_⟩:=h
    rfl
  · obtain ⟨a,l,rfl,ha,ev,hl,kN,kY⟩:=h
    refine ⟨_,pss_cons (ps_set (i:=1) scRdC.nd rfl (Or.inl rfl) (pe_op op_rep (pe_lst (pa_cons pe_int pa_nil)) (pe_k T.kCols rfl)))
      (pss_cons (ps_set (i:=2) scRdC.nd rfl (Or.inl rfl) (pe_un un_neg pe_int))
      (pss_cons (ps_for PassesOwn.never rfl (pi_range3 rfl T3.zRange (pa_cons pe_int (pa_cons (pe_callB call_len_seq rfl T.zLen PySem.boot_len (pa_cons (pv 0) pa_nil)) (pa_cons pe_int pa_nil)))) (pg_name (i:=3) scRdC.nd rfl (Or.inl rfl))
        (pss_cons (ps_set (i:=4) scRdC.nd rfl (Or.inl rfl) (pe_ix ix_list (pv 0) (pv 3) (fun _ _=>rfl)))
        (pss_cons (ps_set (i:=5) scRdC.nd rfl (Or.inl rfl) (pe_ix ix_list (pv 0) (pe_op op_add (pv 3) pe_int) (fun _ _=>rfl)))
        (pss_cons (ps_if (PW.pt (pw_or (pt_not (pt_chain op_lt op_lt (pv 2) (pv 4) (pe_k T.kCols rfl))) (pw_or1 (pt_not (pt_chain op_le op_le pe_int (pv 5) (pe_k T3.kHoles rfl)))))) (pss_one (ps_ret pe_non)) pss_nil)
        (pss_cons (ps_asg (pv 5) (pg_sub (pv 1) (pv 4) set_list))
        (pss_one (ps_set (i:=2) scRdC.nd rfl (Or.inl rfl) (pv 4))))))))
      (pss_one (ps_ret (pv 1))))),?_⟩
    refine ⟨by decide,fun p0 hp0=>⟨p0,_,_,rfl,rfl,upd_same,by decide,by decide,by decide,fun p hp=>?_⟩⟩
    have s0:Same H (upd (upd H p0 (.lst [V.int 0])) p (.lst (Pu.blankCard.map vN))):=(same_upd hp0).trans (same_upd hp)
    have hpH:H p=none:=(same_upd hp0).free hp
    refine ⟨_,rfl,?_⟩
    refine ⟨_,rfl,a,_,rfl,.inl (SqL.of (s0 _ _ ha)),_,_,_,_,rfl,by rw [List.length_map]; exact rgc_two hl ev,for_rangeC (fun i σ H'=>∃ (b:Int) (y:Pu.Card) (z3 z4 z5:Option V),σ=[some (.ref a),some (.ref p),some (.int b),z3,z4,z5]∧Same H H'∧CdAt H' p y∧y.length=80∧-1≤b∧JM.rdCard (-1) Pu.blankCard l=JM.rdCard b y (l.drop (2 * i))) ?_ ?_ ?_⟩
    · exact ⟨-1,Pu.blankCard,none,none,none,rfl,s0,upd_same,rfl,Int.le_refl _,rfl⟩
    · rintro i σ H1 hi ⟨b,y,z3,z4,z5,rfl,s1,hy,ly,hb,e⟩
      have h1:2 * i+1<l.length:=by omega
      have e0:(0:Int)+(i:Nat) * 2=((2 * i:Nat):Int):=by omega
      rw [e0]
      rw [rd_two b y l i h1] at e
      have g1:=get_int (l:=l) (i:=2 * i) (by omega)
      have g2:=get_int (l:=l) (i:=2 * i+1) h1
      generalize l[2 * i]=c at e g1
      generalize l[2 * i+1]=h at e g2
      refine ⟨_,rfl,_,rfl,a,_,_,_,rfl,rfl,SqL.of (s1 _ _ ha),g1,_,rfl,_,rfl,_,_,rfl,rfl,a,_,_,_,rfl,rfl,SqL.of (s1 _ _ ha),g2,?_⟩
      have test:TIs _ _ H1 (!(decide (b<c)&&decide (c<80)) || !(decide (1≤h)&&decide (h≤4095))):=TIs.or (σ:=[some (.ref a),some (.ref p),some (.int b),some (.int ((2 * i:Nat):Int)),some (.int c),some (.int h)])
        (TIs.not (ch_lt (ta:=tVar 2) (tb:=tVar 4) (tc:=tC (.int 80)) (fun Q q=>⟨_,rfl,q⟩) (fun Q q=>⟨_,rfl,q⟩) (fun Q q=>q)))
        (fun _=>TIs.not (ch_le (ta:=tC (.int 1)) (tb:=tVar 5) (tc:=tC (.int 4095)) (fun Q q=>q) (fun Q q=>⟨_,rfl,q⟩) (fun Q q=>q)))
      refine test _ (ite2 (fun g=>?_) (fun g=>?_))
      · rw [if_neg] at e
        · exact kN e H1 s1
        · rintro ⟨⟨q1,q2⟩,q3,q4⟩
          rw [decide_eq_true q1,decide_eq_true q2,decide_eq_true q3,decide_eq_true q4] at g
          cases g
      · have gg:(b<c∧c<80)∧1≤h∧h≤4095:=by
          simp only [Bool.or_eq_true,Bool.not_eq_true',Bool.and_eq_false_iff,decide_eq_false_iff_not,not_or,Decidable.not_not] at g
          omega
        rw [if_pos gg] at e
        have ix:ixN (y.map vN).length c=some c.toNat:=by
          unfold ixN
          rw [List.length_map,ly,if_pos (by omega),if_pos (by omega)]
        refine ⟨_,rfl,_,rfl,_,rfl,p,_,_,_,rfl,rfl,hy,ix,_,rfl,?_⟩
        refine ⟨c,y.set c.toNat h.toNat,_,_,_,rfl,fun q o z=>?_,?_,by rw [List.length_set]; exact ly,by omega,e⟩
        · rw [upd_ne (ne_of_none z hpH)]
          exact s1 _ _ z
        · unfold CdAt
          rw [upd_same,List.map_set]
          unfold vN
          rw [Int.toNat_of_nonneg (by omega)]
    · rintro σ H1 ⟨b,y,z3,z4,z5,rfl,s1,hy,ly,hb,e⟩
      rw [show 2 * (l.length / 2)=l.length by omega,List.drop_length] at e
      exact ⟨_,rfl,kY y H1 p e s1 hpH hy⟩
def CdV (D:Addr) (H:Hp) (v:V) (x:Pu.Card):Prop:=∃ a,v=.ref a∧a≠D∧CdAt H a x
theorem cd_mono {D:Addr}(H H':Hp) (y:V) (z:Pu.Card) (acc:List V) (hD:H D=some (.lst acc)) (o:OffD D H H') (h:CdV D H y z):CdV D H' y z:=by
  obtain ⟨a,e,n,h1⟩:=h
  exact ⟨a,e,n,o _ _ n h1⟩
theorem cds_same {D:Addr}{H H':Hp}{ds:List Pu.Card}(s:Same H H') (h:EachV H D (CdV D) ds):EachV H' D (CdV D) ds:=by
  obtain ⟨vs,e,pr⟩:=h
  exact ⟨vs,s _ _ e,Paired.mapP pr fun a b ⟨c,e,n,h1⟩=>⟨c,e,n,s _ _ h1⟩⟩
theorem cards_push {D q:Addr}{H:Hp}{x:Pu.Card}{ds:List Pu.Card}{vs:List V}(e:H D=some (.lst vs)) (h:EachV H D (CdV D) ds) (hq:CdAt H q x) (ne:q≠D):EachV (upd H D (.lst (vs++[.ref q]))) D (CdV D) (ds++[x]):=by
  obtain ⟨vs',e',pr⟩:=h
  rw [e] at e'
  cases e'
  refine ⟨_,upd_same,paired_app (Paired.mapP pr fun a b h=>cd_mono H _ a b vs e OffD.upd h) ⟨q,rfl,ne,?_⟩⟩
  unfold CdAt
  rw [upd_ne ne]
  exact hq
theorem cut_at {xs:List V}{c n:Nat}:cutV xs (some (c:Int)) (some ((c+n:Nat):Int))=(xs.drop c).take n:=by
  unfold cutV
  rw [HT.sIx_nat,HT.sIx_nat]
  by_cases h:c≤xs.length
  · rw [Nat.min_eq_left h]
    by_cases h2:c+n≤xs.length
    · rw [Nat.min_eq_left h2,Nat.add_sub_cancel_left]
    · rw [Nat.min_eq_right (by omega),List.take_of_length_le (by rw [List.length_drop]; omega),List.take_of_length_le (by rw [List.length_drop]; omega)]
  · rw [Nat.min_eq_right (by omega),Nat.min_eq_right (by omega),List.drop_eq_nil_of_le (by omega),List.drop_eq_nil_of_le (by omega)]
    simp
def spRdD (K:PySem.W.Frag):Sp:=fun vs H Q _=>∃ (a:Addr) (l:List Int),vs=[.ref a]∧SqL K H a (l.map V.int)∧l.length≤1000∧(JM.rdDeck l.length l=none→∀ H',Same H H'→Q .non H')∧
  ∀ ds H' p,JM.rdDeck l.length l=some ds→Same H H'→H p=none→EachV H' p (CdV p) ds→Q (.ref p) H'
theorem scRdD:FnScope ["told", "cards", "at", "end", "card"] ["told"] (defScope sRdD):=⟨rfl,rfl,rfl,by decide +kernel,rfl,by decide +kernel,by decide +kernel⟩
theorem ok_rdD {f:Addr}{fd:FuncData}(F:Fun K "read_deck" "read_deck" sRdD f fd) (T:Txt K w mg t) (T3:Tx3 mg) (cRdC:Cal P w K mg base "read_card" 1 ["told"] spRdC):FnOk P w K mg base CX0 2 f fd ["told"] (spRdD K):=by
  refine F.ok scRdD (fun vs H Q E h=>?_) (fun cdv A outer s H vs Q E hr h=>?_)
  · obtain ⟨a,l,rfl,_⟩:=h
    rfl
  · obtain ⟨a,l,rfl,hS,hl,kN,kY⟩:=h
    have big:(1001:Nat)<sizeLine:=by decide
    refine ⟨_,pss_cons (ps_set (i:=1) scRdD.nd rfl (Or.inl rfl) (pe_lst pa_nil))
      (pss_cons (ps_set (i:=2) scRdD.nd rfl (Or.inl rfl) pe_int)
      (pss_cons (ps_while PassesOwn.never (pt_cmpR op_lt (pv 2) (pe_callB call_len_seq rfl T.zLen PySem.boot_len (pa_cons (pv 0) pa_nil)) (nomark _))
        (pss_cons (ps_set (i:=3) scRdD.nd rfl (Or.inl rfl) (pe_op op_add (pe_op op_add (pv 2) pe_int) (pe_op op_mul pe_int (pe_ix ix_list (pv 0) (pv 2) (fun _ _=>rfl)))))
        (pss_cons (ps_if (PW.pt (pw_or (pt_not (pt_chain op_lt op_le (pv 2) (pv 3) (pe_callB call_len_seq rfl T.zLen PySem.boot_len (pa_cons (pv 0) pa_nil)))) (pw_or1 (pt_cmpR op_eq (pe_callB call_len_seq rfl T.zLen PySem.boot_len (pa_cons (pv 1) pa_nil)) (pe_k T3.kCards rfl) (nomark _))))) (pss_one (ps_ret pe_non)) pss_nil)
        (pss_cons (ps_set (i:=4) scRdD.nd rfl (Or.inl rfl) (pe_cal cRdC hr (by decide) rfl (pa_cons (pe_slice sl_list (pv 0) (po_some (pe_op op_add (pv 2) pe_int)) (po_some (pv 3))) pa_nil)))
        (pss_cons (ps_if (pt_cmpR op_isN (pv 4) pe_non (nomark _)) (pss_one (ps_ret pe_non)) pss_nil)
        (pss_cons (ps_expr (pe_bm PySem.F.plainAttrs_list PySem.F.slot_list_append PySem.F.type_list_append mt_append (pv 1) (pa_cons (pv 4) pa_nil)))
        (pss_one (ps_set (i:=2) scRdD.nd rfl (Or.inl rfl) (pv 3)))))))))
      (pss_one (ps_ret (pv 1))))),?_⟩
    refine ⟨Nat.zero_le _,fun p hp=>?_⟩
    have s0:=same_upd (o:=.lst []) hp
    refine ⟨fun m σ H'=>∃ (i f:Nat) (ds:List Pu.Card) (z3 z4:Option V),m=l.length-i∧σ=[some (.ref a),some (.ref p),some (.int (i:Int)),z3,z4]∧Same H H'∧EachV H' p (CdV p) ds∧i≤l.length∧ds.length≤i∧l.length-i≤f∧
      JM.rdDeck l.length l=(JM.rdDeck f (l.drop i)).map fun d=>ds++d,⟨_,0,l.length,[],none,none,rfl,rfl,s0,⟨[],upd_same,.nil⟩,Nat.zero_le _,Nat.le_refl _,Nat.le_refl _,?_⟩,?_⟩
    · rw [List.drop_zero]
      cases JM.rdDeck l.length l <;> rfl
    · rintro m σ H1 ⟨i,f,ds,z3,z4,rfl,rfl,s1,hc,hi,hd,hf,e⟩
      have hS1:=s1.seq hS
      refine ⟨_,rfl,_,rfl,a,_,rfl,.inl hS1,_,_,rfl,rfl,_,rfl,ite2 (fun g=>?_) (fun g=>?_)⟩
      · have lt:i<l.length:=by
          have:=of_decide_eq_true g
          rw [List.length_map] at this
          omega
        obtain ⟨f,rfl⟩:∃ n,f=n+1:=⟨f-1,by omega⟩
        have dr:l.drop i=l[i]::l.drop (i+1):=List.drop_eq_getElem_cons lt
        have g1:=get_int lt
        rw [dr,JM.rdDeck,List.length_drop] at e
        generalize l[i]=n at e g1
        refine ⟨_,fun _ _ h=>h,?_⟩
        refine ⟨_,rfl,_,_,rfl,rfl,_,rfl,_,rfl,a,_,_,_,rfl,rfl,hS1,g1,_,_,rfl,rfl,.inl ⟨by decide,by decide⟩,_,_,rfl,rfl,?_⟩
        have hlen:(l.map V.int).length=l.length:=List.length_map ..
        obtain ⟨vs,hvs,pr⟩:=hc
        have lv:=paired_len pr
        have test:TIs _ _ H1 (!(decide ((i:Int)<(i:Int)+1+2 * n)&&decide ((i:Int)+1+2 * n≤(l.length:Int))) || false):=TIs.or (σ:=[some (.ref a),some (.ref p),some (.int (i:Int)),some (.int ((i:Int)+1+2 * n)),z4]) (u:=tTest (tOp rEq (tCB (fun xs H Q=>∃ p ys,xs=[.ref p]∧(SqL K H p ys∨SqT K H p ys)∧Q (.int ys.length) H) (tCons (tVar 1) tNil)) (tC (.int 1000))))
          (TIs.not (ch_ltle (ta:=tVar 2) (tb:=tVar 3) (tc:=tCB (fun xs H Q=>∃ p ys,xs=[.ref p]∧(SqL K H p ys∨SqT K H p ys)∧Q (.int ys.length) H) (tCons (tVar 0) tNil)) (fun Q q=>⟨_,rfl,q⟩) (fun Q q=>⟨_,rfl,q⟩) (fun Q q=>⟨_,rfl,a,_,rfl,.inl hS1,by rw [hlen]; exact q⟩)))
          (fun _ Q q=>⟨_,rfl,p,_,rfl,.inl (SqL.of hvs),rfl,_,rfl,by
            rw [show decide (V.int (vs.length:Int)=V.int 1000)=false from decide_eq_false fun z=>by have:=V.int.inj z; omega]
            exact q⟩)
        refine test _ ?_
        rw [Bool.or_false]
        refine ite2 (fun g=>?_) (fun g=>?_)
        · refine kN ?_ H1 s1
          rw [e,if_neg]
          · rfl
          · rintro ⟨q1,q2⟩
            rw [decide_eq_true (by omega),decide_eq_true (by omega)] at g
            cases g
        · have gg:0≤n∧2 * n.toNat≤l.length-(i+1):=by
            simp only [Bool.not_eq_true',Bool.and_eq_false_iff,decide_eq_false_iff_not,not_or,Decidable.not_not] at g
            omega
          rw [if_pos gg] at e
          have cutE:cutV (l.map V.int) (some ((i:Int)+1)) (some ((i:Int)+1+2 * n))=((l.drop (i+1)).take (2 * n.toNat)).map V.int:=by
            rw [show (i:Int)+1=((i+1:Nat):Int) by omega,show ((i+1:Nat):Int)+2 * n=((i+1+2 * n.toNat:Nat):Int) by omega,cut_at,List.map_take,List.map_drop]
          have lt2:((l.drop (i+1)).take (2 * n.toNat)).length=2 * n.toNat:=by rw [List.length_take,List.length_drop]; omega
          refine ⟨_,rfl,_,rfl,_,_,rfl,rfl,_,rfl,_,rfl,_,rfl,a,_,rfl,hS1,fun q hq=>?_⟩
          rw [cutE]
          have s2:=same_upd (o:=.lst (((l.drop (i+1)).take (2 * n.toNat)).map V.int)) hq
          refine ⟨q,_,rfl,upd_same,by rw [lt2]; omega,by rw [lt2]; omega,fun en H2 s3=>?_,fun x H2 r ex s3 hr2 hx=>?_⟩
          · rw [en] at e
            exact ⟨_,rfl,rfl,_,rfl,iteT (kN e H2 ((s1.trans s2).trans s3))⟩
          · rw [ex] at e
            have s13:=(s1.trans s2).trans s3
            have hvs2:=s3 _ _ (s2 _ _ hvs)
            have nr:r≠p:=fun z=>by
              rw [z,s2 _ _ hvs] at hr2
              cases hr2
            refine ⟨_,rfl,rfl,_,rfl,iteF ?_⟩
            refine ⟨_,rfl,.inl ⟨rfl,_,SqL.of hvs2⟩,_,rfl,p,_,_,rfl,rfl,hvs2,by omega,?_⟩
            refine ⟨_,rfl,?_⟩
            refine ⟨l.length-(i+1+2 * n.toNat),by omega,i+1+2 * n.toNat,f,ds++[x],some (.int ((i:Int)+1+2 * n)),some (.ref r),rfl,?_,fun b o z=>?_,cards_push hvs2 (cds_same (s2.trans s3) ⟨vs,hvs,pr⟩) hx nr,by omega,by rw [List.length_append,List.length_singleton]; omega,by omega,?_⟩
            · show [some (V.ref a),some (V.ref p),some (V.int ((i:Int)+1+2 * n)),some (V.int ((i:Int)+1+2 * n)),some (V.ref r)]=_
              rw [←show (i:Int)+1+2 * n=((i+1+2 * n.toNat:Nat):Int) by omega]
            · rw [upd_ne (ne_of_none z hp)]
              exact s13 _ _ z
            · rw [e,List.drop_drop]
              show Option.map _ (Option.bind (some x) _)=_
              cases JM.rdDeck f (l.drop (i+1+2 * n.toNat)) with
              | none=>rfl
              | some d=>
                show some (ds++(x::d))=some (ds++[x]++d)
                rw [List.append_assoc]
                rfl
      · have ge:¬i<l.length:=fun z=>g (decide_eq_true (by rw [List.length_map]; omega))
        rw [List.drop_eq_nil_of_le (by omega)] at e
        have e2:JM.rdDeck f []=some []:=by cases f <;> rfl
        rw [e2] at e
        have e:JM.rdDeck l.length l=some (ds++[]):=e
        rw [List.append_nil] at e
        exact ⟨_,rfl,kY ds H1 p e s1 hp hc⟩
end
theorem pair_maps {α β:Type}{G:α→β→Prop}:∀ (L:List (α×β)),(∀ p∈L,G p.1 p.2)→Paired G (L.map (·.1)) (L.map (·.2))
  | [],_=>.nil
  | p::L,h=>.cons (h p (by simp)) (pair_maps L fun q hq=>h q (by simp [hq]))
theorem sort_each {α β:Type}{G G2:α→β→Prop}{vs:List α}{cs:List β}(pr:Paired G vs cs) (key:β→List Int) (hm:∀ v x,G v x→G2 v x) :
    Paired G2 ((JM.isort (fun p:List Int×α=>p.1) ((cs.map key).zip vs)).map (·.2)) (JM.isort key cs):=by
  have hl:=paired_len pr
  have e1:=JM.isort_map (key:=fun p:α×β=>key p.2) (key2:=fun p:List Int×α=>p.1) (fun p=>(key p.2,p.1)) (vs.zip cs) (fun _ _=>rfl)
  have e2:=JM.isort_map (key:=fun p:α×β=>key p.2) (key2:=key) (fun p=>p.2) (vs.zip cs) (fun _ _=>rfl)
  have z1:(vs.zip cs).map (fun p=>(key p.2,p.1))=(cs.map key).zip vs:=by
    clear e1 e2 hl
    induction pr with
    | nil=>rfl
    | cons _ _ ih=>simp only [List.zip_cons_cons,List.map_cons,ih]
  have z2:(vs.zip cs).map (fun p=>p.2)=cs:=List.map_snd_zip (by omega)
  rw [z1] at e1
  rw [z2] at e2
  rw [←e1,←e2,List.map_map]
  refine pair_maps (JM.isort (fun p:α×β=>key p.2) (vs.zip cs)) fun p hp=>hm _ _ ?_
  have hz:=JM.isort_mem hp
  have go:∀ {vs:List α} {cs:List β},Paired G vs cs→∀ p∈vs.zip cs,G p.1 p.2:=by
    intro vs cs pr
    induction pr with
    | nil=>intro p hp; cases hp
    | cons h _ ih=>
      intro p hp
      rcases List.mem_cons.mp hp with rfl | hp
      · exact h
      · exact ih p hp
  exact go pr p hz
def rkI (kps:List JM.Pt) (x:Pu.Card):List Int:=(kps.flatMap (JM.ranksM x)).map Int.ofNat
theorem rk_vN (l:List Nat):l.map vN=(l.map Int.ofNat).map V.int:=by
  rw [List.map_map]
  rfl
def tSrt (t:Adr) (Pt:Addr) (te:TE):TE:=fun σ H Q=>tCons te tNil σ H fun vs H1=>∃ (l kb:Addr) (cs:List Pu.Card) (kps:List JM.Pt),vs=[.ref l]∧σ[3]?=some (some (.ref kb))∧EachV H1 l (CdV l) cs∧(∀ x∈cs,CdOk x)∧cs.length≤1000∧
  Each H1 kb (PtAt t) kps∧(∀ k∈kps,JM.PtOk k∧JM.isK k=true)∧kps.length≤64∧H1 Pt=some (.tbl #[])∧∀ H' D,OffD Pt H1 H'→H1 D=none→EachV H' D (CdV D) (JM.isort (rkI kps) cs)→Q (.ref D) H'
theorem pe_srt {X:Cx}{t:Adr}{cc Pt cK:Addr}{e body:Expr}{te:TE}{p pos lpos kpos:Pos}{params:Arguments}{scope:Scope}(ha:PA X [e] (tCons te tNil)) (hr:Room 8 X.A) (L:LamAt X.base X.mg cc Pt) (hcode:X.env.code=.ref cc) (hg:Gl X "sorted") (hm:X.mg "sorted" = none)
    (hb:∀ (A:Around) (f c':Addr) (s:Shared) (H:Hp),Room 5 (A.deeper (PySem.W.envX (X.env.qual ++ "<lambda>") scope s.heap.objs.size f (.ref c') [("keys",cK)]))→PE (cxLam X A ["card", "keys"] (X.env.qual ++ "<lambda>") scope f (.ref c') [("keys",cK)] s H) body (tCall (spRanks t) [] E0 (tCons (tVar 0) (tCons (tVar 1) tNil))))
    (hN:X.N[3]?=some ("keys" : Str)) (hk:X.env.kindOf "keys" = some .cell) (hcK:X.env.cells.lookup ("keys" : Str)=some cK) (hcl:closureFor scope X.env=pure [(("keys" : Str),cK)]) (hdef:defaultsOf params X.env=([],[]))
    (hkind:scope.kind=.function) (hco:scope.isCoroutine=false) (hgen:scope.isGenerator=false) (hcell:∀ z∈scope.names,z.2≠.cell) (hx:scope.names.lookup ("card" : Str)=some .local) (hy:scope.names.lookup ("keys" : Str)=some .free) (hfree:∀ z∈scope.names,z.2=.free→z.1 = "keys")
    (hbind:∀ (qual:Str) (cl:List (Str×Addr)) (pm cdv ctv u:Value),bindArgs (PySem.W.kla_fn "<lambda>" qual params body scope cl pm cdv ctv) ⟨[u],[]⟩=pure [(("card" : Str),u)])
    (hs:backTo pos (starEach [e] X.env)=(false,eval e X.env)::backTo pos (starEach [] X.env):=by rfl) (hpl:(backTo pos (starEach [e] X.env)).any (·.1)=false:=by rfl)
    (hall:(backToKw pos (keywordEach [⟨some "key",.Lambda params body scope lpos,kpos⟩] X.env)).all (·.1.isSome)=true:=by rfl) (hkw:(backToKw pos (keywordEach [⟨some "key",.Lambda params body scope lpos,kpos⟩] X.env)).any (·.1.isNone)=false:=by rfl) :
    PE X (.Call (.Name "sorted" p) [e] [⟨some "key",.Lambda params body scope lpos,kpos⟩] pos) (tSrt t Pt te):=by
  intro pins s σ H Q I h
  refine wpAny_Call_Name_kw (ld_blt I hg hm boot_sorted ?_)
  refine PyProof.Rows.callWith_kw (thn (ha pos pins s σ H _ I h) fun us s1 ⟨vs,H1,I1,r1,q1⟩=>?_) hs hpl hall hkw
  obtain ⟨l,kb,cs,kps,rfl,hσ,⟨ys,hys,pr⟩,cok,lc,eK,okK,lK,hP,q⟩:=q1
  obtain ⟨u,rfl,ru⟩:=vals1 r1
  cases ru
  show wpAny _ _ (evalAll ((do let v←eval (.Lambda params body scope lpos) X.env; standAt pos; pure v)::[])) _ _ s1
  refine wpAny_evalAll_cons (wpAny_bind (lam_made I1 L hcode hP trivial rfl hcl hdef fun f c' ctv more s2 I2 hf hcd gf gc=>wpAny_bind (wpAny_standAt (wpAny_pure (wpAny_evalAll_nil ?_)))))
  show wpAny _ _ (call (.builtin "sorted") [.ref l] [(Str.ofString "key",.ref f)]) _ _ s2
  obtain ⟨c2,oc,fv,tq,e2,hoc,hfd,hfv⟩:=hcd
  cases e2
  have lP:Pt<s1.heap.objs.size:=I1.hok.lt hP
  have nP:∀ b,s1.heap.objs.size≤b→b≠Pt:=fun b hb=>Nat.ne_of_gt (Nat.lt_of_lt_of_le lP hb)
  have fr:∀ b,s1.heap.objs.size≤b→upd H1 Pt (.tbl (#[]++more)) b=none:=fun b hb=>by rw [upd_ne (nP b hb)]; exact I1.hok.fresh hb
  have I3:Inv X ((f,PySem.W.kla_obj "<lambda>" (X.env.qual ++ "<lambda>") params body scope [("keys",cK)] ((X.mg "__name__").getD .none) c' ctv)::(c',oc)::pins) σ (upd H1 Pt (.tbl (#[]++more))) s2:=I2.pins_of fun p hp=>by
    rcases List.mem_cons.mp hp with rfl | hp
    · exact ⟨hf,fr _ gf,Nat.ne_of_gt (Nat.lt_of_lt_of_le I1.lt gf),I1.nofs gf,fun v z=>nomatch z⟩
    · rcases List.mem_cons.mp hp with rfl | hp
      · exact ⟨hoc,fr _ gc,Nat.ne_of_gt (Nat.lt_of_lt_of_le I1.lt gc),I1.nofs gc,fun v z=>by rw [hfd] at z; cases z⟩
      · exact I2.pin p (List.mem_append_right _ hp)
  have off:OffD Pt H1 (upd H1 Pt (.tbl (#[]++more))):=OffD.upd
  have lP2:∀ b o,H1 b=some o→(∀ ps,o≠.tbl ps)→b≠Pt:=fun b o e n z=>by rw [z,hP] at e; cases e; exact n _ rfl
  have hys2:=off _ _ (lP2 l _ hys (fun _ z=>nomatch z)) hys
  have ly:=paired_len pr
  have hu:X.A.units+2<cLine:=by have:=hr.un; omega
  refine thn (sorted_key (kz:=cs.map (rkI kps)) (pf:=[(f,PySem.W.kla_obj "<lambda>" (X.env.qual ++ "<lambda>") params body scope [("keys",cK)] ((X.mg "__name__").getD .none) c' ctv),(c',oc)]) I3 (SqL.of hys2) (by omega) (by rw [List.length_map]; omega) (fun p hp=>?_) hu (fun i y k hy2 hk2=>?_) (Q:=Q) fun D H' hD sm e=>?_) fun v s3 ⟨x,H3,I4,r,q3⟩=>⟨x,H3,I4.pins_of (fun p hp=>I4.pin p (List.mem_append_right _ (.tail _ (.tail _ hp)))),r,q3⟩
  · rcases List.mem_cons.mp hp with rfl | hp
    · exact .head _
    · rw [List.mem_singleton.mp hp]
      exact .tail _ (.head _)
  · obtain ⟨x,hx2,rfl⟩:∃ x,cs[i]?=some x∧k=rkI kps x:=by
      rw [List.getElem?_map] at hk2
      cases ex:cs[i]? with
      | none=>rw [ex] at hk2; cases hk2
      | some x=>rw [ex] at hk2; exact ⟨x,rfl,(Option.some.inj hk2).symm⟩
    obtain ⟨a,rfl,na,ha⟩:=paired_at pr hy2 hx2
    intro pins' s' H' u Q' hpf I' sm ru hQ
    cases ru
    have pinf:=I'.pin _ (List.mem_append_right _ (hpf _ (.head _)))
    have pinc:=I'.pin _ (List.mem_append_right _ (hpf _ (.tail _ (.head _))))
    have sm1:∀ b o,b≠Pt→H1 b=some o→H' b=some o:=fun b o n e=>sm _ _ (off b o n e)
    have hrA:Room 6 X.A.in1.in1:=⟨hr.hd,by have:=hr.dp; show X.A.depth+_<_; omega,by have:=hr.un; show X.A.units+1+1+_<_; omega⟩
    refine lam_call (k:=5) (c:=cK) (x := "card") (y := "keys") (iy:=3) (vy:=.ref kb) (vx:=.ref a) I' rfl hrA pinf.1 ⟨c',oc,fv,tq,rfl,pinc.1,hfd,hfv⟩ hkind hco hgen hcell hx hy hfree (hbind _ _ _ _ _ _) hcK hk hN hσ rfl (hb _ f c' s' H' (hrA.deeper _)) ?_
    obtain ⟨bs,b1,b2,b3⟩:=eK
    refine ⟨_,rfl,_,rfl,a,kb,x,kps,rfl,sm1 _ _ (lP2 a _ ha (fun _ z=>nomatch z)) ha,cok x (List.mem_of_getElem? hx2),⟨bs,sm1 _ _ (lP2 kb _ b1 (fun _ z=>nomatch z)) b1,b2,fun j b y hb2 hy3=>?_⟩,okK,lK,fun H2 p2 s2 hp2 e2=>hQ p2 H2 hp2 s2 (by rw [e2,rk_vN]; rfl)⟩
    obtain ⟨dx,d,g1,g2⟩:=b3 j b y hb2 hy3
    exact ⟨dx,d,sm1 _ _ (lP2 b _ g1 (fun _ z=>nomatch z)) g1,sm1 _ _ (lP2 d _ g2 (fun _ z=>nomatch z)) g2⟩
  · have nDP:D≠Pt:=fun z=>by rw [z,upd_same] at hD; cases hD
    have hD1:H1 D=none:=by rw [upd_ne nDP] at hD; exact hD
    refine q H' D (fun b o n z=>sm _ _ (off b o n z)) hD1 ⟨_,e,sort_each pr (rkI kps) fun v x ⟨a,ev,na,ha⟩=>⟨a,ev,ne_of_none ha hD1,?_⟩⟩
    exact sm _ _ (off _ _ (lP2 a _ ha (fun _ z=>nomatch z)) ha)
section
variable {P:Program}{w:World}{K:PySem.W.Frag}{mg:Str→Option Value}{base:Heap}{t:Adr}{cc Pt:Addr}
theorem okC {x qual:Str}{st:Stmt}{f:Addr}{fd:FuncData}{N ps:List Str}{k:Nat}{sp:Sp}(F:Fun K x qual st f fd) (hc:fd.code=.ref cc) (S:FnScope N ps (defScope st)) (len:∀ vs H Q E,sp vs H Q E→vs.length=ps.length)
    (hbody:∀ (A:Around) (outer:List Env) (s:Shared) (H:Hp) (vs:List V) (Q:VK) (E:XK),Room k (A.deeper (envOfC qual (defScope st) s.heap.objs.size f (.ref cc)))→sp vs H Q E→
      ∃ t,PSs (cxOf CX0 P w K mg base N qual (defScope st) f (.ref cc) A outer s H E).nox (defBody st) t∧t { nx:=fun _ H'=>Q .non H',rt:=Q } (start N vs) H):FnOk P w K mg base CX0 (k+1) f fd ps sp:=by
  obtain ⟨oc,od,kV,doc,pm,an,cdv,ct,osl,rfl,lk,hcd⟩:=F.ex
  have e:cdv=.ref cc:=hc
  subst e
  refine fn_of lk hcd S len fun A outer s H vs Q E hr hsp=>?_
  obtain ⟨t,h,q⟩:=hbody A outer s H vs Q E hr hsp
  exact ⟨t,h.nox,q⟩
def spMio (t:Adr) (Pt:Addr):Sp:=fun vs H Q _=>∃ (a b:Addr) (ps:List JM.Pt) (ds:List Pu.Card),vs=[.ref a,.ref b]∧Each H a (PtAt t) ps∧(∀ x∈ps,JM.PtOk x)∧ps.length≤64∧EachV H b (CdV b) ds∧(∀ x∈ds,CdOk x)∧ds.length≤1000∧H Pt=some (.tbl #[])∧
  ∀ H' D,OffD Pt H H'→H D=none→EachV H' D (CdV D) (JM.ordM ps ds)→Q (.ref D) H'
theorem scMio:FnScope ["parts", "cards", "wheres", "keys", "meant", "card"] ["parts", "cards"] (defScope sMio):=⟨rfl,rfl,rfl,by decide +kernel,rfl,by decide +kernel,by decide +kernel⟩
theorem blkMio:blkC ["parts", "cards", "wheres", "keys", "meant", "card"] (defScope sMio) (blkS [(".0",.local),("card",.local),("is_meant",.globalImplicit),("wheres",.free)]) [("card",5)]=true:=by decide +kernel
theorem ok_mio {f:Addr}{fd:FuncData}(F:Fun K "meant_in_order" "meant_in_order" sMio f fd) (hc:fd.code=.ref cc) (L:LamAt base mg cc Pt) (T3:Tx3 mg) (cWs:Cal P w K mg base "wheres_of" 1 ["parts"] (spSel t JM.isW)) (cKs:Cal P w K mg base "keys_of" 1 ["parts"] (spSel t JM.isK))
    (cMeant:Cal P w K mg base "is_meant" 2 ["card", "wheres"] (spMeant t)) (cRanks:Cal P w K mg base "card_ranks" 4 ["card", "keys"] (spRanks t)):FnOk P w K mg base CX0 9 f fd ["parts", "cards"] (spMio t Pt):=by
  refine okC F hc scMio (fun vs H Q E h=>?_) (fun A outer s H vs Q E hr h=>?_)
  · obtain ⟨a,b,ps,ds,rfl,_⟩:=h
    rfl
  · obtain ⟨a,b,ps,ds,rfl,eP,ok,l64,eD,cok,lD,hP,k⟩:=h
    refine ⟨_,pss_cons (ps_set (i:=2) scMio.nd rfl (Or.inr rfl) (pe_cal cWs hr (by decide) rfl (pa_cons (pv 0) pa_nil)))
      (pss_cons (ps_set (i:=3) scMio.nd rfl (Or.inr rfl) (pe_cal cKs hr (by decide) rfl (pa_cons (pv 0) pa_nil)))
      (pss_cons (ps_setLc (own:=[("card",5)]) (i:=4) (tt:=tB (tCall (spMeant t) [] E0 (tCons (tVar 5) (tCons (tVar 2) tNil)))) rfl scMio.nd rfl rfl (sw_true rfl rfl rfl rfl) (pi_list (pv 1)) (blkOk_by blkMio) (fun s H C cl fp=>pg_name (i:=5) scMio.nd rfl (Or.inl rfl)) (fun s H C cl fp=>pts_one (pt_val (pe_cal cMeant hr (by decide) rfl (pa_cons (pv 5) (pa_cons (pv 2) pa_nil))))) (fun s H C cl fp=>pv 5))
      (pss_one (ps_ret (pe_srt (t:=t) (Pt:=Pt) (cc:=cc) (pa_cons (pv 4) pa_nil) hr L rfl rfl T3.zSorted (fun A f c' s H hr'=>pe_cal cRanks hr' (by decide) rfl (pa_cons (pv 0) (pa_cons (pv 1) pa_nil))) rfl rfl rfl rfl rfl rfl rfl rfl (by decide +kernel) rfl rfl (by decide +kernel) (fun _ _ _ _ _ _=>rfl)))))),?_⟩
    refine ⟨_,rfl,a,ps,rfl,eP,ok,l64,fun H1 qw s1 nw eW=>?_⟩
    refine ⟨_,rfl,a,ps,rfl,eP.same s1 (fun a x h=>h.same s1),ok,l64,fun H2 qk s2 nk eK=>?_⟩
    have s12:=s1.trans s2
    have eW2:=eW.same s2 (fun a x h=>h.same s2)
    obtain ⟨vs,hvs,pr⟩:=eD
    have lv:=paired_len pr
    refine ⟨_,rfl,b,rfl,⟨_,SqL.of (s12 _ _ hvs)⟩,fun D hD=>?_⟩
    have hD0:H D=none:=s12.free hD
    refine lc_mapL (p:=JM.meansM ps) (f:=id) (S:=CdV D) lv (by omega) hD (SqL.of (s12 _ _ hvs)) cd_mono ?_ (fun H3 s3 e3=>?_)
    · intro i v x H' hv hx s Fin Nx kY kN
      obtain ⟨c,rfl,nc,hcx⟩:=paired_at pr hv hx
      have hcx3:=s _ _ (s12 _ _ hcx)
      refine ⟨rfl,_,rfl,_,rfl,c,qw,x,JM.wsOf ps,rfl,hcx3,cok x (List.mem_of_getElem? hx),eW2.same s (fun a x h=>h.same s),fun y hy=>⟨ok y (List.mem_filter.mp hy).1,(List.mem_filter.mp hy).2⟩,_,rfl,?_⟩
      show if JM.meansM ps x=true then _ else _
      cases e:JM.meansM ps x with
      | true=>exact iteT ⟨_,rfl,kY e H' _ (Same.refl _) ⟨c,rfl,ne_of_none (s12 _ _ hcx) hD,hcx3⟩⟩
      | false=>exact iteF (kN e H' (Same.refl _))
    · rw [List.map_id] at e3
      have s13:=s12.trans s3
      refine ⟨_,rfl,D,qk,_,JM.ksOf ps,rfl,rfl,e3,fun x hx=>cok x (List.mem_filter.mp hx).1,Nat.le_trans (List.length_filter_le _ _) lD,eK.same s3 (fun a x h=>h.same s3),fun y hy=>⟨ok y (List.mem_filter.mp hy).1,(List.mem_filter.mp hy).2⟩,Nat.le_trans (List.length_filter_le _ _) l64,s13 _ _ hP,fun H4 D2 o4 n4 e4=>?_⟩
      exact k H4 D2 (fun b o n z=>o4 b o n (s13 _ _ z)) (s13.free n4) e4
theorem lk_rp (a b:V):([("parts",a),("refusal",b)]:List (Str×V)).lookup ("refusal" : Str)=some b∧([("parts",a),("refusal",b)]:List (Str×V)).lookup ("parts" : Str)=some a:=by
  have h:(("refusal" : Str)==("parts" : Str))=false:=by decide +kernel
  simp [List.lookup,h]
theorem ps_len (b:Bs):(JM.psOf b).length≤64:=by
  have:=JM.parts_len ((Pu.pieces b).take 64)
  rw [List.length_take] at this
  show (JM.readParts _).length≤64
  omega
end
structure Adr2 where
  cS:Addr
  aG:Addr
def figTab:List (Int×V):=[(4,.int 0),(8,.int 1),(16,.int 2),(32,.int 3),(64,.int 4),(128,.int 5),(256,.int 6),(512,.int 7),(1024,.int 8),(2048,.int 9)]
structure Tx2 (K:PySem.W.Frag) (w:World) (mg:Str→Option Value) (u:Adr2):Prop where
  kCodes:∃ u,mg "CODES" = some (.int 64 u)
  kByte:∃ u,mg "MOST_BYTE" = some (.int 255 u)
  kNoS:∃ u,mg "NO_SIGNS" = some (.int (-2) u)
  kMinus:∃ u,mg "MINUS_ROW" = some (.int 1 u)
  kLimit:∃ u,mg "SUM_LIMIT" = some (.int 10000000000000000 u)
  kPl:∃ u,mg "PLACES" = some (.int 132 u)
  kBlank:∃ u,mg "BLANK" = some (.int 32 u)
  kNot:∃ u,mg "NOT_MET" = some (.int (-5) u)
  gG:mg "FIGURES" = some (.ref u.aG)
  dG:KDictI K u.aG figTab
  clS:Cls K u.cS
  nSs:NoAttr K u.cS "strange"
  nSh:NoAttr K u.cS "by_holes"
  zSet:mg "set" = none
  zAll:mg "all" = none
  zAbs:mg "abs" = none
  zStr:mg "str" = none
  zZip:mg "zip" = none
abbrev sRowH:Stmt:=top 14
abbrev sFigH:Stmt:=top 15
abbrev sCode:Stmt:=top 16
abbrev sInitS:Stmt:=inClass (top 59) 0
abbrev sByte:Stmt:=top 60
abbrev sLeg:Stmt:=top 61
abbrev sSigns:Stmt:=top 62
abbrev sTs:Stmt:=top 69
abbrev sSs:Stmt:=top 70
abbrev sLst:Stmt:=top 71
abbrev sJoin:Stmt:=top 95
abbrev sShow:Stmt:=inClass (top 59) 1
abbrev sFigV:Stmt:=top 17
abbrev sAmt:Stmt:=top 18
abbrev sShN:Stmt:=top 63
abbrev sBlk:Stmt:=top 64
abbrev sPut:Stmt:=top 65
abbrev sLvB:Stmt:=top 80
abbrev sEnd:Stmt:=top 81
abbrev sGrp:Stmt:=top 82
abbrev sSumA:Stmt:=top 83
abbrev sStay:Stmt:=top 84
abbrev sSumd:Stmt:=top 85
abbrev sMet:Stmt:=top 86
abbrev sOver:Stmt:=top 87
abbrev sPutF:Stmt:=top 88
abbrev sCdL:Stmt:=top 89
abbrev sTtL:Stmt:=top 90
abbrev sGrL:Stmt:=top 91
abbrev sHasL:Stmt:=top 92
abbrev sMean:Stmt:=top 93
abbrev sPap:Stmt:=top 97
section
variable {P:Program}{w:World}{K:PySem.W.Frag}{mg:Str→Option Value}{base:Heap}{t:Adr}{u:Adr2}
def spRowH:Sp:=fun vs H Q _=>∃ r:Nat,vs=[.int (r:Int)]∧r≤11∧Q (.int ((2 ^ r:Nat):Int)) H
theorem scRowH:FnScope ["row"] ["row"] (defScope sRowH):=⟨rfl,rfl,rfl,by decide +kernel,rfl,by decide +kernel,by decide +kernel⟩
theorem ok_rowH {f:Addr}{fd:FuncData}(F:Fun K "row_holes" "row_holes" sRowH f fd):FnOk P w K mg base CX0 1 f fd ["row"] spRowH:=by
  refine F.ok scRowH (fun vs H Q E h=>?_) (fun cdv A outer s H vs Q E hr h=>?_)
  · obtain ⟨r,rfl,_⟩:=h
    rfl
  · obtain ⟨r,rfl,hl,k⟩:=h
    refine ⟨_,pss_one (ps_ret (pe_op op_shl pe_int (pv 0))),?_⟩
    refine ⟨_,rfl,_,_,rfl,rfl,⟨by omega,by omega,by decide⟩,?_⟩
    have e:(1:Int) * 2 ^ ((r:Int)).toNat=((2 ^ r:Nat):Int):=by
      rw [Int.one_mul,Int.toNat_natCast,Int.natCast_pow]
      rfl
    rw [←e] at k
    exact k
def spFigH:Sp:=fun vs H Q _=>∃ d:Nat,vs=[.int (d:Int)]∧d≤9∧Q (.int ((2 ^ (d+2):Nat):Int)) H
theorem scFigH:FnScope ["figure"] ["figure"] (defScope sFigH):=⟨rfl,rfl,rfl,by decide +kernel,rfl,by decide +kernel,by decide +kernel⟩
theorem ok_figH {f:Addr}{fd:FuncData}(F:Fun K "figure_holes" "figure_holes" sFigH f fd) (cRowH:Cal P w K mg base "row_holes" 1 ["row"] spRowH):FnOk P w K mg base CX0 2 f fd ["figure"] spFigH:=by
  refine F.ok scFigH (fun vs H Q E h=>?_) (fun cdv A outer s H vs Q E hr h=>?_)
  · obtain ⟨r,rfl,_⟩:=h
    rfl
  · obtain ⟨d,rfl,hl,k⟩:=h
    refine ⟨_,pss_one (ps_ret (pe_cal cRowH hr (by decide) rfl (pa_cons (pe_op op_add (pv 0) pe_int) pa_nil))),?_⟩
    exact ⟨_,rfl,_,_,rfl,rfl,d+2,rfl,by omega,k⟩
def cdP (n:Nat):Int:=if 9<n % 16 then Builtin.bitOr (Builtin.bitOr (if 0<n / 16 then ((2 ^ (n / 16-1):Nat):Int) else 0) ((2 ^ 10:Nat):Int)) ((2 ^ (n % 16-8+2):Nat):Int)
  else if 0<n % 16 then Builtin.bitOr (if 0<n / 16 then ((2 ^ (n / 16-1):Nat):Int) else 0) ((2 ^ (n % 16+2):Nat):Int) else (if 0<n / 16 then ((2 ^ (n / 16-1):Nat):Int) else 0)
theorem cdP_is:∀ n,n<64→cdP n=((Pu.code n:Nat):Int):=by decide +kernel
def spCode:Sp:=fun vs H Q _=>∃ n:Nat,vs=[.int (n:Int)]∧n<64∧Q (.int ((Pu.code n:Nat):Int)) H
theorem scCode:FnScope ["number", "zone", "value", "holes"] ["number"] (defScope sCode):=⟨rfl,rfl,rfl,by decide +kernel,rfl,by decide +kernel,by decide +kernel⟩
theorem ok_code {f:Addr}{fd:FuncData}(F:Fun K "code_holes" "code_holes" sCode f fd) (cRowH:Cal P w K mg base "row_holes" 1 ["row"] spRowH) (cFigH:Cal P w K mg base "figure_holes" 2 ["figure"] spFigH):FnOk P w K mg base CX0 3 f fd ["number"] spCode:=by
  refine F.ok scCode (fun vs H Q E h=>?_) (fun cdv A outer s H vs Q E hr h=>?_)
  · obtain ⟨r,rfl,_⟩:=h
    rfl
  · obtain ⟨n,rfl,hl,k⟩:=h
    rw [←cdP_is n hl] at k
    refine ⟨_,pss_cons (ps_set (i:=1) scCode.nd rfl (Or.inl rfl) (pe_op op_fdiv (pv 0) pe_int))
      (pss_cons (ps_set (i:=2) scCode.nd rfl (Or.inl rfl) (pe_op op_mod (pv 0) pe_int))
      (pss_cons (ps_set (i:=3) scCode.nd rfl (Or.inl rfl) pe_int)
      (pss_cons (ps_if (pt_cmpR op_gt (pv 1) pe_int (nomark _)) (pss_one (ps_set (i:=3) scCode.nd rfl (Or.inl rfl) (pe_cal cRowH hr (by decide) rfl (pa_cons (pe_op op_sub (pv 1) pe_int) pa_nil)))) pss_nil)
      (pss_cons (ps_if (pt_cmpR op_gt (pv 2) pe_int (nomark _)) (pss_one (ps_ret (pe_op op_or (pe_op op_or (pv 3) (pe_cal cFigH hr (by decide) rfl (pa_cons pe_int pa_nil))) (pe_cal cFigH hr (by decide) rfl (pa_cons (pe_op op_sub (pv 2) pe_int) pa_nil))))) pss_nil)
      (pss_cons (ps_if (pt_cmpR op_gt (pv 2) pe_int (nomark _)) (pss_one (ps_ret (pe_op op_or (pv 3) (pe_cal cFigH hr (by decide) rfl (pa_cons (pv 2) pa_nil))))) pss_nil)
      (pss_one (ps_ret (pv 3)))))))),?_⟩
    have ez:(n:Int) / 16=((n / 16:Nat):Int):=by omega
    have ev:(n:Int) % 16=((n % 16:Nat):Int):=by omega
    unfold cdP at k
    have v16:n % 16<16:=Nat.mod_lt _ (by decide)
    refine ⟨_,rfl,_,_,rfl,rfl,⟨by decide,by decide⟩,_,rfl,_,_,rfl,rfl,(by show (0:Int)<16; decide),?_⟩
    dsimp only
    rw [ez,ev]
    refine ⟨_,rfl,_,_,rfl,rfl,_,rfl,ite2 (fun e=>?_) (fun e=>?_)⟩
    · have e:0<n / 16:=by
        have:=of_decide_eq_true e
        omega
      rw [if_pos e] at k
      refine ⟨_,rfl,_,_,rfl,rfl,n / 16-1,?_,by omega,?_⟩
      · show [V.int (((n / 16:Nat):Int)-1)]=_
        rw [show ((n / 16:Nat):Int)-1=((n / 16-1:Nat):Int) by omega]
      refine ⟨_,rfl,_,_,rfl,rfl,_,rfl,ite2 (fun e2=>?_) (fun e2=>?_)⟩
      · have e2:9<n % 16:=by
          have:=of_decide_eq_true e2
          omega
        rw [if_pos e2] at k
        refine ⟨_,rfl,8,rfl,by decide,_,_,rfl,rfl,_,rfl,_,_,rfl,rfl,n % 16-8,?_,by omega,_,_,rfl,rfl,k⟩
        show [V.int (((n % 16:Nat):Int)-8)]=_
        rw [show ((n % 16:Nat):Int)-8=((n % 16-8:Nat):Int) by omega]
      · have e2:¬9<n % 16:=fun z=>e2 (decide_eq_true (by omega))
        rw [if_neg e2] at k
        refine ⟨_,rfl,_,_,rfl,rfl,_,rfl,ite2 (fun e3=>?_) (fun e3=>?_)⟩
        · have e3:0<n % 16:=by
            have:=of_decide_eq_true e3
            omega
          rw [if_pos e3] at k
          exact ⟨_,rfl,_,rfl,n % 16,rfl,by omega,_,_,rfl,rfl,k⟩
        · have e3:¬0<n % 16:=fun z=>e3 (decide_eq_true (by omega))
          rw [if_neg e3] at k
          exact ⟨_,rfl,k⟩
    · have e:¬0<n / 16:=fun z=>e (decide_eq_true (by omega))
      rw [if_neg e] at k
      refine ⟨_,rfl,_,_,rfl,rfl,_,rfl,ite2 (fun e2=>?_) (fun e2=>?_)⟩
      · have e2:9<n % 16:=by
          have:=of_decide_eq_true e2
          omega
        rw [if_pos e2] at k
        refine ⟨_,rfl,8,rfl,by decide,_,_,rfl,rfl,_,rfl,_,_,rfl,rfl,n % 16-8,?_,by omega,_,_,rfl,rfl,k⟩
        show [V.int (((n % 16:Nat):Int)-8)]=_
        rw [show ((n % 16:Nat):Int)-8=((n % 16-8:Nat):Int) by omega]
      · have e2:¬9<n % 16:=fun z=>e2 (decide_eq_true (by omega))
        rw [if_neg e2] at k
        refine ⟨_,rfl,_,_,rfl,rfl,_,rfl,ite2 (fun e3=>?_) (fun e3=>?_)⟩
        · have e3:0<n % 16:=by
            have:=of_decide_eq_true e3
            omega
          rw [if_pos e3] at k
          exact ⟨_,rfl,_,rfl,n % 16,rfl,by omega,_,_,rfl,rfl,k⟩
        · have e3:¬0<n % 16:=fun z=>e3 (decide_eq_true (by omega))
          rw [if_neg e3] at k
          exact ⟨_,rfl,k⟩
theorem scSs:FnScope ["parts", "part"] ["parts"] (defScope sSs):=⟨rfl,rfl,rfl,by decide +kernel,rfl,by decide +kernel,by decide +kernel⟩
theorem blkSs:blkC ["parts", "part"] (defScope sSs) (blkS [(".0",.local),("part",.local)]) [("part",1)]=true:=by decide +kernel
theorem ok_ss {f:Addr}{fd:FuncData}(F:Fun K "seens_of" "seens_of" sSs f fd) (T:Txt K w mg t):FnOk P w K mg base CX0 1 f fd ["parts"] (spSel t JM.isS):=by
  refine F.ok scSs (fun vs H Q E h=>?_) (fun cdv A outer s H vs Q E hr h=>?_)
  · obtain ⟨a,ps,rfl,_⟩:=h
    rfl
  · obtain ⟨a,ps,rfl,⟨as,h1,h2,h3⟩,ok,len,k⟩:=h
    refine ⟨_,pss_one (ps_ret (pe_lc (own:=[("part",1)]) (tt:=tTest (tOp rEq (tFld K (tVar 1) "word") (tC (.str "see")))) rfl scSs.nd (pi_list (pv 0)) (blkOk_by blkSs) (fun s H C cl fp=>pg_name (i:=1) scSs.nd rfl (Or.inl rfl))
      (fun s H C cl fp=>pts_one (pt_cmpR op_eq (pe_fld (pv 1) rfl) pe_str (nomark _))) (fun s H C cl fp=>pv 1))),?_⟩
    refine ⟨_,rfl,a,rfl,⟨_,SqL.of h1⟩,fun D hD=>?_⟩
    refine lc_mapL (p:=JM.isS) (f:=id) (S:=PtV t) (by rw [List.length_map]; exact h2) (by omega) hD (SqL.of h1) pt_mono ?_ (fun H' s e=>k H' D s hD (by have e:=each_of e; rw [List.map_id] at e; exact e))
    intro i v x H' hv hx s Fin Nx kY kN
    obtain ⟨c,hc,rfl⟩:=get_ref hv
    obtain ⟨dx,d,g1,g2⟩:=(h3 i c x hc hx).same s
    have okx:=ok x (List.mem_of_getElem? hx)
    refine ⟨rfl,_,rfl,c,t.cP,dx,_,_,rfl,g1,T.clP,T.nPw,lk_word _ _,rfl,_,rfl,?_⟩
    rw [w_see okx.1]
    show if JM.isS x=true then _ else _
    cases e:JM.isS x with
    | true=>exact iteT ⟨_,rfl,kY e H' _ (Same.refl _) ⟨c,rfl,dx,d,g1,g2⟩⟩
    | false=>exact iteF (kN e H' (Same.refl _))
theorem scTs:FnScope ["parts", "part"] ["parts"] (defScope sTs):=⟨rfl,rfl,rfl,by decide +kernel,rfl,by decide +kernel,by decide +kernel⟩
theorem blkTs:blkC ["parts", "part"] (defScope sTs) (blkS [(".0",.local),("part",.local)]) [("part",1)]=true:=by decide +kernel
theorem ok_ts {f:Addr}{fd:FuncData}(F:Fun K "totals_of" "totals_of" sTs f fd) (T:Txt K w mg t):FnOk P w K mg base CX0 1 f fd ["parts"] (spSel t JM.isT):=by
  refine F.ok scTs (fun vs H Q E h=>?_) (fun cdv A outer s H vs Q E hr h=>?_)
  · obtain ⟨a,ps,rfl,_⟩:=h
    rfl
  · obtain ⟨a,ps,rfl,⟨as,h1,h2,h3⟩,ok,len,k⟩:=h
    refine ⟨_,pss_one (ps_ret (pe_lc (own:=[("part",1)]) (tt:=tOr (tTest (tOp rEq (tFld K (tVar 1) "word") (tC (.str "sum")))) (tTest (tOp rEq (tFld K (tVar 1) "word") (tC (.str "count"))))) rfl scTs.nd (pi_list (pv 0)) (blkOk_by blkTs) (fun s H C cl fp=>pg_name (i:=1) scTs.nd rfl (Or.inl rfl))
      (fun s H C cl fp=>pts_one (PW.pt (pw_or (pt_cmpR op_eq (pe_fld (pv 1) rfl) pe_str (nomark _)) (pw_or1 (pt_cmpR op_eq (pe_fld (pv 1) rfl) pe_str (nomark _)))))) (fun s H C cl fp=>pv 1))),?_⟩
    refine ⟨_,rfl,a,rfl,⟨_,SqL.of h1⟩,fun D hD=>?_⟩
    refine lc_mapL (p:=JM.isT) (f:=id) (S:=PtV t) (by rw [List.length_map]; exact h2) (by omega) hD (SqL.of h1) pt_mono ?_ (fun H' s e=>k H' D s hD (by have e:=each_of e; rw [List.map_id] at e; exact e))
    intro i v x H' hv hx s Fin Nx kY kN
    obtain ⟨c,hc,rfl⟩:=get_ref hv
    obtain ⟨dx,d,g1,g2⟩:=(h3 i c x hc hx).same s
    have okx:=ok x (List.mem_of_getElem? hx)
    have e:JM.isT x=(decide (x.1=4) || decide (x.1=5)):=rfl
    refine ⟨rfl,_,rfl,c,t.cP,dx,_,_,rfl,g1,T.clP,T.nPw,lk_word _ _,rfl,_,rfl,?_⟩
    rw [w_sum okx.1]
    by_cases e4:x.1=4
    · rw [decide_eq_true e4] at e ⊢
      exact iteT (iteT ⟨_,rfl,kY e H' _ (Same.refl _) ⟨c,rfl,dx,d,g1,g2⟩⟩)
    · rw [decide_eq_false e4] at e ⊢
      refine iteF ⟨_,rfl,c,t.cP,dx,_,_,rfl,g1,T.clP,T.nPw,lk_word _ _,rfl,_,rfl,?_⟩
      rw [w_count okx.1]
      rw [Bool.false_or] at e
      rw [←e]
      cases e:JM.isT x with
      | true=>exact iteT ⟨_,rfl,kY e H' _ (Same.refl _) ⟨c,rfl,dx,d,g1,g2⟩⟩
      | false=>exact iteF (kN e H' (Same.refl _))
def spLst (t:Adr):Sp:=fun vs H Q _=>∃ (a:Addr) (ini:List JM.Pt) (x:JM.Pt),vs=[.ref a]∧Each H a (PtAt t) (ini++[x])∧Q (.str (endS x.1)) H
theorem scLst:FnScope ["parts"] ["parts"] (defScope sLst):=⟨rfl,rfl,rfl,by decide +kernel,rfl,by decide +kernel,by decide +kernel⟩
theorem ok_lst {f:Addr}{fd:FuncData}(F:Fun K "listing_of" "listing_of" sLst f fd) (T:Txt K w mg t):FnOk P w K mg base CX0 1 f fd ["parts"] (spLst t):=by
  refine F.ok scLst (fun vs H Q E h=>?_) (fun cdv A outer s H vs Q E hr h=>?_)
  · obtain ⟨a,ini,x,rfl,_⟩:=h
    rfl
  · obtain ⟨a,ini,x,rfl,⟨as,h1,h2,h3⟩,k⟩:=h
    refine ⟨_,pss_one (ps_ret (pe_fld (pe_ix ix_list (pv 0) (pe_un un_neg pe_int) (fun _ _=>rfl)) rfl)),?_⟩
    rw [List.length_append,List.length_singleton] at h2
    obtain ⟨c,hc⟩:∃ c,as[ini.length]?=some c:=⟨_,List.getElem?_eq_getElem (by omega)⟩
    obtain ⟨dx,d,g1,g2⟩:=h3 ini.length c x hc (by simp)
    refine ⟨_,rfl,_,rfl,a,_,_,_,rfl,rfl,SqL.of h1,at_tail (x:=V.ref c) ?_,c,t.cP,dx,_,_,rfl,g1,T.clP,T.nPe,lk_end x.1 d,k⟩
    rw [List.getLast?_map,List.getLast?_eq_getElem?,show as.length-1=ini.length by omega,hc]
    rfl
def codesOf (lg:List Int):List (Key×V):=lg.zipIdx.map fun x=>((Sum.inl ((Pu.code x.2:Nat):Int):Key),V.int x.1)
def spByte:Sp:=fun vs H Q _=>∃ n:Int,vs=[.int n]∧Q (.bl (decide (0≤n)&&decide (n≤255))) H
theorem scByte:FnScope ["number"] ["number"] (defScope sByte):=⟨rfl,rfl,rfl,by decide +kernel,rfl,by decide +kernel,by decide +kernel⟩
theorem ok_byte {f:Addr}{fd:FuncData}(F:Fun K "is_byte" "is_byte" sByte f fd) (T:Tx2 K w mg u):FnOk P w K mg base CX0 1 f fd ["number"] spByte:=by
  refine F.ok scByte (fun vs H Q E h=>?_) (fun cdv A outer s H vs Q E hr h=>?_)
  · obtain ⟨r,rfl,_⟩:=h
    rfl
  · obtain ⟨n,rfl,k⟩:=h
    refine ⟨_,pss_one (ps_ret (pe_chain op_le op_le pe_int (pv 0) (pe_k T.kByte rfl))),?_⟩
    refine ⟨_,rfl,_,_,rfl,rfl,_,rfl,ite2 (fun e=>?_) (fun e=>?_)⟩
    · rw [e,Bool.true_and] at k
      exact ⟨_,_,rfl,rfl,k⟩
    · rw [Bool.eq_false_iff.mpr e,Bool.false_and] at k
      exact k
theorem met_nodup:∀ (ns:List Int),(firstMet (fun i=>ns.getD i 0) ns.length).length=ns.length↔ns.Nodup:=by
  intro ns
  have any:∀ i k,(firstMet (fun i=>ns.getD i 0) i).any (·==k)=((List.range i).map fun i=>ns.getD i 0).any (·==k):=fun i k=>firstMet_any _ i k
  have go:∀ i,i≤ns.length→((firstMet (fun i=>ns.getD i 0) i).length=i↔(ns.take i).Nodup):=by
    intro i
    induction i with
    | zero=>intro _; simp [firstMet_zero]
    | succ i ih=>
      intro hi
      have ih:=ih (by omega)
      have le:=firstMet_length_le (fun i=>ns.getD i 0) i
      have hx:ns[i]?=some (ns.getD i 0):=by
        rw [List.getD_eq_getElem?_getD,List.getElem?_eq_getElem (by omega)]
        rfl
      have tk:(List.range i).map (fun i=>ns.getD i 0)=ns.take i:=by
        apply List.ext_getElem?
        intro j
        rw [List.getElem?_map,List.getElem?_take]
        by_cases hj:j<i
        · rw [if_pos hj,List.getElem?_range hj,List.getElem?_eq_getElem (show j<ns.length by omega)]
          simp [List.getD_eq_getElem?_getD,List.getElem?_eq_getElem (show j<ns.length by omega)]
        · rw [if_neg hj,List.getElem?_eq_none (by rw [List.length_range]; omega)]
          rfl
      rw [firstMet_succ,step_length,any,tk,L2.take_next hx,List.nodup_append]
      by_cases m:ns.getD i 0∈ns.take i
      · have a:((ns.take i).any (·==ns.getD i 0))=true:=List.any_eq_true.mpr ⟨_,m,by simp⟩
        rw [if_pos a]
        constructor
        · intro z
          omega
        · rintro ⟨_,_,z⟩
          exact absurd rfl (z _ m _ (by simp))
      · have a:((ns.take i).any (·==ns.getD i 0))=false:=by
          rw [List.any_eq_false]
          intro y hy z
          have:y=ns.getD i 0:=by simpa using z
          exact m (this ▸ hy)
        rw [if_neg (by rw [a]; exact Bool.false_ne_true)]
        constructor
        · intro z
          refine ⟨ih.mp (by omega),by simp,fun y hy z2 hz2=>?_⟩
          rw [List.mem_singleton] at hz2
          subst hz2
          rintro rfl
          exact m hy
        · rintro ⟨z,_,_⟩
          rw [ih.mpr z]
  have:=go ns.length (Nat.le_refl _)
  rw [List.take_length] at this
  exact this
def spLeg (K:PySem.W.Frag):Sp:=fun vs H Q _=>∃ (a:Addr) (ns:List Int),vs=[.ref a]∧SqL K H a (ns.map V.int)∧(∀ n∈ns,0≤n∧n≤255)∧∀ H',Same H H'→Q (.bl (JM.legM ns)) H'
theorem scLeg:FnScope ["legend", "number"] ["legend"] (defScope sLeg):=⟨rfl,rfl,rfl,by decide +kernel,rfl,by decide +kernel,by decide +kernel⟩
theorem blkLeg:blkC ["legend", "number"] (defScope sLeg) (blkS [(".0",.local),("number",.local),("is_byte",.globalImplicit)]) [("number",1)]=true:=by decide +kernel
theorem dec_i (a b:Nat):decide (V.int (a:Int)=V.int (b:Int))=decide (a=b):=by
  rw [dec_int]
  exact Bool.eq_iff_iff.mpr (by simp; omega)
def BlV (H:Hp) (v:V) (b:Bool):Prop:=v=.bl b
theorem bl_mono {D:Addr}(H H':Hp) (y:V) (z:Bool) (acc:List V) (hD:H D=some (.lst acc)) (o:OffD D H H') (h:BlV H y z):BlV H' y z:=h
theorem bls_of {H:Hp}{p:Addr}{bs:List Bool}(h:EachV H p BlV bs):H p=some (.lst (bs.map V.bl)):=by
  obtain ⟨vs,e,pr⟩:=h
  rw [e]
  clear e
  congr 2
  induction pr with
  | nil=>rfl
  | cons r _ ih=>rw [List.map_cons,ih,show _=_ from r]
theorem ok_leg {f:Addr}{fd:FuncData}(F:Fun K "is_legend" "is_legend" sLeg f fd) (T:Txt K w mg t) (T2:Tx2 K w mg u) (cByte:Cal P w K mg base "is_byte" 1 ["number"] spByte):FnOk P w K mg base CX0 2 f fd ["legend"] (spLeg K):=by
  refine F.ok scLeg (fun vs H Q E h=>?_) (fun cdv A outer s H vs Q E hr h=>?_)
  · obtain ⟨a,ns,rfl,_⟩:=h
    rfl
  · obtain ⟨a,ns,rfl,hS,hn,k⟩:=h
    refine ⟨_,pss_one (ps_ret (pe_and (pe_cmpR op_eq (pe_callB call_len_seq rfl T.zLen PySem.boot_len (pa_cons (pv 0) pa_nil)) (pe_k T2.kCodes rfl) (nomark _))
      (pe_and (pe_cmpR op_eq (pe_callB call_lenS rfl T.zLen PySem.boot_len (pa_cons (pe_callTy (cr_set rfl) rfl T2.zSet (show bootBuiltins "set" = some (.type "set") by decide +kernel) (pa_cons (pv 0) pa_nil)) pa_nil)) (pe_k T2.kCodes rfl) (nomark _))
      (pe_one (pe_callB (cr_all rfl) rfl T2.zAll boot_all (pa_cons (pe_lc (own:=[("number",1)]) rfl scLeg.nd (pi_list (pv 0)) (blkOk_by blkLeg) (fun s H C cl fp=>pg_name (i:=1) scLeg.nd rfl (Or.inl rfl)) (fun s H C cl fp=>pts_nil) (fun s H C cl fp=>pe_cal cByte hr (by decide) rfl (pa_cons (pv 1) pa_nil))) pa_nil)))))),?_⟩
    refine ⟨_,rfl,a,_,rfl,.inl hS,rfl,_,rfl,?_⟩
    have e64:decide (V.int ((ns.map V.int).length:Int)=V.int 64)=decide (ns.length=64):=by
      rw [List.length_map]
      exact dec_i _ 64
    rw [e64]
    unfold JM.legM at k
    refine ite2 (fun e=>?_) (fun e=>?_)
    · rw [e,Bool.true_and] at k
      have e:=of_decide_eq_true e
      refine ⟨_,rfl,a,ns,rfl,hS,by omega,fun p hp=>⟨p,_,_,rfl,upd_same,Nat.le_trans (firstMet_length_le _ _) (by omega),rfl,_,rfl,?_⟩⟩
      have s1:=same_upd (o:=.set (fun k=>(firstMet (fun i=>ns.getD i 0) ns.length).any (·==k)) (firstMet (fun i=>ns.getD i 0) ns.length).length) hp
      generalize upd H p (.set (fun k=>(firstMet (fun i=>ns.getD i 0) ns.length).any (·==k)) (firstMet (fun i=>ns.getD i 0) ns.length).length)=H1 at s1
      have en:decide (V.int (((firstMet (fun i=>ns.getD i 0) ns.length).length:Nat):Int)=V.int 64)=decide ns.Nodup:=by
        rw [show (64:Int)=((64:Nat):Int) from rfl,dec_i _ 64]
        exact decide_eq_decide.mpr (by rw [←e]; exact met_nodup ns)
      rw [en]
      refine ite2 (fun nd=>?_) (fun nd=>?_)
      · refine ⟨_,rfl,a,rfl,⟨_,s1.seq hS⟩,fun D hD=>?_⟩
        refine lc_mapL (xs:=ns) (p:=fun _=>true) (f:=fun n=>decide (0≤n)&&decide (n≤255)) (S:=BlV) (by rw [List.length_map]) (by omega) hD (s1.seq hS) bl_mono ?_ ?_
        · intro i v n H2 hv hx s2 Fin Nx kY kN
          rw [List.getElem?_map,hx] at hv
          cases hv
          exact ⟨rfl,_,rfl,n,rfl,kY rfl H2 _ (Same.refl _) rfl⟩
        · intro H2 s2 e2
          rw [flt_all] at e2
          refine ⟨D,_,rfl,SqL.of (bls_of e2),?_⟩
          have al:(ns.map fun n=>decide (0≤n)&&decide (n≤255)).all id=true:=by
            rw [List.all_map,List.all_eq_true]
            intro n hm
            have:=hn n hm
            show (decide (0≤n)&&decide (n≤255))=true
            rw [decide_eq_true this.1,decide_eq_true this.2]
            rfl
          rw [al]
          rw [nd] at k
          exact k H2 (s1.trans s2)
      · rw [(Bool.not_eq_true _).mp nd] at k
        exact k H1 s1
    · rw [(Bool.not_eq_true _).mp e,Bool.false_and] at k
      exact k H (Same.refl _)
def SgAt (u:Adr2) (H:Hp) (p:Addr) (s:Int) (lg:List Int):Prop:=∃ dx d,H p=some (.ins u.cS dx [("strange",.int s),("by_holes",.ref d)])∧H d=some (.dK (codesOf lg))
theorem SgAt.same {u:Adr2}{H H':Hp}{p:Addr}{s:Int}{lg:List Int}(sm:Same H H') (h:SgAt u H p s lg):SgAt u H' p s lg:=by
  obtain ⟨dx,d,h1,h2⟩:=h
  exact ⟨dx,d,sm _ _ h1,sm _ _ h2⟩
theorem code_apart:∀ i,i<64→∀ j,j<i→Pu.code j≠Pu.code i:=by decide +kernel
theorem valV_none {kvs:List (Key×V)}{k:Key}(h:∀ p∈kvs,p.1≠k):valV kvs k=none:=by
  unfold valV
  rw [List.find?_eq_none.mpr fun p hp=>by simpa using h p hp]
  rfl
theorem codes_snoc (lg:List Int) (n:Int):codesOf (lg++[n])=codesOf lg++[((Sum.inl ((Pu.code lg.length:Nat):Int):Key),V.int n)]:=by
  unfold codesOf
  rw [List.zipIdx_append,List.map_append]
  simp
theorem codes_fresh {lg:List Int}(h:lg.length<64):valV (codesOf lg) (Sum.inl ((Pu.code lg.length:Nat):Int))=none:=valV_none fun p hp=>by
  unfold codesOf at hp
  obtain ⟨⟨n,j⟩,hm,rfl⟩:=List.mem_map.mp hp
  have hj:=(List.getElem?_eq_some_iff.mp (List.mem_zipIdx_iff_getElem?.mp hm)).1
  intro z
  have z:=Sum.inl.inj z
  exact code_apart lg.length h j hj (by dsimp only at z; omega)
theorem seq_off {H H':Hp}{a p:Addr}{xs:List V}{C dx:Addr}{fs:List (Str×V)}(h:SqL K H a xs) (hp:H p=some (.ins C dx fs)) (k:∀ b o,H b=some o→b≠p→H' b=some o):SqL K H' a xs:=by
  rcases h with (h | ⟨o,h⟩) | h
  · exact .inl (.inl (k _ _ h (ne_of h hp (by intro z; cases z))))
  · exact .inl (.inr ⟨o,k _ _ h (ne_of h hp (by intro z; cases z))⟩)
  · exact .inr h
def spInitS (K:PySem.W.Frag) (u:Adr2):Sp:=fun vs H Q _=>∃ (p dx a:Addr) (s:Int) (lg:List Int),vs=[.ref p,.int s,.ref a]∧H p=some (.ins u.cS dx [])∧SqL K H a (lg.map V.int)∧lg.length=64∧
  ∀ (H':Hp) (d:Addr),H' p=some (.ins u.cS dx [("strange",.int s),("by_holes",.ref d)])→H' d=some (.dK (codesOf lg))→(∀ b o,H b=some o→b≠p→H' b=some o)→Q .non H'
theorem scInitS:FnScope ["self", "strange", "legend", "number", "byte"] ["self", "strange", "legend"] (defScope sInitS):=⟨rfl,rfl,rfl,by decide +kernel,rfl,by decide +kernel,by decide +kernel⟩
theorem lk_holes (x d:V):([("strange",x),("by_holes",d)]:List (Str×V)).lookup ("by_holes" : Str)=some d:=by
  have h:(("by_holes" : Str)==("strange" : Str))=false:=by decide +kernel
  simp [List.lookup,h]
theorem lk_strange (x d:V):([("strange",x),("by_holes",d)]:List (Str×V)).lookup ("strange" : Str)=some x:=by
  simp [List.lookup]
theorem ok_initS {f:Addr}{fd:FuncData}(F:Fun K "__init__" "Signs.__init__" sInitS f fd) (T:Txt K w mg t) (T2:Tx2 K w mg u) (cCode:Cal P w K mg base "code_holes" 3 ["number"] spCode):FnOk P w K mg base CX0 4 f fd ["self", "strange", "legend"] (spInitS K u):=by
  refine F.ok scInitS (fun vs H Q E h=>?_) (fun cdv A outer s H vs Q E hr h=>?_)
  · obtain ⟨p,dx,a,x,lg,rfl,_⟩:=h
    rfl
  · obtain ⟨p,dx,a,x,lg,rfl,hp,hS,hl,k⟩:=h
    have hu:=hu_of hr
    refine ⟨_,pss_cons (ps_fld (pv 0) (pv 1) rfl) (pss_cons (ps_fld (pv 0) pe_dnewK rfl)
      (pss_one (ps_for PassesOwn.never rfl (pi_enum rfl T.zEnum (pa_cons (pv 2) pa_nil)) (pg_tup rfl (pgs_cons (pg_name (i:=3) scInitS.nd rfl (Or.inl rfl)) (pgs_cons (pg_name (i:=4) scInitS.nd rfl (Or.inl rfl)) pgs_nil)))
        (pss_one (ps_dput hu (pe_fld (pv 0) rfl) (pe_cal cCode hr (by decide) rfl (pa_cons (pv 3) pa_nil)) (pv 4) rfl))))),?_⟩
    refine ⟨_,rfl,_,rfl,p,u.cS,dx,[],rfl,hp,T2.clS,T2.nSs,(by show 0<1000; decide),fun d hd=>?_⟩
    have npd:p≠d:=ne_of_none upd_same hd
    have hd0:H d=none:=by
      rw [upd_ne (Ne.symm npd)] at hd
      exact hd
    refine ⟨_,rfl,p,u.cS,dx,_,rfl,by rw [upd_ne npd]; exact upd_same,T2.clS,T2.nSh,(by show 1<1000; decide),?_⟩
    generalize hH1:upd (upd (upd H p _) d (.dK [])) p _=H1
    have h1p:H1 p=some (.ins u.cS dx [("strange",.int x),("by_holes",.ref d)]):=by
      rw [←hH1,upd_same]
      rfl
    have h1d:H1 d=some (.dK []):=by
      rw [←hH1,upd_ne (Ne.symm npd),upd_same]
    have h1k:∀ b o,H b=some o→b≠p→H1 b=some o:=fun b o e ne=>by
      rw [←hH1,upd_ne ne,upd_ne (ne_of_none e hd0),upd_ne ne]
      exact e
    refine ⟨_,rfl,a,_,rfl,seq_off hS hp h1k,for_enum (K:=K) (a:=a) (xs:=lg.map V.int) (fun i σ H'=>∃ (x3 x4:Option V),σ=[some (.ref p),some (.int x),some (.ref a),x3,x4]∧H' p=some (.ins u.cS dx [("strange",.int x),("by_holes",.ref d)])∧H' d=some (.dK (codesOf (lg.take i)))∧∀ b o,H b=some o→b≠p→H' b=some o)
      ⟨none,none,rfl,h1p,by rw [List.take_zero]; exact h1d,h1k⟩ (fun i σ H' _ ⟨_,_,_,_,_,kk⟩=>seq_off hS hp kk) ?_ ?_⟩
    · rintro i y σ H2 Tp hi ⟨x3,x4,rfl,g1,g2,g3⟩ hTp
      rw [List.getElem?_map] at hi
      cases ei:lg[i]? with
      | none=>rw [ei] at hi; cases hi
      | some n=>
        rw [ei] at hi
        cases hi
        have hil:=(List.getElem?_eq_some_iff.mp ei).1
        have s3:Same H2 (upd H2 Tp (.tup [.int (i:Nat),.int n])):=same_upd hTp
        have ht3:upd H2 Tp (.tup [.int (i:Nat),.int n]) Tp=some (.tup [.int (i:Nat),.int n]):=upd_same
        generalize upd H2 Tp (.tup [.int (i:Nat),.int n])=H3 at ht3 s3
        have li:(lg.take i).length=i:=by rw [List.length_take]; omega
        refine ⟨Tp,_,rfl,SqT.of ht3,rfl,_,_,rfl,_,_,rfl,rfl,?_⟩
        refine ⟨_,rfl,_,rfl,p,u.cS,dx,_,_,rfl,s3 _ _ g1,T2.clS,T2.nSh,lk_holes _ _,_,rfl,i,rfl,by omega,d,_,rfl,DPut.k (k:=Sum.inl ((Pu.code i:Nat):Int)) (s3 _ _ g2) ?_,?_⟩
        · refine Nat.lt_of_le_of_lt (m:=64) ?_ (by decide)
          unfold codesOf
          rw [List.length_map,List.length_zipIdx,li]
          omega
        · refine ⟨_,_,rfl,?_,?_,fun b o e ne=>?_⟩
          · rw [upd_ne npd]
            exact s3 _ _ g1
          · have fr:=codes_fresh (lg:=lg.take i) (by omega)
            rw [li] at fr
            rw [upd_same,putK_new fr,take_next ei,codes_snoc,li]
          · rw [upd_ne (ne_of_none e hd0)]
            exact s3 _ _ (g3 b o e ne)
    · rintro σ H2 ⟨x3,x4,rfl,g1,g2,g3⟩
      rw [List.length_map,List.take_length] at g2
      exact k H2 d g1 g2 g3
def signsOk (s:Int) (lg:List Int):Bool:=JM.legM lg&&(decide (0≤s)&&decide (s≤255))
def spSigns (K:PySem.W.Frag) (u:Adr2):Sp:=fun vs H Q _=>∃ (a:Addr) (s:Int) (lg:List Int),vs=[.int s,.ref a]∧SqL K H a (lg.map V.int)∧(∀ n∈lg,0≤n∧n≤255)∧(signsOk s lg=false→∀ H',Same H H'→Q .non H')∧(signsOk s lg=true→∀ H' p,Same H H'→SgAt u H' p s lg→Q (.ref p) H')
theorem scSigns:FnScope ["strange", "legend"] ["strange", "legend"] (defScope sSigns):=⟨rfl,rfl,rfl,by decide +kernel,rfl,by decide +kernel,by decide +kernel⟩
theorem ok_signs {f:Addr}{fd:FuncData}(F:Fun K "read_signs" "read_signs" sSigns f fd) (T:Txt K w mg t) (T2:Tx2 K w mg u) (cLeg:Cal P w K mg base "is_legend" 2 ["legend"] (spLeg K)) (cByte:Cal P w K mg base "is_byte" 1 ["number"] spByte)
    (mS:Mak P w K mg base "Signs" u.cS 4 ["self", "strange", "legend"] (spInitS K u)):FnOk P w K mg base CX0 6 f fd ["strange", "legend"] (spSigns K u):=by
  refine F.ok scSigns (fun vs H Q E h=>?_) (fun cdv A outer s H vs Q E hr h=>?_)
  · obtain ⟨a,x,lg,rfl,_⟩:=h
    rfl
  · obtain ⟨a,x,lg,rfl,hS,hn,k1,k2⟩:=h
    refine ⟨_,pss_cons (ps_if (PW.pt (pw_or (pt_not (pt_val (pe_cal cLeg hr (by decide) rfl (pa_cons (pv 1) pa_nil)))) (pw_or1 (pt_not (pt_val (pe_cal cByte hr (by decide) rfl (pa_cons (pv 0) pa_nil))))))) (pss_one (ps_ret pe_non)) pss_nil)
      (pss_one (ps_ret (pe_mak mS hr (by decide) rfl (pa_cons (pv 0) (pa_cons (pv 1) pa_nil))))),?_⟩
    unfold signsOk at k1 k2
    refine ⟨_,rfl,a,lg,rfl,hS,hn,fun H1 s1=>⟨_,rfl,?_⟩⟩
    cases el:JM.legM lg with
    | false=>
      rw [el] at k1
      exact iteT (iteT (k1 rfl H1 s1))
    | true=>
      rw [el] at k1 k2
      rw [Bool.true_and] at k1 k2
      refine iteF ⟨_,rfl,x,rfl,_,rfl,?_⟩
      cases eb:(decide (0≤x)&&decide (x≤255)) with
      | false=>exact iteT (k1 eb H1 s1)
      | true=>
        refine iteF ⟨_,rfl,_,rfl,?_⟩
        intro y dx ny ndx nex
        have l64:lg.length=64:=by
          unfold JM.legM at el
          rw [Bool.and_eq_true,decide_eq_true_eq] at el
          exact el.1
        refine ⟨y,dx,a,x,lg,rfl,upd_same,?_,l64,fun H3 d h3 h4 kp=>⟨rfl,k2 eb H3 y (s1.trans (Same.made ny ndx kp)) ⟨dx,d,h3,h4⟩⟩⟩
        have s2:Same H1 (upd (upd H1 dx (.own y)) y (.ins u.cS dx [])):=(same_upd ndx).trans (same_upd (by rw [upd_ne (Ne.symm nex)]; exact ny))
        exact s2.seq (s1.seq hS)
theorem fig_all:((List.range 4096).all fun h=>decide (figTab.lookup ((h:Nat):Int)=(Pu.figureOf h).map fun d=>V.int ((d:Nat):Int)))=true:=by decide +kernel
theorem fig_tab {h:Nat}(l:h<4096):figTab.lookup ((h:Nat):Int)=(Pu.figureOf h).map fun d=>V.int ((d:Nat):Int):=of_decide_eq_true (List.all_eq_true.mp fig_all h (List.mem_range.mpr l))
def optV:Option Int→V
  | some v=>.int v
  | none=>.non
def spFigV:Sp:=fun vs H Q _=>∃ (a:Addr) (ini:List Nat) (g:Nat),vs=[.ref a]∧H a=some (.lst ((ini++[g]).map vN))∧(∀ h∈ini++[g],h<4096)∧ini.length≤80∧∀ H',Same H H'→Q (optV (JM.fvM ini g)) H'
theorem scFigV:FnScope ["field", "value", "begun", "holes"] ["field"] (defScope sFigV):=⟨rfl,rfl,rfl,by decide +kernel,rfl,by decide +kernel,by decide +kernel⟩
theorem ok_figV {f:Addr}{fd:FuncData}(F:Fun K "figures_value" "figures_value" sFigV f fd) (T2:Tx2 K w mg u):FnOk P w K mg base CX0 1 f fd ["field"] spFigV:=by
  refine F.ok scFigV (fun vs H Q E h=>?_) (fun cdv A outer s H vs Q E hr h=>?_)
  · obtain ⟨a,ini,g,rfl,_⟩:=h
    rfl
  · obtain ⟨a,ini,g,rfl,ha,hh,hl,k⟩:=h
    refine ⟨_,pss_cons (ps_set (i:=1) scFigV.nd rfl (Or.inl rfl) pe_int)
      (pss_cons (ps_set (i:=2) scFigV.nd rfl (Or.inl rfl) pe_bl)
      (pss_cons (ps_for PassesOwn.never rfl (pi_list (pe_slice sl_list (pv 0) po_none (po_some (pe_un un_neg pe_int)))) (pg_name (i:=3) scFigV.nd rfl (Or.inl rfl))
        (pss_one (ps_if (pt_cmp (pc_kinI (pv 3) (pe_o T2.gG rfl)))
          (pss_cons (ps_set (i:=1) scFigV.nd rfl (Or.inl rfl) (pe_op op_add (pe_op op_mul (pv 1) pe_int) (pe_kgetI (pe_o T2.gG rfl) (pv 3) (fun _ _=>rfl)))) (pss_one (ps_set (i:=2) scFigV.nd rfl (Or.inl rfl) pe_bl)))
          (pss_one (ps_if (PW.pt (pw_or (pt_truth (pv 2) (fun _=>rfl)) (pw_or1 (pt_truth (pv 3) (fun _=>rfl))))) (pss_one (ps_ret pe_non)) pss_nil)))))
      (pss_cons (ps_if (pt_cmp (pc_knotI (pe_ix ix_list (pv 0) (pe_un un_neg pe_int) (fun _ _=>rfl)) (pe_o T2.gG rfl))) (pss_one (ps_ret pe_non)) pss_nil)
      (pss_one (ps_ret (pe_op op_add (pe_op op_mul (pv 1) pe_int) (pe_kgetI (pe_o T2.gG rfl) (pe_ix ix_list (pv 0) (pe_un un_neg pe_int) (fun _ _=>rfl)) (fun _ _=>rfl)))))))),?_⟩
    have cutE:cutV ((ini++[g]).map vN) none (some (-1))=ini.map vN:=by
      have e2:HT.sIx ((ini++[g]).map vN).length ((ini++[g]).map vN).length (some (-1))=ini.length:=by
        show (if (-1:Int)<0 then ((-1:Int)+(((ini++[g]).map vN).length:Int)).toNat else min (-1:Int).toNat ((ini++[g]).map vN).length)=_
        rw [if_pos (by decide),List.length_map,List.length_append,List.length_singleton]
        omega
      unfold cutV
      rw [HT.sIx_none,e2,List.drop_zero,Nat.sub_zero,List.map_append,List.take_append_of_le_length (by rw [List.length_map]; exact Nat.le_refl _),List.take_of_length_le (by rw [List.length_map]; exact Nat.le_refl _)]
    have lastE:atI ((ini++[g]).map vN) (-1)=some (vN g):=by
      unfold atI ixN
      rw [if_neg (by decide),if_pos (by rw [List.length_map,List.length_append,List.length_singleton]; omega),List.length_map,List.length_append,List.length_singleton,show ((-1:Int)+((ini.length+1:Nat):Int)).toNat=ini.length by omega]
      show ((ini++[g]).map vN)[ini.length]?=_
      rw [List.getElem?_map,List.getElem?_append_right (Nat.le_refl _),Nat.sub_self]
      rfl
    have hg:g<4096:=hh g (by simp)
    refine ⟨_,rfl,_,rfl,_,rfl,a,_,rfl,SqL.of ha,fun p hp=>?_⟩
    rw [cutE]
    have s1:=same_upd (o:=.lst (ini.map vN)) hp
    have hp1:upd H p (.lst (ini.map vN)) p=some (.lst (ini.map vN)):=upd_same
    generalize upd H p (.lst (ini.map vN))=H1 at s1 hp1
    have ha1:=s1 _ _ ha
    refine ⟨p,rfl,⟨_,SqL.of hp1⟩,for_list (K:=K) (a:=p) (xs:=ini.map vN) (fun i σ H'=>∃ (v:Int) (b:Bool) (z:Option V),σ=[some (.ref a),some (.int v),some (.bl b),z]∧H'=H1∧JM.fvL ini 0 false=JM.fvL (ini.drop i) v b) ?_ (fun i σ H' _ ⟨_,_,_,_,e,_⟩=>by rw [e]; exact SqL.of hp1) ?_ ?_⟩
    · exact ⟨0,false,none,rfl,rfl,rfl⟩
    · rintro i y σ H2 hi ⟨v,b,z,rfl,rfl,e⟩
      obtain ⟨h,hh2,rfl⟩:=get_vN hi
      have hil:=(List.getElem?_eq_some_iff.mp hh2).1
      have h4:h<4096:=hh h (by simp [List.mem_of_getElem? hh2])
      have dr:ini.drop i=h::ini.drop (i+1):=by
        obtain ⟨z1,z2⟩:=List.getElem?_eq_some_iff.mp hh2
        rw [←z2,←List.drop_eq_getElem_cons z1]
      rw [dr,JM.fvL] at e
      refine ⟨_,rfl,u.aG,_,_,rfl,rfl,T2.dG,_,rfl,?_⟩
      rw [fig_tab h4]
      cases q:Pu.figureOf h with
      | some d=>
        rw [q] at e
        refine iteT ?_
        refine ⟨_,rfl,_,_,rfl,rfl,.inr ⟨by decide,by decide⟩,_,rfl,u.aG,_,_,_,rfl,rfl,T2.dG,by rw [fig_tab h4,q]; rfl,_,_,rfl,rfl,?_⟩
        exact ⟨v * 10+(d:Int),true,_,rfl,rfl,e⟩
      | none=>
        rw [q] at e
        refine iteF ?_
        have test:TIs _ _ H2 (b || decide (h≠0)):=TIs.or (σ:=[some (.ref a),some (.int v),some (.bl b),some (vN h)]) (t:=fun σ H Q=>tVar 2 σ H fun x H'=>∃ k,TruV K x H' k∧Q k H') (u:=fun σ H Q=>tVar 3 σ H fun x H'=>∃ k,TruV K x H' k∧Q k H')
          (fun Q q=>⟨_,rfl,_,rfl,q⟩) (fun _ Q q=>⟨_,rfl,_,rfl,by
            have z0:((h:Int) != 0)=decide (h≠0):=by
              apply Bool.eq_iff_iff.mpr
              simp
            rw [z0]
            exact q⟩)
        refine test _ (ite2 (fun c=>?_) (fun c=>?_))
        · have e:JM.fvL ini 0 false=if (b || decide (h≠0))=true then none else JM.fvL (ini.drop (i+1)) v b:=e
          rw [if_pos c] at e
          have e2:JM.fvM ini g=none:=by
            unfold JM.fvM
            rw [e]
            rfl
          have:=k H2 s1
          rw [e2] at this
          exact this
        · have e:JM.fvL ini 0 false=if (b || decide (h≠0))=true then none else JM.fvL (ini.drop (i+1)) v b:=e
          rw [if_neg c] at e
          exact ⟨v,b,_,rfl,rfl,e⟩
    · rintro σ H2 ⟨v,b,z,rfl,rfl,e⟩
      rw [List.length_map,List.drop_length] at e
      have e:JM.fvL ini 0 false=some v:=e
      refine ⟨_,rfl,_,rfl,a,_,_,_,rfl,rfl,SqL.of ha1,lastE,u.aG,_,_,rfl,rfl,T2.dG,_,rfl,?_⟩
      rw [fig_tab hg]
      have k2:=k H2 s1
      unfold JM.fvM at k2
      rw [e] at k2
      cases q:Pu.figureOf g with
      | none=>
        rw [q] at k2
        exact iteT k2
      | some d=>
        rw [q] at k2
        refine iteF ⟨_,rfl,_,_,rfl,rfl,.inr ⟨by decide,by decide⟩,_,rfl,_,rfl,a,_,_,_,rfl,rfl,SqL.of ha1,lastE,u.aG,_,_,_,rfl,rfl,T2.dG,by rw [fig_tab hg,q]; rfl,_,_,rfl,rfl,k2⟩
theorem last_at (ini:List Nat) (g:Nat):atI ((ini++[g]).map vN) (-1)=some (vN g):=by
  unfold atI ixN
  rw [if_neg (by decide),if_pos (by rw [List.length_map,List.length_append,List.length_singleton]; omega),List.length_map,List.length_append,List.length_singleton,show ((-1:Int)+((ini.length+1:Nat):Int)).toNat=ini.length by omega]
  show ((ini++[g]).map vN)[ini.length]?=_
  rw [List.getElem?_map,List.getElem?_append_right (Nat.le_refl _),Nat.sub_self]
  rfl
theorem fld_split {x:Pu.Card}{c n:Nat}(hx:x.length=80) (h1:1≤n) (h2:c+n≤80):∃ ini g,Pu.fieldOf x c n=ini++[g]∧ini.length+1=n:=by
  have hl:(Pu.fieldOf x c n).length=n:=by
    unfold Pu.fieldOf
    rw [List.length_take,List.length_drop]
    omega
  have ne:Pu.fieldOf x c n≠[]:=fun z=>by rw [z] at hl; simp at hl; omega
  refine ⟨(Pu.fieldOf x c n).dropLast,(Pu.fieldOf x c n).getLast ne,(List.dropLast_concat_getLast ne).symm,?_⟩
  rw [List.length_dropLast]
  omega
theorem set_last {α:Type}(b c:α):∀ l:List α,(l++[b]).set l.length c=l++[c]
  | []=>rfl
  | a::l=>by
    show a::(l++[b]).set l.length c=a::(l++[c])
    rw [set_last b c l]
def spAmt:Sp:=fun vs H Q _=>∃ (a:Addr) (x:Pu.Card) (c n:Nat),vs=[.ref a,vN c,vN n]∧CdAt H a x∧CdOk x∧1≤n∧c+n≤80∧∀ H',Same H H'→Q (optV (Pu.amountOf (Pu.fieldOf x c n))) H'
theorem scAmt:FnScope ["card", "column", "length", "field", "value"] ["card", "column", "length"] (defScope sAmt):=⟨rfl,rfl,rfl,by decide +kernel,rfl,by decide +kernel,by decide +kernel⟩
theorem ok_amt {f:Addr}{fd:FuncData}(F:Fun K "amount_of" "amount_of" sAmt f fd) (T2:Tx2 K w mg u) (cFldOf:Cal P w K mg base "field_of" 1 ["card", "column", "length"] spFldOf) (cHasR:Cal P w K mg base "has_row" 1 ["holes", "row"] spHasR) (cRowH:Cal P w K mg base "row_holes" 1 ["row"] spRowH) (cFigV:Cal P w K mg base "figures_value" 1 ["field"] spFigV) :
    FnOk P w K mg base CX0 2 f fd ["card", "column", "length"] spAmt:=by
  refine F.ok scAmt (fun vs H Q E h=>?_) (fun cdv A outer s H vs Q E hr h=>?_)
  · obtain ⟨a,x,c,n,rfl,_⟩:=h
    rfl
  · obtain ⟨a,x,c,n,rfl,ha,cok,h1,h2,k⟩:=h
    refine ⟨_,pss_cons (ps_set (i:=3) scAmt.nd rfl (Or.inl rfl) (pe_cal cFldOf hr (by decide) rfl (pa_cons (pv 0) (pa_cons (pv 1) (pa_cons (pv 2) pa_nil)))))
      (pss_cons (ps_if (pt_not (pt_val (pe_cal cHasR hr (by decide) rfl (pa_cons (pe_ix ix_list (pv 3) (pe_un un_neg pe_int) (fun _ _=>rfl)) (pa_cons (pe_k T2.kMinus rfl) pa_nil))))) (pss_one (ps_ret (pe_cal cFigV hr (by decide) rfl (pa_cons (pv 3) pa_nil)))) pss_nil)
      (pss_cons (ps_augS (pv 3) (pe_un un_neg pe_int) get_list (pe_cal cRowH hr (by decide) rfl (pa_cons (pe_k T2.kMinus rfl) pa_nil)) ip_sub set_list)
      (pss_cons (ps_set (i:=4) scAmt.nd rfl (Or.inl rfl) (pe_cal cFigV hr (by decide) rfl (pa_cons (pv 3) pa_nil)))
      (pss_cons (ps_if (pt_not (pt_truth (pv 4) (fun _=>rfl))) (pss_one (ps_ret pe_non)) pss_nil)
      (pss_one (ps_ret (pe_un un_neg (pv 4)))))))),?_⟩
    obtain ⟨ini,g,ef,li⟩:=fld_split cok.1 h1 h2
    rw [ef,JM.amt_is] at k
    have hh:∀ h∈ini++[g],h<4096:=fun h hm=>cok.2 h (fld_mem (by rw [ef]; exact hm))
    refine ⟨_,rfl,_,rfl,_,rfl,a,x,c,n,rfl,ha,fun p hp=>?_⟩
    rw [ef]
    have s1:=same_upd (o:=.lst ((ini++[g]).map vN)) hp
    have hp1:upd H p (.lst ((ini++[g]).map vN)) p=some (.lst ((ini++[g]).map vN)):=upd_same
    generalize upd H p (.lst ((ini++[g]).map vN))=H1 at s1 hp1
    refine ⟨_,rfl,_,rfl,p,_,_,_,rfl,rfl,SqL.of hp1,last_at ini g,g,1,rfl,_,rfl,?_⟩
    unfold JM.amtL at k
    cases tb:g.testBit 1 with
    | false=>
      rw [tb] at k
      refine iteT ⟨_,rfl,p,ini,g,rfl,hp1,hh,by omega,fun H2 s2=>?_⟩
      exact k H2 (s1.trans s2)
    | true=>
      rw [tb,if_pos rfl] at k
      have g2:2≤g:=by
        rcases Nat.lt_or_ge g 2 with z | z
        · have:g=0∨g=1:=by omega
          rcases this with rfl | rfl <;> exact absurd tb (by decide)
        · exact z
      refine iteF ?_
      refine ⟨_,rfl,_,rfl,p,_,_,_,rfl,rfl,SqL.of hp1,last_at ini g,1,rfl,by omega,_,_,rfl,rfl,p,_,_,ini.length,rfl,rfl,hp1,?_,?_⟩
      · unfold ixN
        rw [if_neg (by decide),if_pos (by rw [List.length_map,List.length_append,List.length_singleton]; omega),List.length_map,List.length_append,List.length_singleton,show ((-1:Int)+((ini.length+1:Nat):Int)).toNat=ini.length by omega]
      have es:((ini++[g]).map vN).set ini.length (V.int ((g:Int)-((2 ^ 1:Nat):Int)))=(ini++[g-2]).map vN:=by
        have:=set_last (vN g) (V.int ((g:Int)-((2 ^ 1:Nat):Int))) (ini.map vN)
        rw [List.length_map] at this
        rw [List.map_append,List.map_append]
        refine this.trans ?_
        show _++[V.int ((g:Int)-2)]=_++[vN (g-2)]
        unfold vN
        rw [show (g:Int)-2=((g-2:Nat):Int) by omega]
      rw [es]
      have s2:Same H (upd H1 p (.lst ((ini++[g-2]).map vN))):=fun b o z=>by
        rw [upd_ne (ne_of_none z hp)]
        exact s1 _ _ z
      have hp2:upd H1 p (.lst ((ini++[g-2]).map vN)) p=some (.lst ((ini++[g-2]).map vN)):=upd_same
      generalize upd H1 p (.lst ((ini++[g-2]).map vN))=H2 at s2 hp2
      refine ⟨_,rfl,p,ini,g-2,rfl,hp2,fun h hm=>?_,by omega,fun H3 s3=>?_⟩
      · rcases List.mem_append.mp hm with z | z
        · exact hh h (by simp [z])
        · have:=hh g (by simp)
          rw [List.mem_singleton.mp z]
          omega
      · have k3:=k H3 (s2.trans s3)
        cases q:JM.fvM ini (g-2) with
        | none=>
          rw [q] at k3
          exact ⟨_,rfl,_,rfl,iteT k3⟩
        | some v=>
          rw [q] at k3
          refine ⟨_,rfl,_,rfl,?_⟩
          by_cases v0:v=0
          · subst v0
            exact iteT k3
          · have k3:Q (optV (if v=0 then none else some (-v))) H3:=k3
            rw [if_neg v0] at k3
            have e1:(v != 0)=true:=by simpa using v0
            rw [e1]
            exact iteF ⟨_,rfl,_,rfl,k3⟩
def spSumA (t:Adr):Sp:=fun vs H Q _=>∃ (a b:Addr) (x:Pu.Card) (p:JM.Pt),vs=[.ref a,.ref b]∧CdAt H a x∧CdOk x∧PtAt t H b p∧JM.PtOk p∧p.1=4∧JM.n0 p+JM.n1 p≤80∧∀ H',Same H H'→Q (optV (JM.amtM p x)) H'
theorem scSumA:FnScope ["card", "part"] ["card", "part"] (defScope sSumA):=⟨rfl,rfl,rfl,by decide +kernel,rfl,by decide +kernel,by decide +kernel⟩
theorem ok_sumA {f:Addr}{fd:FuncData}(F:Fun K "sum_amount" "sum_amount" sSumA f fd) (T:Txt K w mg t) (cAmt:Cal P w K mg base "amount_of" 2 ["card", "column", "length"] spAmt):FnOk P w K mg base CX0 3 f fd ["card", "part"] (spSumA t):=by
  refine F.ok scSumA (fun vs H Q E h=>?_) (fun cdv A outer s H vs Q E hr h=>?_)
  · obtain ⟨a,b,x,p,rfl,_⟩:=h
    rfl
  · obtain ⟨a,b,x,p,rfl,ha,cok,⟨dx,d,hb,hd⟩,ok,p4,h80,k⟩:=h
    have hu:=hu_of hr
    have nm:=nums_at ok hd
    have n1:1≤JM.n1 p:=by
      obtain ⟨i,vs⟩:=p
      dsimp only at p4
      subst p4
      obtain ⟨c,n,pp,ww,rfl,hv⟩:=ok.2
      show 1≤n
      omega
    refine ⟨_,pss_one (ps_ret (pe_cal cAmt hr (by decide) rfl (pa_cons (pv 0) (pa_cons (pe_dget hu (pe_fld (pv 1) rfl) pe_str (fun _ _=>rfl)) (pa_cons (pe_dget hu (pe_fld (pv 1) rfl) pe_str (fun _ _=>rfl)) pa_nil))))),?_⟩
    refine ⟨_,rfl,_,rfl,b,t.cP,dx,_,_,rfl,hb,T.clP,T.nPn,lk_nums _ _,d,_,rfl,nm.c (by omega),_,rfl,b,t.cP,dx,_,_,rfl,hb,T.clP,T.nPn,lk_nums _ _,d,_,rfl,nm.n (by omega),?_⟩
    refine ⟨a,x,_,_,rfl,ha,cok,n1,h80,fun H' s1=>?_⟩
    have:=k H' s1
    unfold JM.amtM at this
    rw [if_neg (by omega)] at this
    exact this
def spBlk:Sp:=fun vs H Q _=>vs=[]∧∀ H' p,Same H H'→H p=none→H' p=some (.lst (JM.blankI.map V.int))→Q (.ref p) H'
theorem scBlk:FnScope [] [] (defScope sBlk):=⟨rfl,rfl,rfl,by decide +kernel,rfl,by decide +kernel,by decide +kernel⟩
theorem ok_blk {f:Addr}{fd:FuncData}(F:Fun K "blank_line" "blank_line" sBlk f fd) (T2:Tx2 K w mg u):FnOk P w K mg base CX0 1 f fd [] spBlk:=by
  refine F.ok scBlk (fun vs H Q E h=>?_) (fun cdv A outer s H vs Q E hr h=>?_)
  · rw [h.1]
    rfl
  · obtain ⟨rfl,k⟩:=h
    refine ⟨_,pss_one (ps_ret (pe_op op_rep (pe_lst (pa_cons (pe_k T2.kBlank rfl) pa_nil)) (pe_k T2.kPl rfl))),?_⟩
    refine ⟨by decide,fun p0 hp0=>⟨p0,_,_,rfl,rfl,upd_same,by decide,by decide,by decide,fun p hp=>?_⟩⟩
    refine k _ p ((same_upd hp0).trans (same_upd hp)) ((same_upd hp0).free hp) ?_
    rw [upd_same]
    rfl
def spPut:Sp:=fun vs H Q _=>∃ (a b:Addr) (L S:List Int) (i:Nat),vs=[.ref a,vN i,.ref b]∧H a=some (.lst (L.map V.int))∧H b=some (.lst (S.map V.int))∧a≠b∧i+S.length≤L.length∧∀ H',OffD a H H'→H' a=some (.lst ((JM.onI L i S).map V.int))→Q .non H'
theorem scPut:FnScope ["line", "place", "shown", "offset", "byte"] ["line", "place", "shown"] (defScope sPut):=⟨rfl,rfl,rfl,by decide +kernel,rfl,by decide +kernel,by decide +kernel⟩
theorem on_next {L S:List Int}{i j:Nat}{x:Int}(h:S[j]?=some x) (hl:i+S.length≤L.length):(JM.onI L i (S.take j)).set (i+j) x=JM.onI L i (S.take (j+1)):=by
  have hj:=(List.getElem?_eq_some_iff.mp h).1
  have l1:(L.take i).length=i:=by rw [List.length_take]; omega
  have l2:(S.take j).length=j:=by rw [List.length_take]; omega
  have l3:(S.take (j+1)).length=j+1:=by rw [List.length_take]; omega
  unfold JM.onI
  rw [l2,l3,List.drop_eq_getElem_cons (show i+j<L.length by omega),take_next h,List.append_assoc]
  have e1:∀ (A B:List Int) (n:Nat) (y:Int),A.length=n→∀ m,(A++B).set (n+m) y=A++B.set m y:=by
    intro A B n y hA m
    subst hA
    induction A with
    | nil=>simp
    | cons a A ih=>
      rw [List.cons_append,List.length_cons,show A.length+1+m=(A.length+m)+1 by omega,List.set_cons_succ,ih]
      rfl
  have e2:(S.take j++(L[i+j]::L.drop (i+j+1))).set j x=S.take j++(L[i+j]::L.drop (i+j+1)).set 0 x:=e1 (S.take j) (L[i+j]::L.drop (i+j+1)) j x l2 0
  rw [e1 _ _ i x l1,e2]
  rfl
theorem get_I {L:List Int}{i:Nat}{y:V}(h:(L.map V.int)[i]?=some y):∃ c,L[i]?=some c∧y=V.int c:=by
  rw [List.getElem?_map] at h
  cases e:L[i]? with
  | none=>rw [e] at h; cases h
  | some c=>rw [e] at h; exact ⟨c,rfl,(Option.some.inj h).symm⟩
theorem on_len {L S:List Int}{i:Nat}(hl:i+S.length≤L.length):(JM.onI L i S).length=L.length:=by
  unfold JM.onI
  rw [List.length_append,List.length_append,List.length_take,List.length_drop]
  omega
theorem ok_put {f:Addr}{fd:FuncData}(F:Fun K "put_upon" "put_upon" sPut f fd) (T:Txt K w mg t):FnOk P w K mg base CX0 1 f fd ["line", "place", "shown"] spPut:=by
  refine F.ok scPut (fun vs H Q E h=>?_) (fun cdv A outer s H vs Q E hr h=>?_)
  · obtain ⟨a,b,L,S,i,rfl,_⟩:=h
    rfl
  · obtain ⟨a,b,L,S,i,rfl,ha,hb,ne,hl,k⟩:=h
    refine ⟨_,pss_one (ps_for PassesOwn.never rfl (pi_enum rfl T.zEnum (pa_cons (pv 2) pa_nil)) (pg_tup rfl (pgs_cons (pg_name (i:=3) scPut.nd rfl (Or.inl rfl)) (pgs_cons (pg_name (i:=4) scPut.nd rfl (Or.inl rfl)) pgs_nil))) (pss_one (ps_asg (pv 4) (pg_sub (pv 0) (pe_op op_add (pv 1) (pv 3)) set_list)))),?_⟩
    refine ⟨_,rfl,b,_,rfl,SqL.of hb,for_enum (K:=K) (a:=b) (xs:=S.map V.int) (fun j σ H'=>∃ (z3 z4:Option V),σ=[some (.ref a),some (vN i),some (.ref b),z3,z4]∧OffD a H H'∧H' a=some (.lst ((JM.onI L i (S.take j)).map V.int)))
      ⟨none,none,rfl,OffD.refl,?_⟩ (fun j σ H' _ ⟨_,_,_,o,_⟩=>SqL.of (o _ _ (Ne.symm ne) hb)) ?_ ?_⟩
    · rw [ha,List.take_zero]
      unfold JM.onI
      rw [List.nil_append,List.length_nil,Nat.add_zero,List.take_append_drop]
    · rintro j y σ H2 Tp hj ⟨z3,z4,rfl,o2,h2⟩ hTp
      obtain ⟨x,hx,rfl⟩:=get_I hj
      have hjl:=(List.getElem?_eq_some_iff.mp hx).1
      have s3:Same H2 (upd H2 Tp (.tup [.int (j:Nat),V.int x])):=same_upd hTp
      have ht3:upd H2 Tp (.tup [.int (j:Nat),V.int x]) Tp=some (.tup [.int (j:Nat),V.int x]):=upd_same
      have h3:=s3 _ _ h2
      have o3:OffD a H (upd H2 Tp (.tup [.int (j:Nat),V.int x])):=fun b o n z=>s3 _ _ (o2 b o n z)
      generalize upd H2 Tp (.tup [.int (j:Nat),V.int x])=H3 at ht3 h3 o3
      have lt:(S.take j).length≤S.length:=by rw [List.length_take]; omega
      refine ⟨Tp,_,rfl,SqT.of ht3,rfl,_,_,rfl,_,_,rfl,rfl,?_⟩
      refine ⟨_,rfl,_,rfl,_,rfl,_,rfl,_,_,rfl,rfl,a,_,_,i+j,rfl,rfl,h3,?_,?_⟩
      · unfold ixN
        rw [List.length_map,on_len (by omega),if_pos (by omega),if_pos (by omega)]
        congr 1
      · refine ⟨_,_,rfl,fun b o n z=>by rw [upd_ne n]; exact o3 b o n z,?_⟩
        rw [upd_same,←on_next hx hl,List.map_set]
    · rintro σ H2 ⟨z3,z4,rfl,o2,h2⟩
      rw [List.length_map,List.take_length] at h2
      exact k H2 o2 h2
theorem codes_val (h:Nat):∀ (lg:List Int) (o:Nat),valV ((lg.zipIdx o).map fun x=>((Sum.inl ((Pu.code x.2:Nat):Int):Key),V.int x.1)) (Sum.inl (h:Int))=((List.range' o lg.length).find? fun n=>Pu.code n==h).map fun n=>V.int (lg.getD (n-o) 0)
  | [],_=>rfl
  | a::lg,o=>by
    have ih:=codes_val h lg (o+1)
    rw [List.zipIdx_cons,List.map_cons,List.length_cons,List.range'_succ]
    by_cases e:Pu.code o=h
    · rw [valV_pos (by rw [e]),List.find?_cons_of_pos (by simpa using e)]
      show _=some (V.int ((a::lg).getD (o-o) 0))
      rw [Nat.sub_self]
      rfl
    · rw [valV_neg (fun z=>e (Int.ofNat_inj.mp (Sum.inl.inj z))),List.find?_cons_of_neg (by simpa using e),ih]
      cases q:(List.range' (o+1) lg.length).find? fun n=>Pu.code n==h with
      | none=>rfl
      | some n=>
        have hn:=List.mem_of_find?_eq_some q
        rw [List.mem_range'_1] at hn
        show some (V.int (lg.getD (n-(o+1)) 0))=some (V.int ((a::lg).getD (n-o) 0))
        rw [show n-o=(n-(o+1))+1 by omega]
        rfl
theorem codes_get {lg:List Int}(h64:lg.length=64) (h:Nat) (s:Int):((valV (codesOf lg) (Sum.inl (h:Int))).getD (V.int s))=V.int (JM.signM lg s h):=by
  unfold codesOf JM.signM
  rw [codes_val h lg 0,h64]
  have e:Pu.coded h=(List.range' 0 64).find? fun n=>Pu.code n==h:=by
    unfold Pu.coded
    rw [List.range_eq_range']
    rfl
  rw [e]
  cases (List.range' 0 64).find? fun n=>Pu.code n==h <;> rfl
def IntI (H:Hp) (v:V) (n:Int):Prop:=v=.int n
theorem inti_mono {D:Addr}(H H':Hp) (y:V) (z:Int) (acc:List V) (hD:H D=some (.lst acc)) (o:OffD D H H') (h:IntI H y z):IntI H' y z:=h
theorem intis_of {H:Hp}{p:Addr}{ns:List Int}(h:EachV H p IntI ns):H p=some (.lst (ns.map V.int)):=by
  obtain ⟨vs,e,pr⟩:=h
  have go:∀ {vs:List V} {ns:List Int},Paired (fun v n=>IntI H v n) vs ns→vs=ns.map V.int:=by
    intro vs ns q
    induction q with
    | nil=>rfl
    | cons r _ ih=>rw [List.map_cons,←ih,show _=V.int _ from r]
  rw [e,go pr]
def spShow (u:Adr2):Sp:=fun vs H Q _=>∃ (p a:Addr) (lg:List Int) (s:Int) (x:Pu.Card) (c n:Nat),vs=[.ref p,.ref a,vN c,vN n]∧SgAt u H p s lg∧lg.length=64∧CdAt H a x∧x.length=80∧∀ H' q,Same H H'→H q=none→H' q=some (.lst (((Pu.fieldOf x c n).map (JM.signM lg s)).map V.int))→Q (.ref q) H'
theorem scShow:FnScope ["self", "card", "column", "length", "holes"] ["self", "card", "column", "length"] (defScope sShow):=⟨rfl,rfl,rfl,by decide +kernel,rfl,by decide +kernel,by decide +kernel⟩
theorem blkShow:blkC ["self", "card", "column", "length", "holes"] (defScope sShow) (blkS [(".0",.local),("holes",.local),("self",.free)]) [("holes",4)]=true:=by decide +kernel
theorem ok_show {f:Addr}{fd:FuncData}(F:Fun K "show_field" "Signs.show_field" sShow f fd) (T2:Tx2 K w mg u) (cFldOf:Cal P w K mg base "field_of" 1 ["card", "column", "length"] spFldOf):FnOk P w K mg base CX0 2 f fd ["self", "card", "column", "length"] (spShow u):=by
  refine F.ok scShow (fun vs H Q E h=>?_) (fun cdv A outer s H vs Q E hr h=>?_)
  · obtain ⟨p,a,lg,s,x,c,n,rfl,_⟩:=h
    rfl
  · obtain ⟨p,a,lg,sg,x,c,n,rfl,⟨dx,d,hp,hd⟩,h64,ha,hx,k⟩:=h
    have hu:=hu_of hr
    refine ⟨_,pss_one (ps_ret (pe_lc (own:=[("holes",4)]) (te:=tDGet2 (tFld K (tVar 0) "by_holes") (tVar 4) (tFld K (tVar 0) "strange")) rfl scShow.nd (pi_list (pe_cal cFldOf hr (by decide) rfl (pa_cons (pv 1) (pa_cons (pv 2) (pa_cons (pv 3) pa_nil))))) (blkOk_by blkShow) (fun s H C cl fp=>pg_name (i:=4) scShow.nd rfl (Or.inl rfl)) (fun s H C cl fp=>pts_nil)
      (fun s H C cl fp=>pe_dget2 hu (pe_fld (pv 0) rfl) (pv 4) (pe_fld (pv 0) rfl) ⟨rfl,rfl,rfl,rfl⟩))),?_⟩
    refine ⟨_,rfl,_,rfl,_,rfl,a,x,c,n,rfl,ha,fun q hq=>?_⟩
    have s1:=same_upd (o:=.lst ((Pu.fieldOf x c n).map vN)) hq
    refine ⟨q,rfl,⟨_,SqL.of upd_same⟩,fun D hD=>?_⟩
    have hD0:H D=none:=s1.free hD
    refine lc_mapL (xs:=Pu.fieldOf x c n) (p:=fun _=>true) (f:=JM.signM lg sg) (S:=IntI) (by rw [List.length_map]) (by have:=@fld_len x c n; omega) hD (SqL.of upd_same) inti_mono ?_ (fun H' s e=>k H' D (s1.trans s) hD0 (by rw [flt_all] at e; exact intis_of e))
    intro i v h H' hv hx2 s Fin Nx kY kN
    obtain ⟨c2,hc,rfl⟩:=get_vN hv
    rw [hx2] at hc
    cases hc
    have hp2:=s _ _ (s1 _ _ hp)
    have hd2:=s _ _ (s1 _ _ hd)
    refine ⟨rfl,yes_do ⟨_,rfl,p,u.cS,dx,_,_,rfl,hp2,T2.clS,T2.nSh,lk_holes _ _,d,rfl,.inl ⟨_,.inl hd2⟩,_,rfl,_,rfl,p,u.cS,dx,_,_,rfl,hp2,T2.clS,T2.nSs,lk_strange _ _,_,DGet.k (k:=Sum.inl (h:Int)) hd2,?_⟩⟩
    rw [codes_get h64]
    exact kY rfl H' _ (Same.refl _) rfl
theorem digits_dec:∀ (n k:Nat),k<n→(Nat.toDigits 10 k).map Char.toNat=(Pu.dec k).map UInt8.toNat
  | 0,_,h=>by omega
  | n+1,k,h=>by
    by_cases lt:k<10
    · rw [Nat.toDigits_of_lt_base lt,JM.dec_lt lt]
      have:∀ d,d<10→[Nat.digitChar d].map Char.toNat=[UInt8.ofNat (48+d)].map UInt8.toNat:=by decide
      exact this k lt
    · have ih:=digits_dec n (k / 10) (by omega)
      have hm:k % 10<10:=Nat.mod_lt _ (by decide)
      have e:Nat.toDigits 10 (k / 10)++Nat.toDigits 10 (k % 10)=Nat.toDigits 10 (10 * (k / 10)+k % 10):=Nat.toDigits_append_toDigits (by decide) (by omega) hm
      rw [show 10 * (k / 10)+k % 10=k by omega] at e
      rw [←e,JM.dec_step (by omega),List.map_append,List.map_append,ih,Nat.toDigits_of_lt_base hm]
      congr 1
      have:∀ d,d<10→[Nat.digitChar d].map Char.toNat=[UInt8.ofNat (48+d)].map UInt8.toNat:=by decide
      exact this _ hm
theorem dec_len:∀ (n k:Nat),k<10 ^ (n+1)→(Pu.dec k).length≤n+1
  | 0,k,h=>by
    rw [JM.dec_lt (by omega)]
    exact Nat.le_refl _
  | n+1,k,h=>by
    by_cases lt:k<10
    · rw [JM.dec_lt lt]
      simp
    · rw [JM.dec_step (by omega),List.length_append]
      have:=dec_len n (k / 10) (by rw [Nat.pow_succ] at h; omega)
      simp
      omega
theorem tl_dec (k:Nat):TL.tl (Str.ofString (toString ((k:Nat):Int)))=(Pu.dec k).map UInt8.toNat:=by
  rw [TL.tl_ofString,←digits_dec (k+1) k (by omega)]
  congr 1
  show (Nat.repr k).toList=_
  unfold Nat.repr
  simp
theorem str_len (x:Str):x.length=(TL.tl x).length:=by
  show x.cps.size=x.cps.toList.length
  simp
theorem mul_star (n:Nat) (h:1≤n):TL.tl (Txt.mul "*" (n:Int))=List.replicate n 42:=by
  unfold Txt.mul
  rw [if_neg (by omega)]
  by_cases e:n=1
  · subst e
    rw [if_pos (by decide)]
    decide +kernel
  · have e2:(((n:Int)==1) || (("*" : Str).length==0))=false:=by
      rw [show (("*" : Str).length==0)=false by decide +kernel,Bool.or_false]
      exact beq_eq_false_iff_ne.mpr (by omega)
    rw [e2,if_neg Bool.false_ne_true]
    have c:("*" : Str).cps=#[42]:=by decide +kernel
    rw [c,Int.toNat_natCast]
    show ((List.replicate n #[42]).foldl (·++·) #[]).toList=_
    have go:∀ (n:Nat) (acc:Array Nat),((List.replicate n #[42]).foldl (fun (x1 x2:Array Nat)=>x1++x2) acc).toList=acc.toList++List.replicate n 42:=by
      intro n
      induction n with
      | zero=>intro acc; simp
      | succ n ih=>
        intro acc
        rw [List.replicate_succ,List.foldl_cons,ih,List.replicate_succ]
        simp
    rw [go]
    rfl
theorem rj_tl (x:Str) (n:Nat):TL.tl (Txt.rjust x (n:Int))=List.replicate (n-(TL.tl x).length) 32++TL.tl x:=by
  unfold Txt.rjust
  rw [str_len]
  by_cases h:n≤(TL.tl x).length
  · rw [if_pos (by omega),show n-(TL.tl x).length=0 by omega]
    rfl
  · rw [if_neg (by omega),Int.toNat_natCast]
    show (Array.replicate (n-(TL.tl x).length) 32++x.cps++Array.replicate 0 32).toList=_
    simp
theorem pad_100:∀ m:Nat,m<101→PadOk (m:Int)=true:=by decide +kernel
theorem mul_100:∀ m:Nat,m<101→MulOk "*" (m:Int):=by
  unfold MulOk
  decide +kernel
def spShN:Sp:=fun vs H Q _=>∃ (v:Int) (n:Nat),vs=[.int v,vN n]∧v.natAbs<10 ^ 18∧1≤n∧n≤100∧∀ H' p,Same H H'→H p=none→H' p=some (.lst ((JM.numI v n).map V.int))→Q (.ref p) H'
theorem scShN:FnScope ["number", "width", "sign", "shown", "letter"] ["number", "width"] (defScope sShN):=⟨rfl,rfl,rfl,by decide +kernel,rfl,by decide +kernel,by decide +kernel⟩
theorem blkShN:blkC ["number", "width", "sign", "shown", "letter"] (defScope sShN) (blkS [(".0",.local),("letter",.local),("ord",.globalImplicit)]) [("letter",4)]=true:=by decide +kernel
theorem num_tl (v:Int) (n:Nat) (sb:UInt8) (hs:sb=if v<0 then 45 else 32) (z:Str) (e:TL.tl z=if n<(Pu.dec v.natAbs++[sb]).length then List.replicate n 42 else (Pu.dec v.natAbs++[sb]).map UInt8.toNat) :
    (TL.tl (Txt.rjust z (n:Int))).map (fun (c:Nat)=>((c:Nat):Int))=JM.numI v n:=by
  rw [rj_tl,e]
  unfold JM.numI JM.bI Pu.inPlaces
  rw [←hs]
  dsimp only
  generalize Pu.dec v.natAbs++[sb]=T
  by_cases c:n<T.length
  · rw [if_pos c,if_pos c,List.length_replicate,Nat.sub_self,List.replicate_zero,List.nil_append,List.map_replicate,List.map_replicate]
    rfl
  · rw [if_neg c,if_neg c,List.length_map,List.map_append,List.map_append,List.map_replicate,List.map_replicate,List.map_map]
    rfl
theorem ok_shN {f:Addr}{fd:FuncData}(F:Fun K "show_number" "show_number" sShN f fd) (T:Txt K w mg t) (T2:Tx2 K w mg u):FnOk P w K mg base CX0 1 f fd ["number", "width"] spShN:=by
  refine F.ok scShN (fun vs H Q E h=>?_) (fun cdv A outer s H vs Q E hr h=>?_)
  · obtain ⟨v,n,rfl,_⟩:=h
    rfl
  · obtain ⟨v,n,rfl,hv,n1,n2,k⟩:=h
    have big:(100000:Nat)<sizeLine:=by decide
    have dl:=dec_len 17 v.natAbs hv
    refine ⟨_,pss_cons (ps_set (i:=2) scShN.nd rfl (Or.inl rfl) pe_str)
      (pss_cons (ps_if (pt_cmpR op_lt (pv 0) pe_int (nomark _)) (pss_one (ps_set (i:=2) scShN.nd rfl (Or.inl rfl) pe_str)) pss_nil)
      (pss_cons (ps_set (i:=3) scShN.nd rfl (Or.inl rfl) (pe_op op_add_str (pe_callTy call_str_int rfl T2.zStr (show bootBuiltins "str" = some (.type "str") by decide +kernel) (pa_cons (pe_callB call_abs rfl T2.zAbs (show bootBuiltins "abs" = some (.builtin "abs") by decide +kernel) (pa_cons (pv 0) pa_nil)) pa_nil)) (pv 2)))
      (pss_cons (ps_if (pt_cmpR op_gt (pe_callB call_len_str rfl T.zLen PySem.boot_len (pa_cons (pv 3) pa_nil)) (pv 1) (nomark _)) (pss_one (ps_set (i:=3) scShN.nd rfl (Or.inl rfl) (pe_op op_mulS pe_str (pv 1)))) pss_nil)
      (pss_one (ps_ret (pe_lc (own:=[("letter",4)]) rfl scShN.nd (pi_str (pe_bm PySem.F.plainAttrs_str PySem.F.slot_str_rjust PySem.F.type_str_rjust mt_rjust (pv 3) (pa_cons (pv 1) pa_nil))) (blkOk_by blkShN) (fun s H C cl fp=>pg_name (i:=4) scShN.nd rfl (Or.inl rfl)) (fun s H C cl fp=>pts_nil)
        (fun s H C cl fp=>pe_callB call_ord rfl T.zOrd (show bootBuiltins "ord" = some (.builtin "ord") by decide +kernel) (pa_cons (pv 4) pa_nil)))))))),?_⟩
    obtain ⟨sb,hsb⟩:∃ sb:UInt8,sb=if v<0 then 45 else 32:=⟨_,rfl⟩
    have fin:∀ z:Str,(TL.tl z=if n<(Pu.dec v.natAbs++[sb]).length then List.replicate n 42 else (Pu.dec v.natAbs++[sb]).map UInt8.toNat)→∀ D,H D=none→∀ H',Same H H'→H' D=some (.lst ((TL.tl (Txt.rjust z (n:Int))).map fun (c:Nat)=>V.int (c:Int)))→Q (.ref D) H':=fun z e D hD H' s1 hq=>by
      refine k H' D s1 hD ?_
      rw [hq,←num_tl v n sb hsb z e,List.map_map]
      rfl
    refine sq ?_
    dsimp only [tAsg,tC,gName]
    refine sq ?_
    refine if_join (fun σ' H'=>∃ sg:Str,σ'=[some (.int v),some (vN n),some (.str sg),none,none]∧H=H'∧TL.tl sg=[sb.toNat]) ?_ (fun kk=>?_)
    · rintro σ' H' ⟨sg,rfl,rfl,esg⟩
      have ab:(if v<0 then -v else v)=((v.natAbs:Nat):Int):=by split <;> omega
      refine sq ?_
      refine ⟨_,rfl,v,rfl,_,rfl,?_,_,rfl,_,_,rfl,rfl,?_,?_⟩
      · rw [ab]
        show v.natAbs.log2<1920
        by_cases z0:v.natAbs=0
        · rw [z0]; decide
        · exact (Nat.log2_lt z0).mpr (Nat.lt_of_lt_of_le hv (by decide +kernel))
      · rw [ab,str_len,str_len,tl_dec,esg,List.length_map]
        show (Pu.dec v.natAbs).length+1≤sizeLine
        omega
      · rw [ab]
        have esh:TL.tl (Str.ofString (toString ((v.natAbs:Nat):Int))++sg)=(Pu.dec v.natAbs++[sb]).map UInt8.toNat:=by
          rw [TL.tl_append,tl_dec,esg,List.map_append]
          rfl
        generalize Str.ofString (toString ((v.natAbs:Nat):Int))++sg=sh at esh
        have lsh:sh.length=(Pu.dec v.natAbs++[sb]).length:=by rw [str_len,esh,List.length_map]
        have lT:(Pu.dec v.natAbs++[sb]).length≤19:=by rw [List.length_append,List.length_singleton]; omega
        dsimp only [gName]
        refine sq ?_
        refine if_join (fun σ' H'=>∃ z:Str,σ'=[some (.int v),some (vN n),some (.str sg),some (.str z),none]∧H=H'∧TL.tl z=if n<(Pu.dec v.natAbs++[sb]).length then List.replicate n 42 else (Pu.dec v.natAbs++[sb]).map UInt8.toNat) ?_ (fun kk=>?_)
        · rintro σ' H' ⟨z,rfl,rfl,ez⟩
          have pad:PadOk ((n:Nat):Int)=true:=pad_100 n (by omega)
          refine ⟨_,rfl,rfl,_,rfl,z,(n:Int),rfl,rfl,pad,_,rfl,fun D hD=>?_⟩
          refine lc_mapS (p:=fun _=>true) (f:=fun c=>c) (S:=NatV) ?_ hD nat_mono ?_ ?_
          · rw [←Array.length_toList]
            show (TL.tl (Txt.rjust z (n:Int))).length≤100000
            rw [rj_tl,ez,List.length_append,List.length_replicate]
            split
            · rw [List.length_replicate]; omega
            · rw [List.length_map]; omega
          · intro j c H3 hc s3 Fin Nx kY kN
            exact ⟨rfl,yes_do ⟨_,rfl,_,rfl,rfl,kY rfl H3 _ (Same.refl _) rfl⟩⟩
          · intro H3 s3 e3
            rw [flt_all,List.map_id'] at e3
            exact fin z ez D hD H3 s3 (nats_of e3)
        · refine ⟨_,rfl,sh,rfl,by omega,_,rfl,_,_,rfl,rfl,_,rfl,ite2 (fun g=>?_) (fun g=>?_)⟩
          · have lt:n<(Pu.dec v.natAbs++[sb]).length:=by
              have:=of_decide_eq_true g
              omega
            refine ⟨_,rfl,_,_,rfl,rfl,?_,kk _ _ ⟨_,rfl,rfl,?_⟩⟩
            · exact mul_100 n (by omega)
            · rw [if_pos lt]
              exact mul_star n n1
          · have ge:¬n<(Pu.dec v.natAbs++[sb]).length:=fun z=>g (decide_eq_true (by omega))
            exact kk _ _ ⟨sh,rfl,rfl,by rw [if_neg ge]; exact esh⟩
    · refine ⟨_,rfl,_,_,rfl,rfl,_,rfl,ite2 (fun g=>?_) (fun g=>?_)⟩
      · have g:=of_decide_eq_true g
        refine kk _ _ ⟨_,rfl,rfl,?_⟩
        rw [hsb,if_pos g]
        decide +kernel
      · have g:¬v<0:=fun z=>g (decide_eq_true z)
        refine kk _ _ ⟨_,rfl,rfl,?_⟩
        rw [hsb,if_neg g]
        decide +kernel
def KsAt (t:Adr) (H:Hp) (b:Addr) (ks:List JM.Pt):Prop:=Each H b (PtAt t) ks∧(∀ k∈ks,JM.PtOk k∧JM.isK k=true)∧ks.length≤64
theorem KsAt.same {t:Adr}{H H':Hp}{b:Addr}{ks:List JM.Pt}(s:Same H H') (h:KsAt t H b ks):KsAt t H' b ks:=⟨h.1.same s (fun a x h=>h.same s),h.2⟩
def spLvB (t:Adr):Sp:=fun vs H Q _=>∃ (a c b:Addr) (x y:Pu.Card) (ks:List JM.Pt),vs=[.ref a,.ref c,.ref b]∧CdAt H a x∧CdAt H c y∧KsAt t H b ks∧∀ H',Same H H'→Q (vN (JM.lbM ks x y)) H'
theorem scLvB:FnScope ["before", "card", "keys", "level", "key"] ["before", "card", "keys"] (defScope sLvB):=⟨rfl,rfl,rfl,by decide +kernel,rfl,by decide +kernel,by decide +kernel⟩
theorem vN_int (l:List Nat):l.map vN=(l.map Int.ofNat).map V.int:=rk_vN l
theorem ofNat_eq (l m:List Nat):decide (l.map Int.ofNat=m.map Int.ofNat)=(l==m):=by
  apply Bool.eq_iff_iff.mpr
  rw [decide_eq_true_eq,beq_iff_eq]
  constructor
  · intro h
    have:=congrArg (List.map Int.toNat) h
    rw [List.map_map,List.map_map,show (Int.toNat ∘ Int.ofNat)=id from funext fun n=>rfl,List.map_id,List.map_id] at this
    exact this
  · intro h
    rw [h]
theorem ok_lvB {f:Addr}{fd:FuncData}(F:Fun K "level_between" "level_between" sLvB f fd) (T:Txt K w mg t) (cKeyF:Cal P w K mg base "key_field" 2 ["card", "key"] (spKeyF t)):FnOk P w K mg base CX0 3 f fd ["before", "card", "keys"] (spLvB t):=by
  refine F.ok scLvB (fun vs H Q E h=>?_) (fun cdv A outer s H vs Q E hr h=>?_)
  · obtain ⟨a,c,b,x,y,ks,rfl,_⟩:=h
    rfl
  · obtain ⟨a,c,b,x,y,ks,rfl,ha,hc,⟨⟨bs,b1,b2,b3⟩,okK,lK⟩,k⟩:=h
    have hu64:(A.deeper (envOfC "level_between" (defScope sLvB) s.heap.objs.size f cdv)).units+64<cLine:=hr.units
    refine ⟨_,pss_cons (ps_set (i:=3) scLvB.nd rfl (Or.inl rfl) (pe_callB call_len_seq rfl T.zLen PySem.boot_len (pa_cons (pv 2) pa_nil)))
      (pss_cons (ps_for PassesOwn.never rfl (pi_list (pv 2)) (pg_name (i:=4) scLvB.nd rfl (Or.inl rfl))
        (pss_cons (ps_if (pt_cmpR (op_neL hu64) (pe_cal cKeyF hr (by decide) rfl (pa_cons (pv 0) (pa_cons (pv 4) pa_nil))) (pe_cal cKeyF hr (by decide) rfl (pa_cons (pv 1) (pa_cons (pv 4) pa_nil))) (nomark _)) (pss_one (ps_ret (pv 3))) pss_nil)
        (pss_one (ps_aug (i:=3) scLvB.nd rfl (Or.inl rfl) pe_int ip_sub))))
      (pss_one (ps_ret pe_int))),?_⟩
    refine ⟨_,rfl,b,_,rfl,.inl (SqL.of b1),?_⟩
    refine ⟨_,rfl,b,rfl,⟨_,SqL.of b1⟩,for_list (K:=K) (a:=b) (xs:=bs.map V.ref) (fun i σ H'=>∃ z,σ=[some (.ref a),some (.ref c),some (.ref b),some (vN (ks.length-i)),z]∧Same H H'∧JM.lbM ks x y=JM.lbM (ks.drop i) x y) ?_ (fun i σ H' _ ⟨_,_,s,_⟩=>SqL.of (s _ _ b1)) ?_ ?_⟩
    · refine ⟨none,?_,Same.refl _,rfl⟩
      show [_,_,_,some (V.int ((bs.map V.ref).length:Int)),none]=_
      rw [List.length_map,b2]
      rfl
    · rintro i y2 σ H1 hi ⟨z,rfl,s1,e⟩
      obtain ⟨kb,hkb,rfl⟩:=get_ref hi
      have hil:i<ks.length:=by rw [←b2]; exact (List.getElem?_eq_some_iff.mp hkb).1
      have hk:ks[i]?=some ks[i]:=List.getElem?_eq_getElem hil
      obtain ⟨okk,isk⟩:=okK ks[i] (List.getElem_mem hil)
      have pk:=(b3 i kb _ hkb hk).same s1
      have dr:ks.drop i=ks[i]::ks.drop (i+1):=List.drop_eq_getElem_cons hil
      rw [dr] at e
      have e:JM.lbM ks x y=if JM.sameF x y ks[i]=true then JM.lbM (ks.drop (i+1)) x y else ((ks.drop (i+1)).map (JM.sameF x y)).length+1:=e
      rw [List.length_map,List.length_drop] at e
      refine ⟨_,rfl,_,rfl,x,ks[i],⟨a,kb,rfl,ha.same s1,pk,okk,isk⟩,fun p hp=>?_⟩
      have s2:=same_upd (o:=.lst ((Pu.fieldOf x (JM.n0 ks[i]) (JM.n1 ks[i])).map vN)) hp
      refine ⟨_,rfl,_,rfl,y,ks[i],⟨c,kb,rfl,hc.same (s1.trans s2),pk.same s2,okk,isk⟩,fun q hq=>?_⟩
      have s3:=same_upd (o:=.lst ((Pu.fieldOf y (JM.n0 ks[i]) (JM.n1 ks[i])).map vN)) hq
      have hp3:=s3 _ _ (upd_same (H:=H1) (a:=p) (o:=.lst ((Pu.fieldOf x (JM.n0 ks[i]) (JM.n1 ks[i])).map vN)))
      refine ⟨p,q,(Pu.fieldOf x (JM.n0 ks[i]) (JM.n1 ks[i])).map Int.ofNat,(Pu.fieldOf y (JM.n0 ks[i]) (JM.n1 ks[i])).map Int.ofNat,rfl,rfl,SqL.of (by rw [←vN_int]; exact hp3),SqL.of (by rw [←vN_int]; exact upd_same),_,rfl,?_⟩
      rw [ofNat_eq]
      show if (!JM.sameF x y ks[i])=true then _ else _
      have sm:=(s1.trans s2).trans s3
      cases q2:JM.sameF x y ks[i] with
      | false=>
        rw [q2,if_neg Bool.false_ne_true] at e
        refine iteT ⟨_,rfl,?_⟩
        have:=k _ sm
        rw [e,show ks.length-(i+1)+1=ks.length-i by omega] at this
        exact this
      | true=>
        rw [q2,if_pos rfl] at e
        refine iteF ⟨_,rfl,_,_,rfl,rfl,?_⟩
        refine ⟨some (.ref kb),?_,sm,e⟩
        show [some (V.ref a),some (V.ref c),some (V.ref b),some (V.int (((ks.length-i:Nat):Int)-1)),some (V.ref kb)]=_
        rw [show ((ks.length-i:Nat):Int)-1=((ks.length-(i+1):Nat):Int) by omega]
        rfl
    · rintro σ H1 ⟨z,rfl,s1,e⟩
      rw [List.length_map,b2,List.drop_length] at e
      have:=k H1 s1
      rw [e] at this
      exact this
def spEnd (t:Adr):Sp:=fun vs H Q _=>∃ (a b:Addr) (x:Pu.Deck) (ks:List JM.Pt),vs=[.ref a,.ref b]∧EachV H a (CdV a) x∧x.length≤1000∧KsAt t H b ks∧∀ H' p,Same H H'→H p=none→H' p=some (.lst ((JM.lvsM ks x).map vN))→Q (.ref p) H'
theorem scEnd:FnScope ["cards", "keys", "levels", "at", "card"] ["cards", "keys"] (defScope sEnd):=⟨rfl,rfl,rfl,by decide +kernel,rfl,by decide +kernel,by decide +kernel⟩
def lvTake (ks:List JM.Pt) (x:Pu.Deck) (i:Nat):List Nat:=(List.range i).map (JM.endsM ks x)
theorem lv_next (ks:List JM.Pt) (x:Pu.Deck) (i:Nat):lvTake ks x (i+1)=lvTake ks x i++[JM.endsM ks x i]:=by
  unfold lvTake
  rw [List.range_succ,List.map_append]
  rfl
theorem ok_end {f:Addr}{fd:FuncData}(F:Fun K "ended_levels" "ended_levels" sEnd f fd) (T:Txt K w mg t) (cLvB:Cal P w K mg base "level_between" 3 ["before", "card", "keys"] (spLvB t)):FnOk P w K mg base CX0 4 f fd ["cards", "keys"] (spEnd t):=by
  refine F.ok scEnd (fun vs H Q E h=>?_) (fun cdv A outer s H vs Q E hr h=>?_)
  · obtain ⟨a,b,x,ks,rfl,_⟩:=h
    rfl
  · obtain ⟨a,b,x,ks,rfl,⟨vs,hvs,pr⟩,lx,hK,k⟩:=h
    have big:(1001:Nat)<sizeLine:=by decide
    have lv:=paired_len pr
    refine ⟨_,pss_cons (ps_set (i:=2) scEnd.nd rfl (Or.inl rfl) (pe_lst pa_nil))
      (pss_cons (ps_for PassesOwn.never rfl (pi_enum rfl T.zEnum (pa_cons (pv 0) pa_nil)) (pg_tup rfl (pgs_cons (pg_name (i:=3) scEnd.nd rfl (Or.inl rfl)) (pgs_cons (pg_name (i:=4) scEnd.nd rfl (Or.inl rfl)) pgs_nil)))
        (pss_one (ps_if (pt_cmpR op_eq (pv 3) pe_int (nomark _)) (pss_one (ps_expr (pe_bm PySem.F.plainAttrs_list PySem.F.slot_list_append PySem.F.type_list_append mt_append (pv 2) (pa_cons pe_int pa_nil))))
          (pss_one (ps_expr (pe_bm PySem.F.plainAttrs_list PySem.F.slot_list_append PySem.F.type_list_append mt_append (pv 2) (pa_cons (pe_cal cLvB hr (by decide) rfl (pa_cons (pe_ix ix_list (pv 0) (pe_op op_sub (pv 3) pe_int) (fun _ _=>rfl)) (pa_cons (pv 4) (pa_cons (pv 1) pa_nil)))) pa_nil)))))))
      (pss_one (ps_ret (pv 2)))),?_⟩
    refine ⟨Nat.zero_le _,fun p hp=>?_⟩
    have s0:=same_upd (o:=.lst []) hp
    refine ⟨_,rfl,a,_,rfl,SqL.of (s0 _ _ hvs),for_enum (K:=K) (a:=a) (xs:=vs) (fun i σ H'=>∃ (z3 z4:Option V),σ=[some (.ref a),some (.ref b),some (.ref p),z3,z4]∧Same H H'∧H' p=some (.lst ((lvTake ks x i).map vN)))
      ⟨none,none,rfl,s0,upd_same⟩ (fun i σ H' _ ⟨_,_,_,s,_⟩=>SqL.of (s _ _ hvs)) ?_ ?_⟩
    · rintro i y σ H2 Tp hi ⟨z3,z4,rfl,s2,hd2⟩ hTp
      have hil:i<x.length:=by rw [←lv]; exact (List.getElem?_eq_some_iff.mp hi).1
      obtain ⟨c,rfl,nc,hc⟩:=paired_at pr hi (List.getElem?_eq_getElem hil)
      have s3:Same H2 (upd H2 Tp (.tup [.int (i:Nat),V.ref c])):=same_upd hTp
      have ht3:upd H2 Tp (.tup [.int (i:Nat),V.ref c]) Tp=some (.tup [.int (i:Nat),V.ref c]):=upd_same
      have hd3:=s3 _ _ hd2
      have s23:=s2.trans s3
      generalize upd H2 Tp (.tup [.int (i:Nat),V.ref c])=H3 at ht3 hd3 s23
      have ll:(lvTake ks x i).length=i:=by unfold lvTake; rw [List.length_map,List.length_range]
      refine ⟨Tp,_,rfl,SqT.of ht3,rfl,_,_,rfl,_,_,rfl,rfl,?_⟩
      have fin:∀ (H4:Hp) (n:Nat),Same H H4→n=JM.endsM ks x i→∃ (z3 z4:Option V),([some (V.ref a),some (.ref b),some (.ref p),some (.int (i:Nat)),some (.ref c)]:L2.St)=[some (.ref a),some (.ref b),some (.ref p),z3,z4]∧Same H (upd H4 p (.lst ((lvTake ks x i).map vN++[vN n])))∧upd H4 p (.lst ((lvTake ks x i).map vN++[vN n])) p=some (.lst ((lvTake ks x (i+1)).map vN)):=fun H4 n s4 en=>
        ⟨_,_,rfl,fun b o z=>by rw [upd_ne (ne_of_none z hp)]; exact s4 _ _ z,by rw [upd_same,lv_next,en,List.map_append]; rfl⟩
      refine ⟨_,rfl,rfl,_,rfl,ite2 (fun g=>?_) (fun g=>?_)⟩
      · have i0:i=0:=by
          have:=V.int.inj (of_decide_eq_true g)
          omega
        refine ⟨_,rfl,.inl ⟨rfl,_,SqL.of hd3⟩,p,_,_,rfl,rfl,hd3,by rw [List.length_map]; omega,?_⟩
        exact fin H3 0 s23 (by subst i0; rfl)
      · have i0:i≠0:=fun z=>g (decide_eq_true (by rw [z]; rfl))
        have hil2:i-1<x.length:=by omega
        have hv2:vs[i-1]?=some (vs[i-1]'(by omega)):=List.getElem?_eq_getElem (by omega)
        obtain ⟨c2,e2,nc2,hc2⟩:=paired_at pr hv2 (List.getElem?_eq_getElem hil2)
        have ixE:atI vs ((i:Int)-1)=some (V.ref c2):=by
          rw [show (i:Int)-1=((i-1:Nat):Int) by omega]
          exact atI_nat (by rw [hv2,e2])
        refine ⟨_,rfl,.inl ⟨rfl,_,SqL.of hd3⟩,_,rfl,_,rfl,_,_,rfl,rfl,a,_,_,_,rfl,rfl,SqL.of (s23 _ _ hvs),ixE,_,rfl,_,rfl,c2,c,b,_,_,ks,rfl,hc2.same s23,hc.same s23,hK.same s23,fun H4 s4=>?_⟩
        refine ⟨p,_,_,rfl,rfl,s4 _ _ hd3,by rw [List.length_map]; omega,?_⟩
        refine fin H4 _ (s23.trans s4) ?_
        unfold JM.endsM
        rw [if_neg i0,List.getD_eq_getElem?_getD,List.getD_eq_getElem?_getD,List.getElem?_eq_getElem hil,List.getElem?_eq_getElem hil2]
        rfl
    · rintro σ H2 ⟨z3,z4,rfl,s2,hd2⟩
      rw [lv] at hd2
      exact ⟨_,rfl,k H2 p s2 hp hd2⟩
theorem lvs_get (ks:List JM.Pt) (x:Pu.Deck) {i:Nat}(h:i<x.length):atI ((JM.lvsM ks x).map vN) (i:Int)=some (vN (JM.endsM ks x i)):=atI_nat (by
  unfold JM.lvsM
  rw [List.getElem?_map,List.getElem?_map,List.getElem?_range h]
  rfl)
def spGrp:Sp:=fun vs H Q _=>∃ (a:Addr) (ks:List JM.Pt) (x:Pu.Deck) (level e:Nat),vs=[.ref a,vN level,vN e]∧H a=some (.lst ((JM.lvsM ks x).map vN))∧level≤ks.length∧1≤e∧e≤x.length∧Q (vN (JM.beginM (JM.endsM ks x) ks.length level (e-1))) H
theorem scGrp:FnScope ["levels", "level", "end", "start"] ["levels", "level", "end"] (defScope sGrp):=⟨rfl,rfl,rfl,by decide +kernel,rfl,by decide +kernel,by decide +kernel⟩
theorem ok_grp {f:Addr}{fd:FuncData}(F:Fun K "group_start" "group_start" sGrp f fd):FnOk P w K mg base CX0 1 f fd ["levels", "level", "end"] spGrp:=by
  refine F.ok scGrp (fun vs H Q E h=>?_) (fun cdv A outer s H vs Q E hr h=>?_)
  · obtain ⟨a,ks,x,l,e,rfl,_⟩:=h
    rfl
  · obtain ⟨a,ks,x,l,e,rfl,ha,hl,e1,e2,k⟩:=h
    refine ⟨_,pss_cons (ps_set (i:=3) scGrp.nd rfl (Or.inl rfl) (pe_op op_sub (pv 2) pe_int))
      (pss_cons (ps_while PassesOwn.never (PW.pt (pw_and (pt_cmpR op_gt (pv 3) pe_int (nomark _)) (pw_and1 (pt_cmpR op_lt (pe_ix ix_list (pv 0) (pv 3) (fun _ _=>rfl)) (pv 1) (nomark _)))))
        (pss_one (ps_aug (i:=3) scGrp.nd rfl (Or.inl rfl) pe_int ip_sub)))
      (pss_one (ps_ret (pv 3)))),?_⟩
    refine ⟨_,rfl,_,_,rfl,rfl,?_⟩
    refine ⟨fun m σ H'=>∃ i:Nat,m=i∧σ=[some (.ref a),some (vN l),some (vN e),some (vN i)]∧H=H'∧i<x.length∧JM.beginM (JM.endsM ks x) ks.length l (e-1)=JM.beginM (JM.endsM ks x) ks.length l i,⟨_,e-1,rfl,?_,rfl,by omega,rfl⟩,?_⟩
    · show [some (V.ref a),some (vN l),some (vN e),some (V.int ((e:Int)-1))]=_
      rw [show (e:Int)-1=((e-1:Nat):Int) by omega]
      rfl
    · rintro m σ H' ⟨i,rfl,rfl,rfl,hi,eb⟩
      have test:TIs _ _ H (decide (0<m)&&decide (JM.endsM ks x m<l)):=TIs.and (t:=tTest (tOp (rI0 fun i j=>.bl (decide (j<i))) (tVar 3) (tC (.int 0)))) (u:=tTest (tOp (rI0 fun i j=>.bl (decide (i<j))) (tOp (rIxL K) (tVar 0) (tVar 3)) (tVar 1))) (σ:=[some (.ref a),some (vN l),some (vN e),some (vN m)])
        (fun Q q=>⟨_,rfl,_,_,rfl,rfl,_,rfl,by
          rw [show decide ((0:Int)<(m:Int))=decide (0<m) from decide_eq_decide.mpr (by omega)]
          exact q⟩)
        (fun _ Q q=>⟨_,rfl,_,rfl,a,_,_,_,rfl,rfl,SqL.of ha,lvs_get ks x hi,_,rfl,_,_,rfl,rfl,_,rfl,by
          rw [show decide (((JM.endsM ks x m:Nat):Int)<(l:Int))=decide (JM.endsM ks x m<l) from decide_eq_decide.mpr (by omega)]
          exact q⟩)
      refine test _ (ite2 (fun g=>?_) (fun g=>?_))
      · rw [Bool.and_eq_true,decide_eq_true_eq,decide_eq_true_eq] at g
        refine ⟨_,fun _ _ h=>h,?_⟩
        refine ⟨_,rfl,_,_,rfl,rfl,?_⟩
        refine ⟨m-1,by omega,m-1,rfl,?_,rfl,by omega,?_⟩
        · show [some (V.ref a),some (vN l),some (vN e),some (V.int ((m:Int)-1))]=_
          rw [show (m:Int)-1=((m-1:Nat):Int) by omega]
          rfl
        · rw [eb]
          obtain ⟨j,rfl⟩:∃ j,m=j+1:=⟨m-1,by omega⟩
          have:JM.beginM (JM.endsM ks x) ks.length l (j+1)=if l≤ks.length∧l≤JM.endsM ks x (j+1) then j+1 else JM.beginM (JM.endsM ks x) ks.length l j:=rfl
          rw [this,if_neg (by omega)]
          rfl
      · refine ⟨_,rfl,?_⟩
        rw [eb] at k
        have e3:JM.beginM (JM.endsM ks x) ks.length l m=m:=by
          cases m with
          | zero=>rfl
          | succ j=>
            have g2:l≤JM.endsM ks x (j+1):=by
              rw [Bool.and_eq_true,decide_eq_true_eq,decide_eq_true_eq] at g
              omega
            have e4:JM.beginM (JM.endsM ks x) ks.length l (j+1)=if l≤ks.length∧l≤JM.endsM ks x (j+1) then j+1 else JM.beginM (JM.endsM ks x) ks.length l j:=rfl
            rw [e4,if_pos ⟨hl,g2⟩]
        rw [e3] at k
        exact k
def spStay:Sp:=fun vs H Q _=>∃ (a b:Addr) (as:List Int) (es:List Nat) (level:Nat),vs=[.ref a,.ref b,vN level]∧H a=some (.lst (as.map V.int))∧H b=some (.lst (es.map vN))∧as.length=es.length∧∀ H',Same H H'→Q (.bl (JM.stayM level 0 as es)) H'
theorem scStay:FnScope ["amounts", "levels", "level", "total", "amount", "ended"] ["amounts", "levels", "level"] (defScope sStay):=⟨rfl,rfl,rfl,by decide +kernel,rfl,by decide +kernel,by decide +kernel⟩
theorem ok_stay {f:Addr}{fd:FuncData}(F:Fun K "stays_within" "stays_within" sStay f fd) (T2:Tx2 K w mg u):FnOk P w K mg base CX0 1 f fd ["amounts", "levels", "level"] spStay:=by
  refine F.ok scStay (fun vs H Q E h=>?_) (fun cdv A outer s H vs Q E hr h=>?_)
  · obtain ⟨a,b,as,es,l,rfl,_⟩:=h
    rfl
  · obtain ⟨a,b,as,es,l,rfl,ha,hb,hl,k⟩:=h
    refine ⟨_,pss_cons (ps_set (i:=3) scStay.nd rfl (Or.inl rfl) pe_int)
      (pss_cons (ps_for PassesOwn.never rfl (pi_zip rfl T2.zZip (pa_cons (pv 0) (pa_cons (pv 1) pa_nil))) (pg_tup rfl (pgs_cons (pg_name (i:=4) scStay.nd rfl (Or.inl rfl)) (pgs_cons (pg_name (i:=5) scStay.nd rfl (Or.inl rfl)) pgs_nil)))
        (pss_cons (ps_if (pt_cmpR op_ge (pv 5) (pv 2) (nomark _)) (pss_one (ps_set (i:=3) scStay.nd rfl (Or.inl rfl) pe_int)) pss_nil)
        (pss_cons (ps_aug (i:=3) scStay.nd rfl (Or.inl rfl) (pv 4) ip_add)
        (pss_one (ps_if (pt_cmpR op_ge (pe_callB call_abs rfl T2.zAbs (show bootBuiltins "abs" = some (.builtin "abs") by decide +kernel) (pa_cons (pv 3) pa_nil)) (pe_k T2.kLimit rfl) (nomark _)) (pss_one (ps_ret pe_bl)) pss_nil)))))
      (pss_one (ps_ret pe_bl))),?_⟩
    refine ⟨_,rfl,_,rfl,a,b,_,_,rfl,SqL.of ha,SqL.of hb,for_zip (K:=K) (a:=a) (b:=b) (xs:=as.map V.int) (ys:=es.map vN) (by rw [List.length_map,List.length_map]; exact hl) (fun i σ H'=>∃ (T:Int) (z4 z5:Option V),σ=[some (.ref a),some (.ref b),some (vN l),some (.int T),z4,z5]∧Same H H'∧JM.stayM l 0 as es=JM.stayM l T (as.drop i) (es.drop i)) ?_ (fun i σ H' _ ⟨_,_,_,_,s,_⟩=>⟨SqL.of (s _ _ ha),SqL.of (s _ _ hb)⟩) ?_ ?_⟩
    · exact ⟨0,none,none,rfl,Same.refl _,rfl⟩
    · rintro i x y σ H2 Tp hx hy ⟨T,z4,z5,rfl,s2,e⟩ hTp
      obtain ⟨am,ham,rfl⟩:=get_I hx
      obtain ⟨en,hen,rfl⟩:=get_vN hy
      have s3:Same H2 (upd H2 Tp (.tup [V.int am,vN en])):=same_upd hTp
      have ht3:upd H2 Tp (.tup [V.int am,vN en]) Tp=some (.tup [V.int am,vN en]):=upd_same
      have s23:=s2.trans s3
      generalize upd H2 Tp (.tup [V.int am,vN en])=H3 at ht3 s23
      have d1:as.drop i=am::as.drop (i+1):=by
        obtain ⟨z1,z2⟩:=List.getElem?_eq_some_iff.mp ham
        rw [←z2,←List.drop_eq_getElem_cons z1]
      have d2:es.drop i=en::es.drop (i+1):=by
        obtain ⟨z1,z2⟩:=List.getElem?_eq_some_iff.mp hen
        rw [←z2,←List.drop_eq_getElem_cons z1]
      rw [d1,d2,JM.stayM] at e
      refine ⟨Tp,_,rfl,SqT.of ht3,rfl,_,_,rfl,_,_,rfl,rfl,?_⟩
      refine sq ?_
      refine if_join (fun σ' H'=>σ'=[some (.ref a),some (.ref b),some (vN l),some (.int (if l≤en then 0 else T)),some (.int am),some (vN en)]∧H3=H') ?_ (fun kk=>?_)
      · rintro σ' H' ⟨rfl,rfl⟩
        refine ⟨_,rfl,_,rfl,_,_,rfl,rfl,?_⟩
        generalize (if l≤en then (0:Int) else T)=T2 at e
        refine ⟨_,rfl,_,rfl,_,_,rfl,rfl,_,rfl,ite2 (fun g=>?_) (fun g=>?_)⟩
        · have g:=of_decide_eq_true g
          have f1:decide ((T2+am).natAbs<10 ^ 16)=false:=decide_eq_false (by
            have:(if T2+am<0 then -(T2+am) else T2+am)=((T2+am).natAbs:Int):=by split <;> omega
            rw [this] at g
            omega)
          rw [f1,Bool.false_and] at e
          have:=k H3 s23
          rw [e] at this
          exact this
        · have g:¬(10000000000000000:Int)≤(if T2+am<0 then -(T2+am) else T2+am):=fun z=>g (decide_eq_true z)
          have f1:decide ((T2+am).natAbs<10 ^ 16)=true:=decide_eq_true (by
            have:(if T2+am<0 then -(T2+am) else T2+am)=((T2+am).natAbs:Int):=by split <;> omega
            rw [this] at g
            omega)
          rw [f1,Bool.true_and] at e
          exact ⟨T2+am,_,_,rfl,s23,e⟩
      · refine ⟨_,rfl,_,rfl,_,_,rfl,rfl,_,rfl,ite2 (fun g=>?_) (fun g=>?_)⟩
        · have g:=of_decide_eq_true g
          refine kk _ _ ⟨?_,rfl⟩
          rw [if_pos (by omega)]
          rfl
        · have g:¬(l:Int)≤(en:Int):=fun z=>g (decide_eq_true z)
          refine kk _ _ ⟨?_,rfl⟩
          rw [if_neg (by omega)]
          rfl
    · rintro σ H2 ⟨T,z4,z5,rfl,s2,e⟩
      rw [List.length_map,List.drop_length] at e
      have e:JM.stayM l 0 as es=true:=by rw [e]; rfl
      have:=k H2 s2
      rw [e] at this
      exact this
def OptI (H:Hp) (v:V) (n:Option Int):Prop:=v=optV n
theorem opti_mono {D:Addr}(H H':Hp) (y:V) (z:Option Int) (acc:List V) (hD:H D=some (.lst acc)) (o:OffD D H H') (h:OptI H y z):OptI H' y z:=h
theorem optis_of {H:Hp}{p:Addr}{ns:List (Option Int)}(h:EachV H p OptI ns):H p=some (.lst (ns.map optV)):=by
  obtain ⟨vs,e,pr⟩:=h
  have go:∀ {vs:List V} {ns:List (Option Int)},Paired (fun v n=>OptI H v n) vs ns→vs=ns.map optV:=by
    intro vs ns q
    induction q with
    | nil=>rfl
    | cons r _ ih=>rw [List.map_cons,←ih,show _=optV _ from r]
  rw [e,go pr]
theorem flat_opt (l:List (Option Int)):(l.map optV).all flatV=true:=by
  rw [List.all_map,List.all_eq_true]
  intro o _
  cases o <;> rfl
theorem in_opt (l:List (Option Int)):inV .non (l.map optV)=!(l.all fun o=>o.isSome):=by
  unfold inV
  rw [List.any_map]
  induction l with
  | nil=>rfl
  | cons o l ih=>
    rw [List.any_cons,List.all_cons,ih]
    cases o <;> rfl
def SumOk (p:JM.Pt):Prop:=JM.PtOk p∧p.1=4∧JM.n0 p+JM.n1 p≤80
def DkAt (H:Hp) (a:Addr) (x:Pu.Deck):Prop:=EachV H a (CdV a) x∧(∀ y∈x,CdOk y)∧x.length≤1000
theorem DkAt.same {H H':Hp}{a:Addr}{x:Pu.Deck}(s:Same H H') (h:DkAt H a x):DkAt H' a x:=⟨cds_same s h.1,h.2⟩
def spSumd (t:Adr):Sp:=fun vs H Q _=>∃ (b a l:Addr) (x:Pu.Deck) (ks:List JM.Pt) (p:JM.Pt),vs=[.ref b,.ref a,.ref l,vN (ks.length+1)]∧PtAt t H b p∧SumOk p∧DkAt H a x∧H l=some (.lst ((JM.lvsM ks x).map vN))∧ks.length≤3∧∀ H',Same H H'→Q (.bl (JM.summedM ks x p)) H'
theorem scSumd:FnScope ["part", "cards", "levels", "most_level", "amounts", "card", "level"] ["part", "cards", "levels", "most_level"] (defScope sSumd):=⟨rfl,rfl,rfl,by decide +kernel,rfl,by decide +kernel,by decide +kernel⟩
theorem blkSm1:blkC ["part", "cards", "levels", "most_level", "amounts", "card", "level"] (defScope sSumd) (blkS [(".0",.local),("card",.local),("sum_amount",.globalImplicit),("part",.free)]) [("card",5)]=true:=by decide +kernel
theorem blkSm2:blkC ["part", "cards", "levels", "most_level", "amounts", "card", "level"] (defScope sSumd) (blkS [(".0",.local),("level",.local),("stays_within",.globalImplicit),("amounts",.free),("levels",.free)]) [("level",6)]=true:=by decide +kernel
theorem ok_sumd {f:Addr}{fd:FuncData}(F:Fun K "can_be_summed" "can_be_summed" sSumd f fd) (T3:Tx3 mg) (T2:Tx2 K w mg u) (cSumA:Cal P w K mg base "sum_amount" 3 ["card", "part"] (spSumA t)) (cStay:Cal P w K mg base "stays_within" 1 ["amounts", "levels", "level"] spStay):FnOk P w K mg base CX0 4 f fd ["part", "cards", "levels", "most_level"] (spSumd t):=by
  refine F.ok scSumd (fun vs H Q E h=>?_) (fun cdv A outer s H vs Q E hr h=>?_)
  · obtain ⟨b,a,l,x,ks,p,rfl,_⟩:=h
    rfl
  · obtain ⟨b,a,l,x,ks,p,rfl,hb,⟨okp,p4,p80⟩,⟨⟨vs,hvs,pr⟩,cok,lx⟩,hl,lk,k⟩:=h
    have lv:=paired_len pr
    refine ⟨_,pss_cons (ps_set (i:=4) scSumd.nd rfl (Or.inr rfl) (pe_lc (own:=[("card",5)]) rfl scSumd.nd (pi_list (pv 1)) (blkOk_by blkSm1) (fun s H C cl fp=>pg_name (i:=5) scSumd.nd rfl (Or.inl rfl)) (fun s H C cl fp=>pts_nil) (fun s H C cl fp=>pe_cal cSumA hr (by decide) rfl (pa_cons (pv 5) (pa_cons (pv 0) pa_nil)))))
      (pss_cons (ps_if (pt_cmpR op_in_seq pe_non (pv 4) rfl) (pss_one (ps_ret pe_bl)) pss_nil)
      (pss_one (ps_ret (pe_callB (cr_all rfl) rfl T2.zAll boot_all (pa_cons (pe_lc (own:=[("level",6)]) rfl scSumd.nd (pi_range2 rfl T3.zRange (pa_cons pe_int (pa_cons (pe_op op_add (pv 3) pe_int) pa_nil))) (blkOk_by blkSm2) (fun s H C cl fp=>pg_name (i:=6) scSumd.nd rfl (Or.inl rfl)) (fun s H C cl fp=>pts_nil) (fun s H C cl fp=>pe_cal cStay hr (by decide) rfl (pa_cons (pv 4) (pa_cons (pv 2) (pa_cons (pv 6) pa_nil))))) pa_nil))))),?_⟩
    refine ⟨_,rfl,a,rfl,⟨_,SqL.of hvs⟩,fun D hD=>?_⟩
    refine lc_mapL (xs:=x) (p:=fun _=>true) (f:=JM.amtM p) (S:=OptI) lv (by omega) hD (SqL.of hvs) opti_mono ?_ (fun H1 s1 e1=>?_)
    · intro i v y H' hv hx s Fin Nx kY kN
      obtain ⟨c,rfl,nc,hc⟩:=paired_at pr hv hx
      exact ⟨rfl,yes_do ⟨_,rfl,_,rfl,c,b,y,p,rfl,hc.same s,cok y (List.mem_of_getElem? hx),hb.same s,okp,p4,p80,fun H2 s2=>kY rfl H2 _ s2 rfl⟩⟩
    · rw [flt_all] at e1
      have hD1:=optis_of e1
      refine ⟨_,rfl,D,_,rfl,.inl (SqL.of hD1),rfl,flat_opt _,_,rfl,?_⟩
      have ein:(if false=true then !inV V.non ((x.map (JM.amtM p)).map optV) else inV V.non ((x.map (JM.amtM p)).map optV))=!(x.all fun y=>(JM.amtM p y).isSome):=by
        rw [if_neg Bool.false_ne_true,in_opt,List.all_map]
        rfl
      rw [ein]
      unfold JM.summedM at k
      cases al:x.all fun y=>(JM.amtM p y).isSome with
      | false=>
        rw [al,Bool.false_and] at k
        exact iteT (k H1 s1)
      | true=>
        rw [al,Bool.true_and] at k
        have hm:=JM.all_some x al
        have eA:(x.map (JM.amtM p)).map optV=(x.filterMap (JM.amtM p)).map V.int:=by
          rw [hm,List.map_map]
          rfl
        rw [eA] at hD1
        have hlen:(x.filterMap (JM.amtM p)).length=(JM.lvsM ks x).length:=by
          have:=congrArg List.length hm
          rw [List.length_map,List.length_map] at this
          unfold JM.lvsM
          rw [List.length_map,List.length_range]
          exact this.symm
        have en:((((ks.length+1:Nat):Int)+1)-1).toNat=ks.length+1:=by omega
        refine iteF ⟨_,rfl,_,_,rfl,rfl,1,(((ks.length+1:Nat):Int)+1),rfl,⟨by decide,by decide,by omega,by omega⟩,?_⟩
        rw [en]
        intro D2 hD2
        refine lc_mapR (p:=fun _=>true) (f:=fun i=>JM.stayM (i+1) 0 (x.filterMap (JM.amtM p)) (JM.lvsM ks x)) (S:=BlV) (by omega) hD2 bl_mono ?_ ?_
        · intro i H' hi s Fin Nx kY kN
          refine ⟨rfl,yes_do ⟨_,rfl,_,rfl,_,rfl,D,l,_,_,i+1,?_,s _ _ hD1,s _ _ (s1 _ _ hl),hlen,fun H2 s2=>kY rfl H2 _ s2 rfl⟩⟩
          show [V.ref D,V.ref l,V.int (1+(i:Int))]=[V.ref D,V.ref l,V.int ((i+1:Nat):Int)]
          rw [show (1:Int)+(i:Int)=((i+1:Nat):Int) by omega]
        · intro H2 s2 e2
          rw [flt_all] at e2
          refine ⟨D2,_,rfl,SqL.of (bls_of e2),?_⟩
          rw [List.all_map]
          exact k H2 (s1.trans s2)
def spMet (t:Adr):Sp:=fun vs H Q _=>∃ (c a l:Addr) (x:Pu.Deck) (ps:List JM.Pt),vs=[.ref c,.ref a,.ref l]∧Each H c (PtAt t) ps∧(∀ y∈ps,JM.PtOk y)∧ps.length≤64∧(∀ y∈ps,JM.roomM y=true)∧(JM.ksOf ps).length≤3∧DkAt H a x∧H l=some (.lst ((JM.lvsM (JM.ksOf ps) x).map vN))∧∀ H',Same H H'→Q (.bl (JM.metM ps x)) H'
theorem scMet:FnScope ["parts", "cards", "levels", "most_level", "part"] ["parts", "cards", "levels"] (defScope sMet):=⟨rfl,rfl,rfl,by decide +kernel,rfl,by decide +kernel,by decide +kernel⟩
theorem room_sum {p:JM.Pt}(ok:JM.PtOk p) (r:JM.roomM p=true) (p4:p.1=4):SumOk p:=by
  refine ⟨ok,p4,?_⟩
  obtain ⟨i,vs⟩:=p
  dsimp only at p4
  subst p4
  have r:((decide (vs.getD 0 0+vs.getD 1 0≤80)&&decide (vs.getD 1 0≤18))&&decide (vs.getD 2 0+vs.getD 3 0≤132))=true:=r
  simp only [Bool.and_eq_true,decide_eq_true_eq] at r
  exact r.1.1
theorem ok_met {f:Addr}{fd:FuncData}(F:Fun K "can_be_met" "can_be_met" sMet f fd) (T:Txt K w mg t) (cKs:Cal P w K mg base "keys_of" 1 ["parts"] (spSel t JM.isK)) (cTs:Cal P w K mg base "totals_of" 1 ["parts"] (spSel t JM.isT)) (cSumd:Cal P w K mg base "can_be_summed" 4 ["part", "cards", "levels", "most_level"] (spSumd t)):FnOk P w K mg base CX0 5 f fd ["parts", "cards", "levels"] (spMet t):=by
  refine F.ok scMet (fun vs H Q E h=>?_) (fun cdv A outer s H vs Q E hr h=>?_)
  · obtain ⟨c,a,l,x,ps,rfl,_⟩:=h
    rfl
  · obtain ⟨c,a,l,x,ps,rfl,eP,ok,l64,rm,lk,hD,hl,k⟩:=h
    refine ⟨_,pss_cons (ps_set (i:=3) scMet.nd rfl (Or.inl rfl) (pe_op op_add (pe_callB call_len_seq rfl T.zLen PySem.boot_len (pa_cons (pe_cal cKs hr (by decide) rfl (pa_cons (pv 0) pa_nil)) pa_nil)) pe_int))
      (pss_cons (ps_for PassesOwn.never rfl (pi_list (pe_cal cTs hr (by decide) rfl (pa_cons (pv 0) pa_nil))) (pg_name (i:=4) scMet.nd rfl (Or.inl rfl))
        (pss_one (ps_if (PW.pt (pw_and (pt_cmpR op_eq (pe_fld (pv 4) rfl) pe_str (nomark _)) (pw_and1 (pt_not (pt_val (pe_cal cSumd hr (by decide) rfl (pa_cons (pv 4) (pa_cons (pv 1) (pa_cons (pv 2) (pa_cons (pv 3) pa_nil)))))))))) (pss_one (ps_ret pe_bl)) pss_nil)))
      (pss_one (ps_ret pe_bl))),?_⟩
    refine ⟨_,rfl,c,ps,rfl,eP,ok,l64,fun H1 qk s1 nk eK=>?_⟩
    obtain ⟨kbs,kb1,kb2,kb3⟩:=eK.ex
    refine ⟨qk,_,rfl,.inl (SqL.of kb1),_,_,rfl,rfl,?_⟩
    refine ⟨_,rfl,c,ps,rfl,eP.same s1 (fun a x h=>h.same s1),ok,l64,fun H2 qt s2 nt eT=>?_⟩
    obtain ⟨bs,b1,b2,b3⟩:=eT.ex
    have s12:=s1.trans s2
    refine ⟨qt,rfl,⟨_,SqL.of b1⟩,for_list (K:=K) (a:=qt) (xs:=bs.map V.ref) (fun i σ H'=>∃ z,σ=[some (.ref c),some (.ref a),some (.ref l),some (vN ((JM.ksOf ps).length+1)),z]∧Same H2 H'∧(((JM.tsOf ps).take i).all fun t=>decide (t.1=5) || JM.summedM (JM.ksOf ps) x t)=true) ?_ (fun i σ H' _ ⟨_,_,s,_⟩=>SqL.of (s _ _ b1)) ?_ ?_⟩
    · refine ⟨none,?_,Same.refl _,by simp⟩
      show [some (V.ref c),some (V.ref a),some (V.ref l),some (V.int (((kbs.map V.ref).length:Int)+1)),none]=_
      rw [List.length_map,kb2]
      rfl
    · rintro i y σ H3 hi ⟨z,rfl,s3,e⟩
      obtain ⟨tb,htb,rfl⟩:=get_ref hi
      have hil:i<(JM.tsOf ps).length:=by rw [←show bs.length=(JM.tsOf ps).length from b2]; exact (List.getElem?_eq_some_iff.mp htb).1
      have ht:(JM.tsOf ps)[i]?=some (JM.tsOf ps)[i]:=List.getElem?_eq_getElem hil
      have hmem:=List.getElem_mem hil
      obtain ⟨mp,mT⟩:=List.mem_filter.mp hmem
      have okt:=ok _ mp
      have n45:=JM.is_num.2.2.1.mp mT
      obtain ⟨dx,d,g1,g2⟩:=(b3 i tb _ htb ht).same s3
      have et:(((JM.tsOf ps).take (i+1)).all fun t=>decide (t.1=5) || JM.summedM (JM.ksOf ps) x t)=(decide ((JM.tsOf ps)[i].1=5) || JM.summedM (JM.ksOf ps) x (JM.tsOf ps)[i]):=by
        rw [take_next ht,List.all_append,e]
        simp
      have all_no:(decide ((JM.tsOf ps)[i].1=5) || JM.summedM (JM.ksOf ps) x (JM.tsOf ps)[i])=false→JM.metM ps x=false:=fun q=>by
        unfold JM.metM
        rw [←Bool.not_eq_true,List.all_eq_true]
        intro z
        rw [z _ hmem] at q
        cases q
      generalize (JM.tsOf ps)[i]=tt at g1 g2 et all_no n45 okt mp
      refine ⟨_,rfl,tb,t.cP,dx,_,_,rfl,g1,T.clP,T.nPw,lk_word _ _,rfl,_,rfl,?_⟩
      rw [w_sum okt.1]
      by_cases c5:tt.1=5
      · rw [decide_eq_false (show ¬tt.1=4 by omega)]
        exact iteF (iteF ⟨_,rfl,s3,by rw [et,decide_eq_true c5,Bool.true_or]⟩)
      · have c4:tt.1=4:=by omega
        rw [decide_eq_true c4]
        refine iteT ⟨_,rfl,_,rfl,_,rfl,_,rfl,tb,a,l,x,JM.ksOf ps,tt,rfl,⟨dx,d,g1,g2⟩,room_sum okt (rm _ mp) c4,hD.same (s12.trans s3),(s12.trans s3) _ _ hl,lk,fun H4 s4=>⟨_,rfl,?_⟩⟩
        rw [decide_eq_false c5,Bool.false_or] at et all_no
        cases q:JM.summedM (JM.ksOf ps) x tt with
        | true=>exact iteF ⟨_,rfl,s3.trans s4,by rw [et,q]⟩
        | false=>
          refine iteT ?_
          have:=k H4 ((s12.trans s3).trans s4)
          rw [all_no q] at this
          exact this
    · rintro σ H3 ⟨z,rfl,s3,e⟩
      rw [List.length_map,show bs.length=(JM.tsOf ps).length from b2,List.take_length] at e
      have:=k H3 (s12.trans s3)
      rw [show JM.metM ps x=true from e] at this
      exact this
end
def CalM (P:Program) (w:World) (K:PySem.W.Frag) (mg:Str→Option Value) (base:Heap) (C:Addr) (m:Str) (k:Nat) (ps:List Str) (sp:Sp):Prop:=
  ∃ f fd,FnOk P w K mg base CX0 k f fd ps sp∧Meth K C m f∧Binds K fd ps []
def Cal0 (P:Program) (w:World) (K:PySem.W.Frag) (mg:Str→Option Value) (base:Heap) (x:Str) (k:Nat) (sp:Sp):Prop:=Cal P w K mg base x k [] sp
section
variable {P:Program}{w:World}{K:PySem.W.Frag}{mg:Str→Option Value}{base:Heap}{t:Adr}{u:Adr2}
theorem pe_cal0 {X:Cx}{k j:Nat}{sp:Sp}{x:Str}{p pos:Pos}(c:Cal0 X.prog X.w X.K X.mg X.base x k sp) (hr:Room j X.A) (hk:k≤j) (hg:Gl X x) (hdb:(x==("__debug__" : Str))=false:=by decide):PE X (.Call (.Name x p) [] [] pos) (tCall sp [] E0 tNil):=by
  obtain ⟨f,fd,F,hm,kp,b⟩:=c
  exact pe_call0 F (hr.mono hk) hg hm kp b .nil pass0 hdb
def FldOk (k:JM.Pt):Prop:=JM.PtOk k∧(k.1=2∨k.1=3∨k.1=6)∧JM.n0 k+JM.n1 k≤80∧JM.n2 k+JM.n1 k≤132
theorem room_fld {k:JM.Pt}(ok:JM.PtOk k) (r:JM.roomM k=true) (h:k.1=2∨k.1=3∨k.1=6):FldOk k:=by
  refine ⟨ok,h,?_⟩
  obtain ⟨i,vs⟩:=k
  dsimp only at h
  have go:(decide (vs.getD 0 0+vs.getD 1 0≤80)&&decide (vs.getD 2 0+vs.getD 1 0≤132))=true:=by
    rcases h with rfl | rfl | rfl <;> exact r
  simp only [Bool.and_eq_true,decide_eq_true_eq] at go
  exact go
def SgOk (u:Adr2) (H:Hp) (p:Addr) (s:Int) (lg:List Int):Prop:=SgAt u H p s lg∧lg.length=64
theorem SgOk.same {u:Adr2}{H H':Hp}{p:Addr}{s:Int}{lg:List Int}(sm:Same H H') (h:SgOk u H p s lg):SgOk u H' p s lg:=⟨h.1.same sm,h.2⟩
def spPutF (t:Adr) (u:Adr2):Sp:=fun vs H Q _=>∃ (a b c p:Addr) (L:List Int) (k:JM.Pt) (x:Pu.Card) (s:Int) (lg:List Int),vs=[.ref a,.ref b,.ref c,.ref p]∧H a=some (.lst (L.map V.int))∧L.length=132∧PtAt t H b k∧FldOk k∧CdAt H c x∧x.length=80∧SgOk u H p s lg∧
  ∀ H',OffD a H H'→H' a=some (.lst ((JM.onI L (JM.n2 k) (JM.showM lg s x k)).map V.int))→Q .non H'
theorem scPutF:FnScope ["line", "part", "card", "signs", "numbers"] ["line", "part", "card", "signs"] (defScope sPutF):=⟨rfl,rfl,rfl,by decide +kernel,rfl,by decide +kernel,by decide +kernel⟩
theorem show_len {lg:List Int}{s:Int}{x:Pu.Card}{k:JM.Pt}(hx:x.length=80) (h:JM.n0 k+JM.n1 k≤80):(JM.showM lg s x k).length=JM.n1 k:=by
  unfold JM.showM Pu.fieldOf
  rw [List.length_map,List.length_take,List.length_drop]
  omega
theorem ok_putF {f:Addr}{fd:FuncData}(F:Fun K "put_field" "put_field" sPutF f fd) (T:Txt K w mg t) (T2:Tx2 K w mg u) (cPut:Cal P w K mg base "put_upon" 1 ["line", "place", "shown"] spPut) (cShow:CalM P w K mg base u.cS "show_field" 2 ["self", "card", "column", "length"] (spShow u)) :
    FnOk P w K mg base CX0 3 f fd ["line", "part", "card", "signs"] (spPutF t u):=by
  refine F.ok scPutF (fun vs H Q E h=>?_) (fun cdv A outer s H vs Q E hr h=>?_)
  · obtain ⟨a,b,c,p,L,k,x,sg,lg,rfl,_⟩:=h
    rfl
  · obtain ⟨a,b,c,p,L,kk,x,sg,lg,rfl,ha,lL,⟨dx,d,hb,hd⟩,⟨ok,h236,r80,r132⟩,hc,hx,⟨⟨dxs,ds,hp,hds⟩,h64⟩,k⟩:=h
    have hu:=hu_of hr
    have nm:=nums_at ok hd
    obtain ⟨fS,fdS,FS,mS,bS⟩:=cShow
    refine ⟨_,pss_cons (ps_set (i:=4) scPutF.nd rfl (Or.inl rfl) (pe_fld (pv 1) rfl))
      (pss_one (ps_expr (pe_cal cPut hr (by decide) rfl (pa_cons (pv 0) (pa_cons (pe_dget hu (pv 4) pe_str (fun _ _=>rfl)) (pa_cons (pe_meth (pv 3) T2.clS mS FS (hr.mono (by decide)) bS .nil pass0 (pa_cons (pv 2) (pa_cons (pe_dget hu (pv 4) pe_str (fun _ _=>rfl)) (pa_cons (pe_dget hu (pv 4) pe_str (fun _ _=>rfl)) pa_nil)))) pa_nil)))))),?_⟩
    refine ⟨_,rfl,b,t.cP,dx,_,_,rfl,hb,T.clP,T.nPn,lk_nums _ _,?_⟩
    refine ⟨_,rfl,_,rfl,d,_,rfl,nm.p (by omega),_,rfl,p,dxs,_,rfl,hp,by simp [List.lookup,show ((("show_field" : Str)==("strange" : Str))=false) by decide +kernel,show ((("show_field" : Str)==("by_holes" : Str))=false) by decide +kernel],_,rfl,_,rfl,d,_,rfl,nm.c (by omega),_,rfl,d,_,rfl,nm.n (by omega),?_⟩
    refine ⟨p,c,lg,sg,x,_,_,rfl,⟨dxs,ds,hp,hds⟩,h64,hc,hx,fun H1 q s1 hq hq1=>?_⟩
    refine ⟨a,q,L,JM.showM lg sg x kk,_,rfl,s1 _ _ ha,hq1,fun z=>?_,?_,fun H2 o2 h2=>k H2 (fun b o n z=>o2 b o n (s1 _ _ z)) h2⟩
    · rw [←z,ha] at hq
      cases hq
    · rw [show_len hx r80]
      omega
theorem fields_len {lg:List Int}{s:Int}{x:Pu.Card}(hx:x.length=80):∀ (l:List JM.Pt) (b:List Int),(∀ k∈l,FldOk k)→b.length=132→(JM.fieldsOn lg s x l b).length=132
  | [],b,_,h=>h
  | k::l,b,hl,h=>by
    obtain ⟨ok,h236,r80,r132⟩:=hl k (by simp)
    show (JM.fieldsOn lg s x l (JM.onI b (JM.n2 k) (JM.showM lg s x k))).length=132
    refine fields_len hx l _ (fun y hy=>hl y (by simp [hy])) ?_
    rw [on_len (by rw [show_len hx r80]; omega)]
    exact h
theorem fields_next {lg:List Int}{s:Int}{x:Pu.Card}{l:List JM.Pt}{b:List Int}{i:Nat}{k:JM.Pt}(h:l[i]?=some k):JM.fieldsOn lg s x (l.take (i+1)) b=JM.onI (JM.fieldsOn lg s x (l.take i) b) (JM.n2 k) (JM.showM lg s x k):=by
  unfold JM.fieldsOn
  rw [take_next h,List.foldl_append]
  rfl
theorem blank_len:JM.blankI.length=132:=by
  unfold JM.blankI
  rw [List.length_replicate]
structure PsAt (t:Adr) (H:Hp) (c:Addr) (ps:List JM.Pt):Prop where
  each:Each H c (PtAt t) ps
  ok:∀ y∈ps,JM.PtOk y
  len:ps.length≤64
  room:∀ y∈ps,JM.roomM y=true
  keys:(JM.ksOf ps).length≤3
theorem PsAt.same {t:Adr}{H H':Hp}{c:Addr}{ps:List JM.Pt}(s:Same H H') (h:PsAt t H c ps):PsAt t H' c ps:=⟨h.each.same s (fun a x h=>h.same s),h.ok,h.len,h.room,h.keys⟩
theorem PsAt.seen {t:Adr}{H:Hp}{c:Addr}{ps:List JM.Pt}(h:PsAt t H c ps):∀ k∈JM.ssOf ps,FldOk k:=fun k hk=>by
  obtain ⟨m,i⟩:=List.mem_filter.mp hk
  exact room_fld (h.ok _ m) (h.room _ m) (.inr (.inr (JM.is_num.2.2.2.mp i)))
theorem PsAt.key {t:Adr}{H:Hp}{c:Addr}{ps:List JM.Pt}(h:PsAt t H c ps):∀ k∈JM.ksOf ps,FldOk k:=fun k hk=>by
  obtain ⟨m,i⟩:=List.mem_filter.mp hk
  have:=JM.is_num.2.1.mp i
  exact room_fld (h.ok _ m) (h.room _ m) (by omega)
def spCdL (t:Adr) (u:Adr2):Sp:=fun vs H Q _=>∃ (c a p:Addr) (ps:List JM.Pt) (x:Pu.Card) (s:Int) (lg:List Int),vs=[.ref c,.ref a,.ref p]∧PsAt t H c ps∧CdAt H a x∧x.length=80∧SgOk u H p s lg∧∀ H' q,Same H H'→H q=none→H' q=some (.lst ((JM.cardI ps lg s x).map V.int))→Q (.ref q) H'
theorem scCdL:FnScope ["parts", "card", "signs", "line", "part"] ["parts", "card", "signs"] (defScope sCdL):=⟨rfl,rfl,rfl,by decide +kernel,rfl,by decide +kernel,by decide +kernel⟩
theorem ok_cdL {f:Addr}{fd:FuncData}(F:Fun K "card_line" "card_line" sCdL f fd) (cBlk:Cal0 P w K mg base "blank_line" 1 spBlk) (cSs:Cal P w K mg base "seens_of" 1 ["parts"] (spSel t JM.isS)) (cPutF:Cal P w K mg base "put_field" 3 ["line", "part", "card", "signs"] (spPutF t u)) :
    FnOk P w K mg base CX0 4 f fd ["parts", "card", "signs"] (spCdL t u):=by
  refine F.ok scCdL (fun vs H Q E h=>?_) (fun cdv A outer s H vs Q E hr h=>?_)
  · obtain ⟨c,a,p,ps,x,sg,lg,rfl,_⟩:=h
    rfl
  · obtain ⟨c,a,p,ps,x,sg,lg,rfl,hp,ha,hx,hg,k⟩:=h
    refine ⟨_,pss_cons (ps_set (i:=3) scCdL.nd rfl (Or.inl rfl) (pe_cal0 cBlk hr (by decide) rfl))
      (pss_cons (ps_for PassesOwn.never rfl (pi_list (pe_cal cSs hr (by decide) rfl (pa_cons (pv 0) pa_nil))) (pg_name (i:=4) scCdL.nd rfl (Or.inl rfl))
        (pss_one (ps_expr (pe_cal cPutF hr (by decide) rfl (pa_cons (pv 3) (pa_cons (pv 4) (pa_cons (pv 1) (pa_cons (pv 2) pa_nil))))))))
      (pss_one (ps_ret (pv 3)))),?_⟩
    refine ⟨rfl,fun H1 q s1 nq hq=>?_⟩
    refine ⟨_,rfl,c,ps,rfl,(hp.same s1).each,hp.ok,hp.len,fun H2 qs s2 ns eS=>?_⟩
    obtain ⟨bs,b1,b2,b3⟩:=eS.ex
    have hq2:=s2 _ _ hq
    have s12:=s1.trans s2
    have seen:=hp.seen
    refine ⟨qs,rfl,⟨_,SqL.of b1⟩,for_list (K:=K) (a:=qs) (xs:=bs.map V.ref) (fun i σ H'=>∃ z,σ=[some (.ref c),some (.ref a),some (.ref p),some (.ref q),z]∧OffD q H2 H'∧H' q=some (.lst ((JM.fieldsOn lg sg x ((JM.ssOf ps).take i) JM.blankI).map V.int))) ?_ (fun i σ H' _ ⟨_,_,o,_⟩=>SqL.of (o _ _ ?_ b1)) ?_ ?_⟩
    · exact ⟨none,rfl,OffD.refl,hq2⟩
    · exact fun z=>by rw [z,hq] at ns; cases ns
    · rintro i y σ H3 hi ⟨z,rfl,o3,h3⟩
      obtain ⟨tb,htb,rfl⟩:=get_ref hi
      have hil:i<(JM.ssOf ps).length:=by rw [←show bs.length=(JM.ssOf ps).length from b2]; exact (List.getElem?_eq_some_iff.mp htb).1
      have ht:(JM.ssOf ps)[i]?=some (JM.ssOf ps)[i]:=List.getElem?_eq_getElem hil
      have fo:=seen _ (List.getElem_mem hil)
      have nx:=fields_next (lg:=lg) (s:=sg) (x:=x) (b:=JM.blankI) ht
      have fl:=fields_len (lg:=lg) (s:=sg) hx ((JM.ssOf ps).take i) JM.blankI (fun y hy=>seen y (List.mem_of_mem_take hy)) blank_len
      obtain ⟨dx,d,g1,g2⟩:=b3 i tb _ htb ht
      generalize (JM.ssOf ps)[i]=tt at g1 g2 fo nx
      have off:∀ b o,H b=some o→H3 b=some o:=fun b o e=>o3 b o (fun z=>by rw [z,nq] at e; cases e) (s12 _ _ e)
      refine ⟨_,rfl,_,rfl,_,rfl,_,rfl,q,tb,a,p,_,tt,x,sg,lg,rfl,h3,fl,⟨dx,d,o3 _ _ (ne_of g1 hq2 (by intro z; cases z)) g1,o3 _ _ (ne_of g2 hq2 (by intro z; cases z)) g2⟩,fo,off _ _ ha,hx,hg.same off,fun H4 o4 h4=>?_⟩
      exact ⟨_,rfl,o3.trans o4,by rw [nx]; exact h4⟩
    · rintro σ H3 ⟨z,rfl,o3,h3⟩
      rw [List.length_map,show bs.length=(JM.ssOf ps).length from b2,List.take_length] at h3
      exact ⟨_,rfl,k H3 q (fun b o e=>o3 b o (fun z=>by rw [z,nq] at e; cases e) (s12 _ _ e)) nq h3⟩
def TotOk (p:JM.Pt):Prop:=JM.PtOk p∧(p.1=4∨p.1=5)∧JM.roomM p=true
theorem over_all {p:JM.Pt}{x:Pu.Deck}{v:Int}(h:JM.overM p x=some v):(x.all fun y=>(JM.amtM p y).isSome)=true:=by
  rw [List.all_eq_true]
  intro y hy
  cases q:JM.amtM p y with
  | some _=>rfl
  | none=>
    rw [JM.over_none p hy q] at h
    cases h
def spOver (t:Adr):Sp:=fun vs H Q _=>∃ (a b:Addr) (x:Pu.Deck) (p:JM.Pt) (v:Int),vs=[.ref a,.ref b]∧DkAt H a x∧PtAt t H b p∧TotOk p∧JM.overM p x=some v∧∀ H',Same H H'→Q (.int v) H'
theorem scOver:FnScope ["cards", "part", "card"] ["cards", "part"] (defScope sOver):=⟨rfl,rfl,rfl,by decide +kernel,rfl,by decide +kernel,by decide +kernel⟩
theorem blkOver:blkC ["cards", "part", "card"] (defScope sOver) (blkS [(".0",.local),("card",.local),("sum_amount",.globalImplicit),("part",.free)]) [("card",2)]=true:=by decide +kernel
theorem ok_over {f:Addr}{fd:FuncData}(F:Fun K "total_over" "total_over" sOver f fd) (T:Txt K w mg t) (cSumA:Cal P w K mg base "sum_amount" 3 ["card", "part"] (spSumA t)):FnOk P w K mg base CX0 4 f fd ["cards", "part"] (spOver t):=by
  refine F.ok scOver (fun vs H Q E h=>?_) (fun cdv A outer s H vs Q E hr h=>?_)
  · obtain ⟨a,b,x,p,v,rfl,_⟩:=h
    rfl
  · obtain ⟨a,b,x,p,v,rfl,⟨⟨vs,hvs,pr⟩,cok,lx⟩,hb,⟨ok,p45,rm⟩,ov,k⟩:=h
    have lv:=paired_len pr
    obtain ⟨dx,d,hb1,hd⟩:=id hb
    refine ⟨_,pss_cons (ps_if (pt_cmpR op_eq (pe_fld (pv 1) rfl) pe_str (nomark _)) (pss_one (ps_ret (pe_callB call_len_seq rfl T.zLen PySem.boot_len (pa_cons (pv 0) pa_nil)))) pss_nil)
      (pss_one (ps_ret (pe_callB (cr_sum rfl) rfl T.zSum (show bootBuiltins "sum" = some (.builtin "sum") by decide +kernel) (pa_cons (pe_lc (own:=[("card",2)]) rfl scOver.nd (pi_list (pv 0)) (blkOk_by blkOver) (fun s H C cl fp=>pg_name (i:=2) scOver.nd rfl (Or.inl rfl)) (fun s H C cl fp=>pts_nil) (fun s H C cl fp=>pe_cal cSumA hr (by decide) rfl (pa_cons (pv 2) (pa_cons (pv 1) pa_nil)))) pa_nil)))),?_⟩
    refine ⟨_,rfl,b,t.cP,dx,_,_,rfl,hb1,T.clP,T.nPw,lk_word _ _,rfl,_,rfl,?_⟩
    rw [w_count ok.1]
    by_cases p5:p.1=5
    · rw [decide_eq_true p5]
      refine iteT ⟨_,rfl,a,_,rfl,.inl (SqL.of hvs),?_⟩
      have a1:x.map (JM.amtM p)=(List.replicate x.length (1:Int)).map some:=by
        have:JM.amtM p=fun _=>some 1:=by
          funext y
          unfold JM.amtM
          rw [if_pos p5]
        rw [this,List.map_const',List.map_replicate]
      have e:=JM.over_some p x _ a1
      rw [ov] at e
      have s1:∀ n,(List.replicate n (1:Int)).sum=n:=by
        intro n
        induction n with
        | zero=>rfl
        | succ n ih=>rw [List.replicate_succ,List.sum_cons,ih]; omega
      rw [s1] at e
      have e:=Option.some.inj e
      have:=k H (Same.refl _)
      rw [e,←lv] at this
      exact this
    · rw [decide_eq_false p5]
      have p4:p.1=4:=by omega
      obtain ⟨_,_,p80⟩:=room_sum ok rm p4
      refine iteF ⟨_,rfl,a,rfl,⟨_,SqL.of hvs⟩,fun D hD=>?_⟩
      refine lc_mapL (xs:=x) (p:=fun _=>true) (f:=JM.amtM p) (S:=OptI) lv (by omega) hD (SqL.of hvs) opti_mono ?_ (fun H1 s1 e1=>?_)
      · intro i v y H' hv hx s Fin Nx kY kN
        obtain ⟨c,rfl,nc,hc⟩:=paired_at pr hv hx
        exact ⟨rfl,yes_do ⟨_,rfl,_,rfl,c,b,y,p,rfl,hc.same s,cok y (List.mem_of_getElem? hx),hb.same s,ok,p4,p80,fun H2 s2=>kY rfl H2 _ s2 rfl⟩⟩
      · rw [flt_all] at e1
        have hm:=JM.all_some x (over_all ov)
        have hD1:=optis_of e1
        have eA:(x.map (JM.amtM p)).map optV=(x.filterMap (JM.amtM p)).map V.int:=by
          rw [hm,List.map_map]
          rfl
        rw [eA] at hD1
        refine ⟨D,_,rfl,SqL.of hD1,?_⟩
        have e:=JM.over_some p x _ hm
        rw [ov] at e
        have:=k H1 s1
        rw [Option.some.inj e] at this
        exact this
theorem tot_next {ts:List JM.Pt}{seg:Pu.Deck}{b:List Int}{i:Nat}{k:JM.Pt}(h:ts[i]?=some k):JM.totI (ts.take (i+1)) seg b=JM.onI (JM.totI (ts.take i) seg b) (JM.atT k) (JM.numI ((JM.overM k seg).getD 0) (JM.wT k)):=by
  unfold JM.totI
  rw [take_next h,List.foldl_append]
  rfl
theorem num_len (v:Int) (n:Nat) (h:1≤n):(JM.numI v n).length=n:=by
  unfold JM.numI JM.bI Pu.inPlaces
  dsimp only
  rw [List.length_map]
  generalize Pu.dec v.natAbs++[if v<0 then (45:UInt8) else 32]=T
  split
  · rw [List.length_replicate]
  · rw [List.length_append,List.length_replicate]
    omega
theorem paired_last {α β:Type}{G:α→β→Prop}{l:List α}{m:List β}(pr:Paired G l m) (h:m≠[]):∃ a b,l.getLast?=some a∧m.getLast?=some b∧G a b:=by
  have hl:=paired_len pr
  have h0:0<m.length:=List.length_pos_iff.mpr h
  obtain ⟨a,ha⟩:∃ a,l[m.length-1]?=some a:=⟨_,List.getElem?_eq_getElem (by omega)⟩
  obtain ⟨b,hb⟩:∃ b,m[m.length-1]?=some b:=⟨_,List.getElem?_eq_getElem (by omega)⟩
  exact ⟨a,b,by rw [List.getLast?_eq_getElem?,hl,ha],by rw [List.getLast?_eq_getElem?,hb],paired_at pr ha hb⟩
theorem ok_some {o:Option Int}(h:JM.okO o=true):∃ v,o=some v∧v.natAbs<10 ^ 16:=by
  cases o with
  | none=>cases h
  | some v=>exact ⟨v,rfl,of_decide_eq_true h⟩
theorem tot_room {p:JM.Pt}(h:TotOk p):JM.atT p+JM.wT p≤132∧2≤JM.wT p∧JM.wT p≤20:=by
  obtain ⟨ok,p45,r⟩:=h
  obtain ⟨i,vs⟩:=p
  dsimp only at p45
  rcases p45 with rfl | rfl
  · have r:((decide (vs.getD 0 0+vs.getD 1 0≤80)&&decide (vs.getD 1 0≤18))&&decide (vs.getD 2 0+vs.getD 3 0≤132))=true:=r
    simp only [Bool.and_eq_true,decide_eq_true_eq] at r
    obtain ⟨c,n,pp,ww,rfl,hv⟩:=ok.2
    have r2:=r.2
    change pp+ww≤132 at r2
    show pp+ww≤132∧2≤ww∧ww≤20
    omega
  · have r:decide (vs.getD 0 0+vs.getD 1 0≤132)=true:=r
    have r:=of_decide_eq_true r
    obtain ⟨pp,ww,rfl,hv⟩:=ok.2
    change pp+ww≤132 at r
    show pp+ww≤132∧2≤ww∧ww≤20
    omega
theorem tot_len {seg:Pu.Deck}:∀ (l:List JM.Pt) (b:List Int),(∀ k∈l,TotOk k)→b.length=132→(JM.totI l seg b).length=132
  | [],b,_,h=>h
  | k::l,b,hl,h=>by
    obtain ⟨r1,r2,r3⟩:=tot_room (hl k (by simp))
    show (JM.totI l seg (JM.onI b (JM.atT k) (JM.numI ((JM.overM k seg).getD 0) (JM.wT k)))).length=132
    refine tot_len l _ (fun y hy=>hl y (by simp [hy])) ?_
    rw [on_len (by rw [num_len _ _ (by omega)]; omega)]
    exact h
theorem PsAt.tot {t:Adr}{H:Hp}{c:Addr}{ps:List JM.Pt}(h:PsAt t H c ps):∀ k∈JM.tsOf ps,TotOk k:=fun k hk=>by
  obtain ⟨m,i⟩:=List.mem_filter.mp hk
  exact ⟨h.ok _ m,JM.is_num.2.2.1.mp i,h.room _ m⟩
theorem num_tot {H:Hp}{d:Addr}{p:JM.Pt}(h:TotOk p) (nm:Nums H d p):NumIs H d "P" (JM.atT p)∧NumIs H d "W" (JM.wT p):=by
  unfold JM.atT JM.wT
  rcases h.2.1 with e | e
  · rw [if_neg (by omega),if_neg (by omega)]
    exact ⟨nm.p (by omega),nm.w4 e⟩
  · rw [if_pos e,if_pos e]
    exact ⟨nm.p5 e,nm.w5 e⟩
def spTtL (t:Adr) (u:Adr2):Sp:=fun vs H Q _=>∃ (c a p:Addr) (ps:List JM.Pt) (x:Pu.Deck) (level:Nat) (s:Int) (lg:List Int),vs=[.ref c,vN level,.ref a,.ref p]∧PsAt t H c ps∧DkAt H a x∧1≤level∧level≤(JM.ksOf ps).length+1∧(x=[]→level=(JM.ksOf ps).length+1)∧
  (∀ k∈JM.tsOf ps,JM.okO (JM.overM k x)=true)∧SgOk u H p s lg∧∀ H' q,Same H H'→H q=none→H' q=some (.lst ((JM.totalI ps lg s level x).map V.int))→Q (.ref q) H'
theorem scTtL:FnScope ["parts", "level", "cards", "signs", "line", "keys", "key", "part", "shown"] ["parts", "level", "cards", "signs"] (defScope sTtL):=⟨rfl,rfl,rfl,by decide +kernel,rfl,by decide +kernel,by decide +kernel⟩
theorem ok_ttL {f:Addr}{fd:FuncData}(F:Fun K "total_line" "total_line" sTtL f fd) (T:Txt K w mg t) (cBlk:Cal0 P w K mg base "blank_line" 1 spBlk) (cKs:Cal P w K mg base "keys_of" 1 ["parts"] (spSel t JM.isK)) (cTs:Cal P w K mg base "totals_of" 1 ["parts"] (spSel t JM.isT)) (cPutF:Cal P w K mg base "put_field" 3 ["line", "part", "card", "signs"] (spPutF t u))
    (cShN:Cal P w K mg base "show_number" 1 ["number", "width"] spShN) (cOver:Cal P w K mg base "total_over" 4 ["cards", "part"] (spOver t)) (cPut:Cal P w K mg base "put_upon" 1 ["line", "place", "shown"] spPut):FnOk P w K mg base CX0 5 f fd ["parts", "level", "cards", "signs"] (spTtL t u):=by
  refine F.ok scTtL (fun vs H Q E h=>?_) (fun cdv A outer s H vs Q E hr h=>?_)
  · obtain ⟨c,a,p,ps,x,l,sg,lg,rfl,_⟩:=h
    rfl
  · obtain ⟨c,a,p,ps,x,l,sg,lg,rfl,hp,hD,l1,l2,l0,hT,hg,k⟩:=h
    have hu:=hu_of hr
    refine ⟨_,pss_cons (ps_set (i:=4) scTtL.nd rfl (Or.inl rfl) (pe_cal0 cBlk hr (by decide) rfl))
      (pss_cons (ps_set (i:=5) scTtL.nd rfl (Or.inl rfl) (pe_cal cKs hr (by decide) rfl (pa_cons (pv 0) pa_nil)))
      (pss_cons (ps_for PassesOwn.never rfl (pi_list (pe_slice sl_list (pv 5) po_none (po_some (pe_op op_sub (pe_op op_add (pe_callB call_len_seq rfl T.zLen PySem.boot_len (pa_cons (pv 5) pa_nil)) pe_int) (pv 1))))) (pg_name (i:=6) scTtL.nd rfl (Or.inl rfl))
        (pss_one (ps_expr (pe_cal cPutF hr (by decide) rfl (pa_cons (pv 4) (pa_cons (pv 6) (pa_cons (pe_ix ix_list (pv 2) (pe_un un_neg pe_int) (fun _ _=>rfl)) (pa_cons (pv 3) pa_nil))))))))
      (pss_cons (ps_for PassesOwn.never rfl (pi_list (pe_cal cTs hr (by decide) rfl (pa_cons (pv 0) pa_nil))) (pg_name (i:=7) scTtL.nd rfl (Or.inl rfl))
        (pss_cons (ps_set (i:=8) scTtL.nd rfl (Or.inl rfl) (pe_cal cShN hr (by decide) rfl (pa_cons (pe_cal cOver hr (by decide) rfl (pa_cons (pv 2) (pa_cons (pv 7) pa_nil))) (pa_cons (pe_dget hu (pe_fld (pv 7) rfl) pe_str (fun _ _=>rfl)) pa_nil))))
        (pss_one (ps_expr (pe_cal cPut hr (by decide) rfl (pa_cons (pv 4) (pa_cons (pe_dget hu (pe_fld (pv 7) rfl) pe_str (fun _ _=>rfl)) (pa_cons (pv 8) pa_nil))))))))
      (pss_one (ps_ret (pv 4)))))),?_⟩
    refine ⟨rfl,fun H1 q s1 nq hq=>?_⟩
    refine ⟨_,rfl,c,ps,rfl,(hp.same s1).each,hp.ok,hp.len,fun H2 qk s2 nk eK=>?_⟩
    obtain ⟨kbs,kb1,kb2,kb3⟩:=eK.ex
    have kb2:kbs.length=(JM.ksOf ps).length:=kb2
    have cutE:cutV (kbs.map V.ref) none (some (((kbs.map V.ref).length:Int)+1-(l:Int)))=(kbs.take ((JM.ksOf ps).length+1-l)).map V.ref:=by
      unfold cutV
      rw [List.length_map,kb2,show ((JM.ksOf ps).length:Int)+1-(l:Int)=(((JM.ksOf ps).length+1-l:Nat):Int) by omega,HT.sIx_nat,HT.sIx_none,Nat.min_eq_left (by omega),List.drop_zero,Nat.sub_zero,List.map_take]
    refine ⟨_,rfl,_,rfl,qk,_,rfl,.inl (SqL.of kb1),_,_,rfl,rfl,_,rfl,_,_,rfl,rfl,_,rfl,qk,_,rfl,SqL.of kb1,fun q3 n3=>?_⟩
    rw [cutE]
    have s3:=same_upd (o:=.lst ((kbs.take ((JM.ksOf ps).length+1-l)).map V.ref)) n3
    have hq3:upd H2 q3 (.lst ((kbs.take ((JM.ksOf ps).length+1-l)).map V.ref)) q3=some (.lst ((kbs.take ((JM.ksOf ps).length+1-l)).map V.ref)):=upd_same
    have hqL:=s3 _ _ (s2 _ _ hq)
    have nq3:q3≠q:=fun z=>by rw [z,s2 _ _ hq] at n3; cases n3
    have s13:=(s1.trans s2).trans s3
    have kb3':∀ (j:Nat) (b:Addr) (y:JM.Pt),kbs[j]?=some b→(JM.ksOf ps)[j]?=some y→PtAt t (upd H2 q3 (.lst ((kbs.take ((JM.ksOf ps).length+1-l)).map V.ref))) b y:=fun j b y h1 h2=>(kb3 j b y h1 h2).same s3
    generalize upd H2 q3 (.lst ((kbs.take ((JM.ksOf ps).length+1-l)).map V.ref))=H3 at hq3 hqL s13 kb3'
    have key:=hp.key
    have tot:=hp.tot
    have x80:∀ y∈x,y.length=80:=fun y hy=>(hD.2.1 y hy).1
    refine ⟨q3,rfl,⟨_,SqL.of hq3⟩,for_list (K:=K) (a:=q3) (xs:=(kbs.take ((JM.ksOf ps).length+1-l)).map V.ref) (fun i σ H'=>∃ z,σ=[some (.ref c),some (vN l),some (.ref a),some (.ref p),some (.ref q),some (.ref qk),z,none,none]∧OffD q H3 H'∧H' q=some (.lst ((JM.fieldsOn lg sg (x.getLastD []) (((JM.ksOf ps).take ((JM.ksOf ps).length+1-l)).take i) JM.blankI).map V.int))) ?_ (fun i σ H' _ ⟨_,_,o,_⟩=>SqL.of (o _ _ nq3 hq3)) ?_ ?_⟩
    · exact ⟨none,rfl,OffD.refl,hqL⟩
    · rintro i y σ H4 hi ⟨z,rfl,o4,h4⟩
      obtain ⟨tb,htb,rfl⟩:=get_ref hi
      have him:i<((JM.ksOf ps).length+1-l):=by
        have:=(List.getElem?_eq_some_iff.mp htb).1
        rw [List.length_take] at this
        omega
      rw [List.getElem?_take_of_lt him] at htb
      have hil:i<(JM.ksOf ps).length:=by omega
      have ht:(JM.ksOf ps)[i]?=some (JM.ksOf ps)[i]:=List.getElem?_eq_getElem hil
      have ht2:((JM.ksOf ps).take ((JM.ksOf ps).length+1-l))[i]?=some (JM.ksOf ps)[i]:=by rw [List.getElem?_take_of_lt him]; exact ht
      have fo:=key _ (List.getElem_mem hil)
      have xne:x≠[]:=fun z=>by have:=l0 z; omega
      obtain ⟨⟨vs,hvs,pr⟩,cok,lx⟩:=id hD
      obtain ⟨cv,yl,e1,e2,cl,rfl,ncl,hcl⟩:=paired_last pr xne
      have el:x.getLastD []=yl:=by rw [List.getLastD_eq_getLast?,e2]; rfl
      have yl80:yl.length=80:=x80 yl (List.mem_of_getLast? e2)
      have nx:=fields_next (lg:=lg) (s:=sg) (x:=x.getLastD []) (b:=JM.blankI) ht2
      have fl:=fields_len (lg:=lg) (s:=sg) (x:=x.getLastD []) (by rw [el]; exact yl80) (((JM.ksOf ps).take ((JM.ksOf ps).length+1-l)).take i) JM.blankI (fun y hy=>key y (List.mem_of_mem_take (List.mem_of_mem_take hy))) blank_len
      obtain ⟨dx,d,g1,g2⟩:=kb3' i tb _ htb ht
      generalize (JM.ksOf ps)[i]=tt at g1 g2 fo nx
      have off:∀ b o,H b=some o→H4 b=some o:=fun b o e=>o4 b o (fun z=>by rw [z,nq] at e; cases e) (s13 _ _ e)
      refine ⟨_,rfl,_,rfl,_,rfl,_,rfl,a,_,_,_,rfl,rfl,SqL.of (off _ _ hvs),at_tail e1,_,rfl,q,tb,cl,p,_,tt,yl,sg,lg,rfl,h4,fl,⟨dx,d,o4 _ _ (ne_of g1 hqL (by intro z; cases z)) g1,o4 _ _ (ne_of g2 hqL (by intro z; cases z)) g2⟩,fo,off _ _ hcl,yl80,hg.same off,fun H5 o5 h5=>?_⟩
      exact ⟨_,rfl,o4.trans o5,by rw [nx,el]; rw [el] at h5; exact h5⟩
    · rintro σ H4 ⟨z,rfl,o4,h4⟩
      have off:∀ b o,H b=some o→H4 b=some o:=fun b o e=>o4 b o (fun z=>by rw [z,nq] at e; cases e) (s13 _ _ e)
      rw [List.length_map,List.length_take,List.take_of_length_le (by rw [List.length_take]; omega)] at h4
      have b1l:(JM.fieldsOn lg sg (x.getLastD []) ((JM.ksOf ps).take ((JM.ksOf ps).length+1-l)) JM.blankI).length=132:=by
        by_cases xe:x=[]
        · have:=l0 xe
          rw [this,Nat.sub_self,List.take_zero]
          exact blank_len
        · have:(x.getLastD []).length=80:=by
            rw [List.getLastD_eq_getLast?]
            cases q9:x.getLast? with
            | none=>exact absurd (List.getLast?_eq_none_iff.mp q9) xe
            | some y=>exact x80 y (List.mem_of_getLast? q9)
          exact fields_len this _ _ (fun y hy=>key y (List.mem_of_mem_take hy)) blank_len
      unfold JM.totalI at k
      generalize JM.fieldsOn lg sg (x.getLastD []) ((JM.ksOf ps).take ((JM.ksOf ps).length+1-l)) JM.blankI=B at h4 b1l k
      refine ⟨_,rfl,c,ps,rfl,(hp.same off).each,hp.ok,hp.len,fun H5 qt s5 nt eT=>?_⟩
      obtain ⟨bs,b1,b2,b3⟩:=eT.ex
      have b2:bs.length=(JM.tsOf ps).length:=b2
      have h5:=s5 _ _ h4
      have off5:∀ b o,H b=some o→H5 b=some o:=fun b o e=>s5 _ _ (off b o e)
      refine ⟨qt,rfl,⟨_,SqL.of b1⟩,for_list (K:=K) (a:=qt) (xs:=bs.map V.ref) (fun i σ H'=>∃ z6 z7 z8,σ=[some (.ref c),some (vN l),some (.ref a),some (.ref p),some (.ref q),some (.ref qk),z6,z7,z8]∧OffD q H5 H'∧H' q=some (.lst ((JM.totI ((JM.tsOf ps).take i) x B).map V.int))) ?_ (fun i σ H' _ ⟨_,_,_,_,o,_⟩=>SqL.of (o _ _ ?_ b1)) ?_ ?_⟩
      · exact ⟨_,_,_,rfl,OffD.refl,h5⟩
      · exact fun z=>by rw [z,h4] at nt; cases nt
      · rintro i y σ H6 hi ⟨z6,z7,z8,rfl,o6,h6⟩
        obtain ⟨tb,htb,rfl⟩:=get_ref hi
        have hil:i<(JM.tsOf ps).length:=by rw [←b2]; exact (List.getElem?_eq_some_iff.mp htb).1
        have ht:(JM.tsOf ps)[i]?=some (JM.tsOf ps)[i]:=List.getElem?_eq_getElem hil
        have to:=tot _ (List.getElem_mem hil)
        obtain ⟨v,ov,vb⟩:=ok_some (hT _ (List.getElem_mem hil))
        have nx:=tot_next (seg:=x) (b:=B) ht
        have fl:=tot_len (seg:=x) ((JM.tsOf ps).take i) B (fun y hy=>tot y (List.mem_of_mem_take hy)) b1l
        obtain ⟨dx,d,g1,g2⟩:=b3 i tb _ htb ht
        generalize (JM.tsOf ps)[i]=tt at g1 g2 to nx ov
        obtain ⟨r1,r2,r3⟩:=tot_room to
        have off6:∀ b o,H b=some o→H6 b=some o:=fun b o e=>o6 b o (fun z=>by rw [z,nq] at e; cases e) (off5 _ _ e)
        have g1':=o6 _ _ (ne_of g1 h5 (by intro z; cases z)) g1
        have g2':=o6 _ _ (ne_of g2 h5 (by intro z; cases z)) g2
        refine ⟨_,rfl,_,rfl,a,tb,x,tt,v,rfl,hD.same off6,⟨dx,d,g1',g2'⟩,to,ov,fun H7 s7=>?_⟩
        have nm7:=num_tot to (nums_at to.1 (s7 _ _ g2'))
        refine ⟨_,rfl,tb,t.cP,dx,_,_,rfl,s7 _ _ g1',T.clP,T.nPn,lk_nums _ _,d,_,rfl,nm7.2,v,JM.wT tt,rfl,Nat.lt_trans vb (by decide),by omega,by omega,fun H8 qn s8 nn hn=>?_⟩
        have nm8:=num_tot to (nums_at to.1 (s8 _ _ (s7 _ _ g2')))
        refine ⟨_,rfl,_,rfl,tb,t.cP,dx,_,_,rfl,s8 _ _ (s7 _ _ g1'),T.clP,T.nPn,lk_nums _ _,d,_,rfl,nm8.1,_,rfl,q,qn,_,_,_,rfl,s8 _ _ (s7 _ _ h6),hn,fun z=>?_,?_,fun H9 o9 h9=>?_⟩
        · rw [←z,s7 _ _ h6] at nn
          cases nn
        · rw [num_len _ _ (by omega),fl]
          omega
        · refine ⟨_,_,_,rfl,fun b o n z=>o9 b o n (s8 _ _ (s7 _ _ (o6 b o n z))),?_⟩
          rw [nx,ov]
          exact h9
      · rintro σ H6 ⟨z6,z7,z8,rfl,o6,h6⟩
        rw [List.length_map,b2,List.take_length] at h6
        exact ⟨_,rfl,k H6 q (fun b o e=>o6 b o (fun z=>by rw [z,nq] at e; cases e) (off5 _ _ e)) nq h6⟩
def RowL (D:Addr) (H:Hp) (v:V) (r:List Int):Prop:=∃ a,v=.ref a∧a≠D∧H a=some (.lst (r.map V.int))
theorem rows_same {D:Addr}{H H':Hp}{rs:List (List Int)}(s:Same H H') (h:EachV H D (RowL D) rs):EachV H' D (RowL D) rs:=by
  obtain ⟨vs,e,pr⟩:=h
  exact ⟨vs,s _ _ e,Paired.mapP pr fun a b ⟨c,e,n,h1⟩=>⟨c,e,n,s _ _ h1⟩⟩
theorem rows_push {D q:Addr}{H:Hp}{r:List Int}{rs:List (List Int)}{vs:List V}(e:H D=some (.lst vs)) (h:EachV H D (RowL D) rs) (hq:H q=some (.lst (r.map V.int))) (ne:q≠D):EachV (upd H D (.lst (vs++[.ref q]))) D (RowL D) (rs++[r]):=by
  obtain ⟨vs',e',pr⟩:=h
  rw [e] at e'
  cases e'
  refine ⟨_,upd_same,paired_app (Paired.mapP pr fun a b ⟨c,e,n,h1⟩=>⟨c,e,n,by rw [upd_ne n]; exact h1⟩) ⟨q,rfl,ne,?_⟩⟩
  rw [upd_ne ne]
  exact hq
theorem paired_two {α β:Type}{G:α→β→Prop}:∀ {l l':List α}{m m':List β},Paired G l m→Paired G l' m'→Paired G (l++l') (m++m')
  | _,_,_,_,.nil,h=>h
  | _,_,_,_,.cons r t,h=>.cons r (paired_two t h)
structure PapAt (t:Adr) (u:Adr2) (H:Hp) (c a l p:Addr) (ps:List JM.Pt) (x:Pu.Deck) (s:Int) (lg:List Int):Prop where
  pt:PsAt t H c ps
  dk:DkAt H a x
  lv:H l=some (.lst ((JM.lvsM (JM.ksOf ps) x).map vN))
  sg:SgOk u H p s lg
  met:JM.metM ps x=true
theorem PapAt.same {t:Adr}{u:Adr2}{H H':Hp}{c a l p:Addr}{ps:List JM.Pt}{x:Pu.Deck}{s:Int}{lg:List Int}(sm:Same H H') (h:PapAt t u H c a l p ps x s lg):PapAt t u H' c a l p ps x s lg:=⟨h.pt.same sm,h.dk.same sm,sm _ _ h.lv,h.sg.same sm,h.met⟩
def mostM (ps:List JM.Pt) (x:Pu.Deck) (e:Nat):Nat:=if e<x.length then JM.endsM (JM.ksOf ps) x e else (JM.ksOf ps).length
theorem most_le (ps:List JM.Pt) (x:Pu.Deck) (e:Nat):mostM ps x e≤(JM.ksOf ps).length:=by
  unfold mostM
  split
  · exact JM.ends_le _ _ _
  · exact Nat.le_refl _
theorem fit_of {ps:List JM.Pt}{x:Pu.Deck}(hx:x.length≤1000) (h:JM.metM ps x=true):∀ k∈JM.tsOf ps,JM.fitT (JM.ksOf ps) x k:=fun k hk=>(JM.fit_is _ x k hx).mpr (List.all_eq_true.mp h k hk)
theorem dk_cut {H:Hp}{a q:Addr}{vs:List V}{x:Pu.Deck}{i j:Nat}(h:DkAt H a x) (e:H a=some (.lst vs)) (hq:H q=none):DkAt (upd H q (.lst ((vs.take j).drop i))) q ((x.take j).drop i):=by
  obtain ⟨⟨vs',e',pr⟩,cok,lx⟩:=h
  rw [e] at e'
  cases e'
  have cut:∀ {l:List V} {m:Pu.Deck} (G:V→Pu.Card→Prop),Paired G l m→∀ n,Paired G (l.take n) (m.take n)∧Paired G (l.drop n) (m.drop n):=by
    intro l m G pr
    induction pr with
    | nil=>
      intro n
      rw [List.take_nil,List.drop_nil,List.take_nil,List.drop_nil]
      exact ⟨.nil,.nil⟩
    | cons h t ih=>
      intro n
      cases n with
      | zero=>exact ⟨.nil,.cons h t⟩
      | succ n=>exact ⟨.cons h (ih n).1,(ih n).2⟩
  refine ⟨⟨_,upd_same,Paired.mapP (cut _ (cut _ pr j).1 i).2 fun v y ⟨c,ec,n,hc⟩=>⟨c,ec,ne_of_none hc hq,?_⟩⟩,fun y hy=>cok y (List.mem_of_mem_take (List.mem_of_mem_drop hy)),?_⟩
  · unfold CdAt
    rw [upd_ne (ne_of_none hc hq)]
    exact hc
  · rw [List.length_drop,List.length_take]
    omega
def spGrL (t:Adr) (u:Adr2):Sp:=fun vs H Q _=>∃ (c a l p:Addr) (ps:List JM.Pt) (x:Pu.Deck) (s:Int) (lg:List Int) (e:Nat),vs=[.ref c,.ref a,.ref l,vN e,.ref p]∧PapAt t u H c a l p ps x s lg∧1≤x.length∧e≤x.length∧
  ∀ H' q,Same H H'→H q=none→EachV H' q (RowL q) (JM.groupI ps lg s x (mostM ps x e) e)→(∀ vs,H' q=some (.lst vs)→∀ v∈vs,∃ b,v=.ref b∧H b=none)→Q (.ref q) H'
theorem scGrL:FnScope ["parts", "cards", "levels", "end", "signs", "most", "lines", "level", "group"] ["parts", "cards", "levels", "end", "signs"] (defScope sGrL):=⟨rfl,rfl,rfl,by decide +kernel,rfl,by decide +kernel,by decide +kernel⟩
theorem group_next (ps:List JM.Pt) (lg:List Int) (s:Int) (x:Pu.Deck) (i e:Nat):JM.groupI ps lg s x (i+1) e=JM.groupI ps lg s x i e++[JM.totalI ps lg s (i+1) ((x.take e).drop (JM.beginM (JM.endsM (JM.ksOf ps) x) (JM.ksOf ps).length (i+1) (e-1)))]:=by
  unfold JM.groupI
  rw [List.range_succ,List.map_append]
  rfl
theorem ok_grL {f:Addr}{fd:FuncData}(F:Fun K "group_lines" "group_lines" sGrL f fd) (T:Txt K w mg t) (T3:Tx3 mg) (cKs:Cal P w K mg base "keys_of" 1 ["parts"] (spSel t JM.isK)) (cGrp:Cal P w K mg base "group_start" 1 ["levels", "level", "end"] spGrp) (cTtL:Cal P w K mg base "total_line" 5 ["parts", "level", "cards", "signs"] (spTtL t u)) :
    FnOk P w K mg base CX0 6 f fd ["parts", "cards", "levels", "end", "signs"] (spGrL t u):=by
  refine F.ok scGrL (fun vs H Q E h=>?_) (fun cdv A outer s H vs Q E hr h=>?_)
  · obtain ⟨c,a,l,p,ps,x,sg,lg,e,rfl,_⟩:=h
    rfl
  · obtain ⟨c,a,l,p,ps,x,sg,lg,e,rfl,hP,x1,hex,k⟩:=h
    have big:(1001:Nat)<sizeLine:=by decide
    refine ⟨_,pss_cons (ps_set (i:=5) scGrL.nd rfl (Or.inl rfl) (pe_callB call_len_seq rfl T.zLen PySem.boot_len (pa_cons (pe_cal cKs hr (by decide) rfl (pa_cons (pv 0) pa_nil)) pa_nil)))
      (pss_cons (ps_if (pt_cmpR op_lt (pv 3) (pe_callB call_len_seq rfl T.zLen PySem.boot_len (pa_cons (pv 1) pa_nil)) (nomark _)) (pss_one (ps_set (i:=5) scGrL.nd rfl (Or.inl rfl) (pe_ix ix_list (pv 2) (pv 3) (fun _ _=>rfl)))) pss_nil)
      (pss_cons (ps_set (i:=6) scGrL.nd rfl (Or.inl rfl) (pe_lst pa_nil))
      (pss_cons (ps_for PassesOwn.never rfl (pi_range2 rfl T3.zRange (pa_cons pe_int (pa_cons (pe_op op_add (pv 5) pe_int) pa_nil))) (pg_name (i:=7) scGrL.nd rfl (Or.inl rfl))
        (pss_cons (ps_set (i:=8) scGrL.nd rfl (Or.inl rfl) (pe_slice sl_list (pv 1) (po_some (pe_cal cGrp hr (by decide) rfl (pa_cons (pv 2) (pa_cons (pv 7) (pa_cons (pv 3) pa_nil))))) (po_some (pv 3))))
        (pss_one (ps_expr (pe_bm PySem.F.plainAttrs_list PySem.F.slot_list_append PySem.F.type_list_append mt_append (pv 6) (pa_cons (pe_cal cTtL hr (by decide) rfl (pa_cons (pv 0) (pa_cons (pv 7) (pa_cons (pv 8) (pa_cons (pv 4) pa_nil))))) pa_nil))))))
      (pss_one (ps_ret (pv 6)))))),?_⟩
    obtain ⟨⟨vs,hvs,pr⟩,cok,lx⟩:=id hP.dk
    have lv:=paired_len pr
    have hk3:=hP.pt.keys
    refine ⟨_,rfl,c,ps,rfl,hP.pt.each,hP.pt.ok,hP.pt.len,fun H1 qk s1 nk eK=>?_⟩
    obtain ⟨kbs,kb1,kb2,kb3⟩:=eK.ex
    have kb2:kbs.length=(JM.ksOf ps).length:=kb2
    refine ⟨qk,_,rfl,.inl (SqL.of kb1),?_⟩
    dsimp only [gName]
    refine sq ?_
    refine if_join (fun σ' H'=>σ'=[some (.ref c),some (.ref a),some (.ref l),some (vN e),some (.ref p),some (vN (mostM ps x e)),none,none,none]∧H1=H') ?_ (fun kk=>?_)
    · rintro σ' H' ⟨rfl,rfl⟩
      have ml:=most_le ps x e
      refine ⟨Nat.zero_le _,fun D hD=>?_⟩
      have s2:=same_upd (o:=.lst []) hD
      have hD2:upd H1 D (.lst []) D=some (.lst []):=upd_same
      have hD0:H D=none:=s1.free hD
      have s12:=s1.trans s2
      generalize upd H1 D (.lst [])=H2 at hD2 s12
      have en:((((mostM ps x e:Nat):Int)+1)-1).toNat=mostM ps x e:=by omega
      refine ⟨_,rfl,_,_,rfl,rfl,1,(((mostM ps x e:Nat):Int)+1),rfl,⟨by decide,by decide,by omega,by omega⟩,?_⟩
      rw [en]
      refine for_range (lo:=1) (n:=mostM ps x e) (fun i σ H'=>∃ z7 z8,σ=[some (.ref c),some (.ref a),some (.ref l),some (vN e),some (.ref p),some (vN (mostM ps x e)),some (.ref D),z7,z8]∧Same H H'∧EachV H' D (RowL D) (JM.groupI ps lg sg x i e)∧∀ vs,H' D=some (.lst vs)→∀ v∈vs,∃ b,v=.ref b∧H b=none) ?_ ?_ ?_
      · exact ⟨none,none,rfl,s12,⟨[],hD2,.nil⟩,fun vs h v hv=>by rw [hD2] at h; cases h; cases hv⟩
      · rintro i σ H3 hi ⟨z7,z8,rfl,s3,eR,nw⟩
        have e1:1≤e:=by
          rcases Nat.eq_zero_or_pos e with z | z
          · subst z
            have:mostM ps x 0=0:=by
              unfold mostM
              rw [if_pos (by omega)]
              rfl
            omega
          · exact z
        have hP3:=hP.same s3
        rw [show (1:Int)+(i:Int)=((i+1:Nat):Int) by omega]
        have hvs3:=s3 _ _ hvs
        refine ⟨_,rfl,_,rfl,_,rfl,_,rfl,l,JM.ksOf ps,x,i+1,e,rfl,hP3.lv,by omega,e1,hex,_,rfl,_,rfl,_,rfl,a,_,rfl,SqL.of hvs3,fun g ng=>?_⟩
        have bl:=JM.begin_le (JM.endsM (JM.ksOf ps) x) (JM.ksOf ps).length (i+1) (e-1)
        have cutE:cutV vs (some ((JM.beginM (JM.endsM (JM.ksOf ps) x) (JM.ksOf ps).length (i+1) (e-1):Nat):Int)) (some (e:Int))=(vs.take e).drop (JM.beginM (JM.endsM (JM.ksOf ps) x) (JM.ksOf ps).length (i+1) (e-1)):=by
          unfold cutV
          rw [HT.sIx_nat,HT.sIx_nat,Nat.min_eq_left (by omega),Nat.min_eq_left (by omega),List.drop_take]
        rw [cutE]
        have dk4:=dk_cut (i:=JM.beginM (JM.endsM (JM.ksOf ps) x) (JM.ksOf ps).length (i+1) (e-1)) (j:=e) hP3.dk hvs3 ng
        have s4:=same_upd (o:=.lst ((vs.take e).drop (JM.beginM (JM.endsM (JM.ksOf ps) x) (JM.ksOf ps).length (i+1) (e-1)))) ng
        generalize upd H3 g (.lst ((vs.take e).drop (JM.beginM (JM.endsM (JM.ksOf ps) x) (JM.ksOf ps).length (i+1) (e-1))))=H4 at dk4 s4
        obtain ⟨rv,hrv,rpr⟩:=id eR
        have rl:=paired_len rpr
        have rl2:(JM.groupI ps lg sg x i e).length=i:=by unfold JM.groupI; rw [List.length_map,List.length_range]
        refine ⟨_,rfl,.inl ⟨rfl,_,SqL.of (s4 _ _ hrv)⟩,_,rfl,_,rfl,_,rfl,_,rfl,c,g,p,ps,_,i+1,sg,lg,rfl,(hP3.same s4).pt,dk4,by omega,by omega,fun z=>?_,fun kt hkt=>?_,(hP3.same s4).sg,fun H5 q5 s5 n5 h5=>?_⟩
        · have:=congrArg List.length z
          rw [List.length_drop,List.length_take,List.length_nil] at this
          omega
        · have:=fit_of lx hP.met kt hkt (e-1) (by omega) (i+1) (by omega) (by omega)
          rw [show e-1+1=e by omega] at this
          exact this
        · have nq:q5≠D:=fun z=>by rw [z,s4 _ _ hrv] at n5; cases n5
          have n5H:H q5=none:=(s3.trans s4).free n5
          refine ⟨D,_,_,rfl,rfl,s5 _ _ (s4 _ _ hrv),by omega,_,_,rfl,fun b o z=>?_,?_,fun ws hws v hv=>?_⟩
          · rw [upd_ne (ne_of_none z hD0)]
            exact s5 _ _ (s4 _ _ (s3 _ _ z))
          · rw [group_next]
            exact rows_push (s5 _ _ (s4 _ _ hrv)) (rows_same (s4.trans s5) eR) h5 nq
          · rw [upd_same] at hws
            cases hws
            rcases List.mem_append.mp hv with z | z
            · exact nw _ hrv v z
            · exact ⟨q5,List.mem_singleton.mp z,n5H⟩
      · rintro σ H3 ⟨z7,z8,rfl,s3,eR,nw⟩
        exact ⟨_,rfl,k H3 D s3 hD0 eR nw⟩
    · refine ⟨_,rfl,_,rfl,a,_,rfl,.inl (SqL.of (s1 _ _ hvs)),_,_,rfl,rfl,_,rfl,ite2 (fun g=>?_) (fun g=>?_)⟩
      · have lt:e<x.length:=by
          have:=of_decide_eq_true g
          omega
        refine ⟨_,rfl,_,rfl,l,_,_,_,rfl,rfl,SqL.of (s1 _ _ hP.lv),lvs_get _ x lt,kk _ _ ⟨?_,rfl⟩⟩
        unfold mostM
        rw [if_pos lt]
        rfl
      · have ge:¬e<x.length:=fun z=>g (decide_eq_true (by omega))
        refine kk _ _ ⟨?_,rfl⟩
        unfold mostM
        rw [if_neg ge,←kb2,←List.length_map (f:=V.ref)]
        rfl
theorem e_first {i:Nat}(h:7≤i) (h2:i<10):decide (V.str (endS i)=V.str "first")=decide (i=8):=by
  have:i=7∨i=8∨i=9:=by omega
  rcases this with rfl | rfl | rfl <;> decide +kernel
theorem e_all {i:Nat}(h:7≤i) (h2:i<10):decide (V.str (endS i)=V.str "all")=decide (i=7):=by
  have:i=7∨i=8∨i=9:=by omega
  rcases this with rfl | rfl | rfl <;> decide +kernel
def spHasL:Sp:=fun vs H Q _=>∃ (l:Addr) (ks:List JM.Pt) (x:Pu.Deck) (k i:Nat),vs=[.str (endS k),vN i,.ref l]∧7≤k∧k<10∧H l=some (.lst ((JM.lvsM ks x).map vN))∧i<x.length∧Q (.bl (JM.hasI k i (JM.endsM ks x i))) H
theorem scHasL:FnScope ["listing", "at", "levels"] ["listing", "at", "levels"] (defScope sHasL):=⟨rfl,rfl,rfl,by decide +kernel,rfl,by decide +kernel,by decide +kernel⟩
theorem ok_hasL {f:Addr}{fd:FuncData}(F:Fun K "has_line" "has_line" sHasL f fd):FnOk P w K mg base CX0 1 f fd ["listing", "at", "levels"] spHasL:=by
  refine F.ok scHasL (fun vs H Q E h=>?_) (fun cdv A outer s H vs Q E hr h=>?_)
  · obtain ⟨l,ks,x,k,i,rfl,_⟩:=h
    rfl
  · obtain ⟨l,ks,x,kk,i,rfl,k7,k10,hl,hi,k⟩:=h
    refine ⟨_,pss_cons (ps_if (pt_cmpR op_eq (pv 0) pe_str (nomark _)) (pss_one (ps_ret (pe_or (pe_cmpR op_eq (pv 1) pe_int (nomark _)) (pe_one (pe_cmpR op_gt (pe_ix ix_list (pv 2) (pv 1) (fun _ _=>rfl)) pe_int (nomark _)))))) pss_nil)
      (pss_one (ps_ret (pe_cmpR op_eq (pv 0) pe_str (nomark _)))),?_⟩
    refine ⟨_,rfl,rfl,_,rfl,?_⟩
    rw [e_first k7 k10]
    unfold JM.hasI at k
    by_cases k8:kk=8
    · rw [decide_eq_true k8]
      rw [if_pos k8] at k
      refine iteT ⟨_,rfl,rfl,_,rfl,ite2 (fun g=>?_) (fun g=>?_)⟩
      · have:i=0:=by
          have:=V.int.inj (of_decide_eq_true g)
          omega
        rw [decide_eq_true this,Bool.true_or] at k
        exact k
      · have n0:i≠0:=fun z=>g (decide_eq_true (by rw [z]; rfl))
        rw [decide_eq_false n0,Bool.false_or] at k
        refine ⟨_,rfl,_,rfl,l,_,_,_,rfl,rfl,SqL.of hl,lvs_get ks x hi,_,_,rfl,rfl,?_⟩
        rw [←show decide ((0:Int)<((JM.endsM ks x i:Nat):Int))=decide (0<JM.endsM ks x i) from decide_eq_decide.mpr (by omega)] at k
        exact k
    · rw [decide_eq_false k8]
      rw [if_neg k8] at k
      refine iteF ⟨_,rfl,rfl,?_⟩
      rw [e_all k7 k10]
      exact k
def spJoin:Sp:=fun vs H Q _=>∃ (a:Addr) (rs:List (List Int)),vs=[.ref a]∧EachV H a (RowL a) rs∧(∀ r∈rs,r.length≤132)∧rs.length≤6000∧∀ H' p,Same H H'→H p=none→H' p=some (.lst (rs.flatten.map V.int))→Q (.ref p) H'
theorem scJoin:FnScope ["rows", "joined", "row"] ["rows"] (defScope sJoin):=⟨rfl,rfl,rfl,by decide +kernel,rfl,by decide +kernel,by decide +kernel⟩
theorem flatN_len {α:Type}(m:Nat):∀ (l:List (List α)),(∀ b∈l,b.length≤m)→l.flatten.length≤l.length * m
  | [],_=>by simp
  | x::l,h=>by
    have:=flatN_len m l fun y hy=>h y (by simp [hy])
    have h2:=h x (by simp)
    rw [List.flatten_cons,List.length_append,List.length_cons,Nat.succ_mul]
    omega
theorem ok_join {f:Addr}{fd:FuncData}(F:Fun K "join_rows" "join_rows" sJoin f fd):FnOk P w K mg base CX0 1 f fd ["rows"] spJoin:=by
  refine F.ok scJoin (fun vs H Q E h=>?_) (fun cdv A outer s H vs Q E hr h=>?_)
  · obtain ⟨a,l,rfl,_⟩:=h
    rfl
  · obtain ⟨a,ls,rfl,⟨vs,ha,pr⟩,lb,ll,k⟩:=h
    have lv:=paired_len pr
    have big:(1000000:Nat)<sizeLine:=by decide
    refine ⟨_,pss_cons (ps_set (i:=1) scJoin.nd rfl (Or.inl rfl) (pe_lst pa_nil))
      (pss_cons (ps_for PassesOwn.never rfl (pi_list (pv 0)) (pg_name (i:=2) scJoin.nd rfl (Or.inl rfl))
        (pss_one (ps_expr (pe_bm PySem.F.plainAttrs_list PySem.F.slot_list_extend PySem.F.type_list_extend mt_extend (pv 1) (pa_cons (pv 2) pa_nil)))))
      (pss_one (ps_ret (pv 1)))),?_⟩
    refine ⟨Nat.zero_le _,fun D hD=>?_⟩
    have s0:=same_upd (o:=.lst []) hD
    refine ⟨_,rfl,a,rfl,⟨_,SqL.of (s0 _ _ ha)⟩,for_list (K:=K) (a:=a) (xs:=vs) (fun i σ H'=>∃ (x2:Option V),σ=[some (.ref a),some (.ref D),x2]∧Same H H'∧H' D=some (.lst ((ls.take i).flatten.map V.int)))
      ⟨none,rfl,s0,by rw [List.take_zero]; exact upd_same⟩ (fun i σ H' _ ⟨_,_,s,_⟩=>SqL.of (s _ _ ha)) ?_ ?_⟩
    · rintro i y σ H2 hi ⟨x2,rfl,s2,hD2⟩
      have hil:=(List.getElem?_eq_some_iff.mp hi).1
      obtain ⟨b,hb⟩:∃ b,ls[i]?=some b:=⟨_,List.getElem?_eq_getElem (by omega)⟩
      obtain ⟨e,rfl,ne,h1⟩:=paired_at pr hi hb
      have fl:=flatN_len 132 (ls.take i) fun y hy=>lb y (List.mem_of_mem_take hy)
      have fl2:(ls.take i).length * 132≤6000 * 132:=Nat.mul_le_mul_right _ (by rw [List.length_take]; omega)
      have bl:=lb b (List.mem_of_getElem? hb)
      refine ⟨_,rfl,.inl ⟨rfl,_,SqL.of hD2⟩,_,rfl,D,e,_,_,rfl,rfl,hD2,s2 _ _ h1,by rw [List.length_map,List.length_map]; omega,?_⟩
      refine ⟨_,rfl,fun b o z=>by rw [upd_ne (ne_of_none z hD)]; exact s2 _ _ z,?_⟩
      rw [upd_same,take_next hb,List.flatten_append,List.map_append]
      simp
    · rintro σ H2 ⟨x2,rfl,s2,hD2⟩
      rw [lv,List.take_length] at hD2
      exact ⟨_,rfl,k H2 D s2 hD hD2⟩
def spMean (t:Adr) (u:Adr2):Sp:=fun vs H Q _=>∃ (c a p:Addr) (ini:List JM.Pt) (y:JM.Pt) (x:Pu.Deck) (s:Int) (lg:List Int),vs=[.ref c,.ref a,.ref p]∧PsAt t H c (ini++[y])∧7≤y.1∧y.1<10∧DkAt H a x∧SgOk u H p s lg∧(JM.metM (ini++[y]) x=false→∀ H',Same H H'→Q .non H')∧
  (JM.metM (ini++[y]) x=true→∀ H' q,Same H H'→H q=none→EachV H' q (RowL q) (JM.linesI (ini++[y]) lg s x)→Q (.ref q) H')
theorem scMean:FnScope ["parts", "cards", "signs", "levels", "lines", "at", "card"] ["parts", "cards", "signs"] (defScope sMean):=⟨rfl,rfl,rfl,by decide +kernel,rfl,by decide +kernel,by decide +kernel⟩
theorem at_len (ps:List JM.Pt) (lg:List Int) (s:Int) (x:Pu.Deck) (hk:(JM.ksOf ps).length≤3) (i:Nat):((List.range i).flatMap (JM.atLines ps lg s x)).length≤4 * i:=by
  induction i with
  | zero=>simp
  | succ i ih=>
    have e:=JM.ends_le (JM.ksOf ps) x i
    rw [List.range_succ,List.flatMap_append,List.length_append]
    have:([i].flatMap (JM.atLines ps lg s x)).length≤4:=by
      rw [List.flatMap_singleton]
      unfold JM.atLines JM.groupI
      rw [List.length_append,List.length_map,List.length_range]
      split
      · rw [List.length_singleton]; omega
      · rw [List.length_nil]; omega
    omega
theorem paired_mem {α β:Type}{G G':α→β→Prop}:∀ {l:List α}{m:List β},Paired G l m→(∀ a∈l,∀ b,G a b→G' a b)→Paired G' l m
  | _,_,.nil,_=>.nil
  | _,_,.cons r t,h=>.cons (h _ (by simp) _ r) (paired_mem t fun a ha=>h a (by simp [ha]))
theorem rows_more {D E:Addr}{H H0:Hp}{rs qs:List (List Int)}{vs ws:List V}{o:HO}(e:H D=some (.lst vs)) (f:H E=some (.lst ws)) (h:EachV H D (RowL D) rs) (g:EachV H E (RowL E) qs) (hD:H0 D=some o) (nw:∀ v∈ws,∃ b,v=.ref b∧H0 b=none):EachV (upd H D (.lst (vs++ws))) D (RowL D) (rs++qs):=by
  obtain ⟨vs',e',pr⟩:=h
  obtain ⟨ws',f',qr⟩:=g
  rw [e] at e'
  cases e'
  rw [f] at f'
  cases f'
  refine ⟨_,upd_same,paired_two (Paired.mapP pr fun a b ⟨c,e,n,h1⟩=>⟨c,e,n,by rw [upd_ne n]; exact h1⟩) (paired_mem qr fun a ha b h=>?_)⟩
  obtain ⟨c,rfl,n,h1⟩:=h
  obtain ⟨d,e,nd⟩:=nw _ ha
  cases e
  have n2:c≠D:=fun z=>by rw [z,hD] at nd; cases nd
  exact ⟨c,rfl,n2,by rw [upd_ne n2]; exact h1⟩
theorem at_next {α:Type}(f:Nat→List α) (i:Nat):(List.range (i+1)).flatMap f=(List.range i).flatMap f++f i:=by
  rw [List.range_succ,List.flatMap_append,List.flatMap_singleton]
theorem grp_len (ps:List JM.Pt) (lg:List Int) (s:Int) (x:Pu.Deck) (m i:Nat):(JM.groupI ps lg s x m i).length=m:=by
  unfold JM.groupI
  rw [List.length_map,List.length_range]
theorem tot_ok {ps:List JM.Pt}{x:Pu.Deck}(hx:x.length≤1000) (h:JM.metM ps x=true):∀ k∈JM.tsOf ps,JM.okO (JM.overM k x)=true:=fun k hk=>by
  by_cases x0:x.length=0
  · rw [List.length_eq_zero_iff.mp x0]
    exact (by decide +kernel:JM.okO (some 0)=true)
  · have:=fit_of hx h k hk (x.length-1) (by omega) ((JM.ksOf ps).length+1) (by omega) (by omega)
    rw [JM.begin_top (by omega),List.drop_zero,show x.length-1+1=x.length by omega,List.take_length] at this
    exact this
theorem ok_mean {f:Addr}{fd:FuncData}(F:Fun K "meant_paper" "meant_paper" sMean f fd) (T:Txt K w mg t) (cEnd:Cal P w K mg base "ended_levels" 4 ["cards", "keys"] (spEnd t)) (cKs:Cal P w K mg base "keys_of" 1 ["parts"] (spSel t JM.isK)) (cTs:Cal P w K mg base "totals_of" 1 ["parts"] (spSel t JM.isT)) (cMet:Cal P w K mg base "can_be_met" 5 ["parts", "cards", "levels"] (spMet t))
    (cGrL:Cal P w K mg base "group_lines" 6 ["parts", "cards", "levels", "end", "signs"] (spGrL t u)) (cHasL:Cal P w K mg base "has_line" 1 ["listing", "at", "levels"] spHasL) (cLst:Cal P w K mg base "listing_of" 1 ["parts"] (spLst t)) (cCdL:Cal P w K mg base "card_line" 4 ["parts", "card", "signs"] (spCdL t u)) (cTtL:Cal P w K mg base "total_line" 5 ["parts", "level", "cards", "signs"] (spTtL t u)) :
    FnOk P w K mg base CX0 7 f fd ["parts", "cards", "signs"] (spMean t u):=by
  refine F.ok scMean (fun vs H Q E h=>?_) (fun cdv A outer s H vs Q E hr h=>?_)
  · obtain ⟨c,a,p,ini,y,x,sg,lg,rfl,_⟩:=h
    rfl
  · obtain ⟨c,a,p,ini,y,x,sg,lg,rfl,hp,y7,y10,hD,hg,kN,kY⟩:=h
    have big:(10000:Nat)<sizeLine:=by decide
    refine ⟨_,pss_cons (ps_set (i:=3) scMean.nd rfl (Or.inl rfl) (pe_cal cEnd hr (by decide) rfl (pa_cons (pv 1) (pa_cons (pe_cal cKs hr (by decide) rfl (pa_cons (pv 0) pa_nil)) pa_nil))))
      (pss_cons (ps_if (pt_not (pt_val (pe_cal cMet hr (by decide) rfl (pa_cons (pv 0) (pa_cons (pv 1) (pa_cons (pv 3) pa_nil)))))) (pss_one (ps_ret pe_non)) pss_nil)
      (pss_cons (ps_set (i:=4) scMean.nd rfl (Or.inl rfl) (pe_lst pa_nil))
      (pss_cons (ps_for PassesOwn.never rfl (pi_enum rfl T.zEnum (pa_cons (pv 1) pa_nil)) (pg_tup rfl (pgs_cons (pg_name (i:=5) scMean.nd rfl (Or.inl rfl)) (pgs_cons (pg_name (i:=6) scMean.nd rfl (Or.inl rfl)) pgs_nil)))
        (pss_cons (ps_expr (pe_bm PySem.F.plainAttrs_list PySem.F.slot_list_extend PySem.F.type_list_extend mt_extend (pv 4) (pa_cons (pe_cal cGrL hr (by decide) rfl (pa_cons (pv 0) (pa_cons (pv 1) (pa_cons (pv 3) (pa_cons (pv 5) (pa_cons (pv 2) pa_nil)))))) pa_nil)))
        (pss_one (ps_if (pt_val (pe_cal cHasL hr (by decide) rfl (pa_cons (pe_cal cLst hr (by decide) rfl (pa_cons (pv 0) pa_nil)) (pa_cons (pv 5) (pa_cons (pv 3) pa_nil))))) (pss_one (ps_expr (pe_bm PySem.F.plainAttrs_list PySem.F.slot_list_append PySem.F.type_list_append mt_append (pv 4) (pa_cons (pe_cal cCdL hr (by decide) rfl (pa_cons (pv 0) (pa_cons (pv 6) (pa_cons (pv 2) pa_nil)))) pa_nil)))) pss_nil))))
      (pss_cons (ps_if (pt_truth (pv 1) (fun _=>rfl)) (pss_one (ps_expr (pe_bm PySem.F.plainAttrs_list PySem.F.slot_list_extend PySem.F.type_list_extend mt_extend (pv 4) (pa_cons (pe_cal cGrL hr (by decide) rfl (pa_cons (pv 0) (pa_cons (pv 1) (pa_cons (pv 3) (pa_cons (pe_callB call_len_seq rfl T.zLen PySem.boot_len (pa_cons (pv 1) pa_nil)) (pa_cons (pv 2) pa_nil)))))) pa_nil)))) pss_nil)
      (pss_cons (ps_if (pt_truth (pe_cal cTs hr (by decide) rfl (pa_cons (pv 0) pa_nil)) (fun _=>rfl)) (pss_one (ps_expr (pe_bm PySem.F.plainAttrs_list PySem.F.slot_list_append PySem.F.type_list_append mt_append (pv 4) (pa_cons (pe_cal cTtL hr (by decide) rfl (pa_cons (pv 0) (pa_cons (pe_op op_add (pe_callB call_len_seq rfl T.zLen PySem.boot_len (pa_cons (pe_cal cKs hr (by decide) rfl (pa_cons (pv 0) pa_nil)) pa_nil)) pe_int) (pa_cons (pv 1) (pa_cons (pv 2) pa_nil))))) pa_nil)))) pss_nil)
      (pss_one (ps_ret (pv 4)))))))),?_⟩
    obtain ⟨⟨vs,hvs,pr⟩,cok,lx⟩:=id hD
    have lv:=paired_len pr
    have lastE:JM.lastK (ini++[y])=y.1:=by
      unfold JM.lastK
      rw [List.getLast?_concat]
      rfl
    generalize eP:ini++[y]=ps at hp kN kY lastE
    have key64:∀ k∈JM.ksOf ps,JM.PtOk k∧JM.isK k=true:=fun k hk=>⟨hp.ok _ (List.mem_filter.mp hk).1,(List.mem_filter.mp hk).2⟩
    have hk3:=hp.keys
    refine ⟨_,rfl,_,rfl,c,ps,rfl,hp.each,hp.ok,hp.len,fun H1 qk s1 nk eK=>?_⟩
    refine ⟨a,qk,x,JM.ksOf ps,rfl,(hD.same s1).1,lx,⟨eK,key64,by omega⟩,fun H2 l s2 nl hl=>?_⟩
    have s12:=s1.trans s2
    have hp2:=hp.same s12
    refine ⟨_,rfl,_,rfl,_,rfl,c,a,l,x,ps,rfl,hp2.each,hp2.ok,hp2.len,hp2.room,hk3,hD.same s12,hl,fun H3 s3=>⟨_,rfl,?_⟩⟩
    have s13:=s12.trans s3
    cases qm:JM.metM ps x with
    | false=>exact iteT (kN qm H3 s13)
    | true=>
    refine iteF ?_
    have hP:PapAt t u H3 c a l p ps x sg lg:=⟨hp.same s13,hD.same s13,s3 _ _ hl,hg.same s13,qm⟩
    have hvs3:=s13 _ _ hvs
    have cd3:∀ (i:Nat) (v:V) (z:Pu.Card),vs[i]?=some v→x[i]?=some z→∃ b,v=.ref b∧CdAt H3 b z:=fun i v z h1 h2=>by
      obtain ⟨b,e,n,h⟩:=paired_at pr h1 h2
      exact ⟨b,e,CdAt.same s13 h⟩
    have kY3:=kY qm
    have back:∀ q,H3 q=none→H q=none:=fun q=>s13.free
    have kY:∀ H' q,Same H3 H'→H3 q=none→EachV H' q (RowL q) (JM.linesI ps lg sg x)→Q (.ref q) H':=fun H' q sm n e=>kY3 H' q (s13.trans sm) (back q n) e
    clear kN kY3 hp2 eK hl
    refine ⟨Nat.zero_le _,fun D nD=>?_⟩
    have s4:=same_upd (o:=.lst []) nD
    have hD4:upd H3 D (.lst []) D=some (.lst []):=upd_same
    generalize upd H3 D (.lst [])=H4 at s4 hD4
    refine ⟨_,rfl,a,_,rfl,SqL.of (s4 _ _ hvs3),for_enum (K:=K) (a:=a) (xs:=vs) (fun i σ H'=>∃ (z5 z6:Option V),σ=[some (.ref c),some (.ref a),some (.ref p),some (.ref l),some (.ref D),z5,z6]∧Same H3 H'∧EachV H' D (RowL D) ((List.range i).flatMap (JM.atLines ps lg sg x)))
      ⟨none,none,rfl,s4,⟨[],hD4,.nil⟩⟩ (fun i σ H' _ ⟨_,_,_,s,_⟩=>SqL.of (s _ _ hvs3)) ?_ ?_⟩
    · rintro i v σ H5 Tp hi ⟨z5,z6,rfl,s5,eR⟩ hTp
      have hil:i<x.length:=by rw [←lv]; exact (List.getElem?_eq_some_iff.mp hi).1
      obtain ⟨cl,rfl,hc⟩:=cd3 i v _ hi (List.getElem?_eq_getElem hil)
      have c80:=(cok _ (List.getElem_mem hil)).1
      have s6:Same H5 (upd H5 Tp (.tup [.int (i:Nat),V.ref cl])):=same_upd hTp
      have ht6:upd H5 Tp (.tup [.int (i:Nat),V.ref cl]) Tp=some (.tup [.int (i:Nat),V.ref cl]):=upd_same
      generalize upd H5 Tp (.tup [.int (i:Nat),V.ref cl])=H6 at ht6 s6
      have s36:=s5.trans s6
      have eR6:=rows_same s6 eR
      obtain ⟨rv,hrv,rpr⟩:=id eR6
      have rl:=paired_len rpr
      have rl2:=at_len ps lg sg x hk3 i
      have hP6:=hP.same s36
      have el:=JM.ends_le (JM.ksOf ps) x i
      have me:mostM ps x i=JM.endsM (JM.ksOf ps) x i:=by unfold mostM; rw [if_pos hil]
      refine ⟨Tp,_,rfl,SqT.of ht6,rfl,_,_,rfl,_,_,rfl,rfl,?_⟩
      refine ⟨_,rfl,.inl ⟨rfl,_,SqL.of hrv⟩,_,rfl,_,rfl,_,rfl,_,rfl,_,rfl,c,a,l,p,ps,x,sg,lg,i,rfl,hP6,by omega,by omega,fun H7 q s7 nq eG nw=>?_⟩
      rw [me] at eG
      obtain ⟨gv,hgv,gpr⟩:=id eG
      have gl:=paired_len gpr
      rw [grp_len] at gl
      refine ⟨D,q,_,_,rfl,rfl,s7 _ _ hrv,hgv,by omega,?_⟩
      have eR8:=rows_more (s7 _ _ hrv) hgv (rows_same s7 eR6) eG hrv (nw _ hgv)
      have s38:Same H3 (upd H7 D (.lst (rv++gv))):=fun b o z=>by
        rw [upd_ne (ne_of_none z nD)]
        exact s7 _ _ (s36 _ _ z)
      have hD8:upd H7 D (.lst (rv++gv)) D=some (.lst (rv++gv)):=upd_same
      generalize upd H7 D (.lst (rv++gv))=H8 at eR8 s38 hD8
      have hP8:=hP.same s38
      have nx:=at_next (JM.atLines ps lg sg x) i
      have ea:JM.atLines ps lg sg x i=JM.groupI ps lg sg x (JM.endsM (JM.ksOf ps) x i) i++if JM.hasI y.1 i (JM.endsM (JM.ksOf ps) x i)=true then [JM.cardI ps lg sg x[i]] else []:=by
        unfold JM.atLines
        rw [lastE,List.getD_eq_getElem?_getD,List.getElem?_eq_getElem hil]
        rfl
      refine ⟨_,rfl,c,ini,y,rfl,by rw [eP]; exact hP8.pt.each,_,rfl,_,rfl,l,JM.ksOf ps,x,y.1,i,rfl,y7,y10,hP8.lv,hil,_,rfl,?_⟩
      cases qh:JM.hasI y.1 i (JM.endsM (JM.ksOf ps) x i) with
      | false=>
        rw [qh,if_neg Bool.false_ne_true,List.append_nil] at ea
        exact iteF ⟨_,_,rfl,s38,by rw [nx,ea]; exact eR8⟩
      | true=>
        rw [qh,if_pos rfl] at ea
        refine iteT ⟨_,rfl,.inl ⟨rfl,_,SqL.of hD8⟩,_,rfl,_,rfl,_,rfl,c,cl,p,ps,x[i],sg,lg,rfl,hP8.pt,CdAt.same s38 hc,c80,hP8.sg,fun H9 q9 s9 n9 h9=>?_⟩
        have nq9:q9≠D:=fun z=>by rw [z,hD8] at n9; cases n9
        refine ⟨D,_,_,rfl,rfl,s9 _ _ hD8,by rw [List.length_append]; omega,_,_,rfl,fun b o z=>?_,?_⟩
        · rw [upd_ne (ne_of_none z nD)]
          exact s9 _ _ (s38 _ _ z)
        · rw [nx,ea,←List.append_assoc]
          exact rows_push (s9 _ _ hD8) (rows_same s9 eR8) h9 nq9
    · rintro σ H5 ⟨z5,z6,rfl,s5,eR⟩
      rw [lv] at eR
      have rl2:=at_len ps lg sg x hk3 x.length
      unfold JM.linesI at kY
      rw [←List.append_assoc] at kY
      generalize (List.range x.length).flatMap (JM.atLines ps lg sg x)=L0 at eR rl2 kY
      dsimp only
      refine sq ?_
      refine if_join (fun σ' H'=>σ'=[some (.ref c),some (.ref a),some (.ref p),some (.ref l),some (.ref D),z5,z6]∧Same H3 H'∧EachV H' D (RowL D) (L0++if x.length=0 then [] else JM.groupI ps lg sg x (JM.ksOf ps).length x.length)) ?_ (fun kk=>?_)
      · rintro σ' H6 ⟨rfl,s6,eR⟩
        have rl3:(L0++if x.length=0 then [] else JM.groupI ps lg sg x (JM.ksOf ps).length x.length).length≤4 * x.length+3:=by
          rw [List.length_append]
          split
          · rw [List.length_nil]; omega
          · rw [grp_len]; omega
        generalize (L0++if x.length=0 then [] else JM.groupI ps lg sg x (JM.ksOf ps).length x.length)=L1 at eR rl3 kY
        have hP6:=hP.same s6
        dsimp only
        refine sq ?_
        refine if_join (fun σ' H'=>∃ z5 z6,σ'=[some (.ref c),some (.ref a),some (.ref p),some (.ref l),some (.ref D),z5,z6]∧Same H3 H'∧EachV H' D (RowL D) (L1++if (JM.tsOf ps).length=0 then [] else [JM.totI (JM.tsOf ps) x JM.blankI])) ?_ (fun kk=>?_)
        · rintro σ' H7 ⟨z5,z6,rfl,s7,eR⟩
          exact ⟨_,rfl,kY H7 D s7 nD eR⟩
        · refine ⟨_,rfl,c,ps,rfl,hP6.pt.each,hP6.pt.ok,hP6.pt.len,fun H7 qt s7 nt eT=>?_⟩
          obtain ⟨bs,b1,b2,b3⟩:=eT.ex
          have b2:bs.length=(JM.tsOf ps).length:=b2
          refine ⟨_,.inl ⟨_,SqL.of b1,rfl⟩,ite2 (fun g=>?_) (fun g=>?_)⟩
          · have tl:(JM.tsOf ps).length≠0:=fun z=>by
              rw [List.length_eq_zero_iff.mp (b2.trans z)] at g
              cases g
            have s37:=s6.trans s7
            have hP7:=hP.same s37
            have eR7:=rows_same s7 eR
            obtain ⟨rv,hrv,rpr⟩:=id eR7
            have rl:=paired_len rpr
            refine ⟨_,rfl,.inl ⟨rfl,_,SqL.of hrv⟩,_,rfl,_,rfl,c,ps,rfl,hP7.pt.each,hP7.pt.ok,hP7.pt.len,fun H8 qk8 s8 nk8 eK=>?_⟩
            obtain ⟨kbs,kb1,kb2,kb3⟩:=eK.ex
            have kb2:kbs.length=(JM.ksOf ps).length:=kb2
            have hP8:=hP7.same s8
            refine ⟨qk8,_,rfl,.inl (SqL.of kb1),_,_,rfl,rfl,_,rfl,_,rfl,c,a,p,ps,x,(JM.ksOf ps).length+1,sg,lg,by rw [List.length_map,kb2]; rfl,hP8.pt,hP8.dk,by omega,by omega,fun _=>rfl,tot_ok lx qm,hP8.sg,fun H9 q9 s9 n9 h9=>?_⟩
            have te:JM.totalI ps lg sg ((JM.ksOf ps).length+1) x=JM.totI (JM.tsOf ps) x JM.blankI:=by
              unfold JM.totalI
              rw [Nat.sub_self,List.take_zero]
              rfl
            rw [te] at h9
            have hD8:=s8 _ _ hrv
            have nq9:q9≠D:=fun z=>by rw [z,hD8] at n9; cases n9
            refine ⟨D,_,_,rfl,rfl,s9 _ _ hD8,by omega,kk _ _ ⟨_,_,rfl,fun b o z=>?_,?_⟩⟩
            · rw [upd_ne (ne_of_none z nD)]
              exact s9 _ _ (s8 _ _ (s37 _ _ z))
            · rw [if_neg tl]
              exact rows_push (s9 _ _ hD8) (rows_same (s8.trans s9) eR7) h9 nq9
          · have tl:(JM.tsOf ps).length=0:=by
              rcases bs with _ | ⟨b,bs⟩
              · exact b2.symm
              · exact absurd rfl g
            refine kk _ _ ⟨_,_,rfl,s6.trans s7,?_⟩
            rw [if_pos tl,List.append_nil]
            exact rows_same s7 eR
      · refine ⟨_,rfl,_,.inl ⟨_,SqL.of (s5 _ _ hvs3),rfl⟩,ite2 (fun g=>?_) (fun g=>?_)⟩
        · have x1:x.length≠0:=fun z=>by
            rw [List.length_eq_zero_iff.mp (lv.trans z)] at g
            cases g
          have hP5:=hP.same s5
          obtain ⟨rv,hrv,rpr⟩:=id eR
          have rl:=paired_len rpr
          have me:mostM ps x x.length=(JM.ksOf ps).length:=by unfold mostM; rw [if_neg (Nat.lt_irrefl _)]
          refine ⟨_,rfl,.inl ⟨rfl,_,SqL.of hrv⟩,_,rfl,_,rfl,_,rfl,_,rfl,a,_,rfl,.inl (SqL.of (s5 _ _ hvs3)),_,rfl,c,a,l,p,ps,x,sg,lg,x.length,by rw [lv]; rfl,hP5,by omega,Nat.le_refl _,fun H7 q s7 nq eG nw=>?_⟩
          rw [me] at eG
          obtain ⟨gv,hgv,gpr⟩:=id eG
          have gl:=paired_len gpr
          rw [grp_len] at gl
          refine ⟨D,q,_,_,rfl,rfl,s7 _ _ hrv,hgv,by omega,kk _ _ ⟨rfl,fun b o z=>?_,?_⟩⟩
          · rw [upd_ne (ne_of_none z nD)]
            exact s7 _ _ (s5 _ _ z)
          · rw [if_neg x1]
            exact rows_more (s7 _ _ hrv) hgv (rows_same s7 eR) eG hrv (nw _ hgv)
        · have x0:x.length=0:=by
            rw [←lv]
            rcases vs with _ | ⟨b,bs⟩
            · rfl
            · exact absurd rfl g
          refine kk _ _ ⟨rfl,s5,?_⟩
          rw [if_pos x0,List.append_nil]
          exact eR
end
section
variable {P:Program}{w:World}{K:PySem.W.Frag}{mg:Str→Option Value}{base:Heap}{t:Adr}{u:Adr2}{Pt:Addr}
theorem fields_len2 {lg:List Int}{s:Int}{x:Pu.Card}:∀ (l:List JM.Pt) (b:List Int),(∀ k∈l,FldOk k)→b.length=132→(JM.fieldsOn lg s x l b).length=132
  | [],b,_,h=>h
  | k::l,b,hl,h=>by
    obtain ⟨ok,h236,r80,r132⟩:=hl k (by simp)
    show (JM.fieldsOn lg s x l (JM.onI b (JM.n2 k) (JM.showM lg s x k))).length=132
    refine fields_len2 l _ (fun y hy=>hl y (by simp [hy])) ?_
    have:(JM.showM lg s x k).length≤JM.n1 k:=by
      unfold JM.showM Pu.fieldOf
      rw [List.length_map,List.length_take]
      omega
    rw [on_len (by omega)]
    exact h
theorem lines_len {ps:List JM.Pt}{lg:List Int}{s:Int}{x:Pu.Deck}(key:∀ k∈JM.ksOf ps,FldOk k) (seen:∀ k∈JM.ssOf ps,FldOk k) (tot:∀ k∈JM.tsOf ps,TotOk k):∀ r∈JM.linesI ps lg s x,r.length=132:=by
  have tl:∀ m i,∀ r∈JM.groupI ps lg s x m i,r.length=132:=fun m i r hr=>by
    obtain ⟨l,_,rfl⟩:=List.mem_map.mp hr
    exact tot_len _ _ tot (fields_len2 _ _ (fun k hk=>key k (List.mem_of_mem_take hk)) blank_len)
  intro r hr
  unfold JM.linesI at hr
  rcases List.mem_append.mp hr with z | z
  · obtain ⟨i,_,z⟩:=List.mem_flatMap.mp z
    rcases List.mem_append.mp z with z | z
    · exact tl _ _ r z
    · split at z
      · rw [List.mem_singleton.mp z]
        exact fields_len2 _ _ seen blank_len
      · cases z
  · rcases List.mem_append.mp z with z | z
    · split at z
      · cases z
      · exact tl _ _ r z
    · split at z
      · cases z
      · rw [List.mem_singleton.mp z]
        exact tot_len _ _ tot blank_len
theorem lines_many {ps:List JM.Pt}{lg:List Int}{s:Int}{x:Pu.Deck}(hk:(JM.ksOf ps).length≤3) (hx:x.length≤1000):(JM.linesI ps lg s x).length≤6000:=by
  have:=at_len ps lg s x hk x.length
  unfold JM.linesI
  rw [List.length_append,List.length_append]
  have a:(if x.length=0 then [] else JM.groupI ps lg s x (JM.ksOf ps).length x.length).length≤3:=by
    split
    · exact Nat.zero_le _
    · rw [grp_len]; omega
  have b:(if (JM.tsOf ps).length=0 then [] else [JM.totI (JM.tsOf ps) x JM.blankI]).length≤1:=by
    split
    · exact Nat.zero_le _
    · exact Nat.le_refl _
  omega
theorem PsAt.off {H H':Hp}{c:Addr}{ps:List JM.Pt}(hP:H Pt=some (.tbl #[])) (o:OffD Pt H H') (h:PsAt t H c ps):PsAt t H' c ps:=by
  obtain ⟨as,h1,h2,h3⟩:=h.each.ex
  refine ⟨⟨as,o _ _ (ne_of h1 hP (by intro z; cases z)) h1,h2,fun j a x ha hx=>?_⟩,h.ok,h.len,h.room,h.keys⟩
  obtain ⟨dx,d,g1,g2⟩:=h3 j a x ha hx
  exact ⟨dx,d,o _ _ (ne_of g1 hP (by intro z; cases z)) g1,o _ _ (ne_of g2 hP (by intro z; cases z)) g2⟩
def spPap (K:PySem.W.Frag) (Pt:Addr):Sp:=fun vs H Q _=>∃ (x:Int) (a b c:Addr) (ns lg ds:List Int),vs=[.int x,.ref a,.ref b,.ref c]∧SqL K H a (ns.map V.int)∧ns.length≤65536∧(∀ n∈ns,0≤n∧n≤255)∧SqL K H b (lg.map V.int)∧(∀ n∈lg,0≤n∧n≤255)∧SqL K H c (ds.map V.int)∧ds.length≤1000∧H Pt=some (.tbl #[])∧
  ∀ (H':Hp) (p:Addr),H' p=some (.lst ((PyWrpung.paper x ns lg ds).map V.int))→Q (.ref p) H'
theorem scPap:FnScope ["strange", "text", "legend", "deck", "report", "signs", "cards", "lines"] ["strange", "text", "legend", "deck"] (defScope sPap):=⟨rfl,rfl,rfl,by decide +kernel,rfl,by decide +kernel,by decide +kernel⟩
theorem ok_pap {f:Addr}{fd:FuncData}(F:Fun K "paper" "paper" sPap f fd) (T:Txt K w mg t) (T2:Tx2 K w mg u) (T3:Tx3 mg) (cReport:Cal P w K mg base "read_report" 8 ["text"] (spReport K t)) (cSigns:Cal P w K mg base "read_signs" 6 ["strange", "legend"] (spSigns K u)) (cRdD:Cal P w K mg base "read_deck" 2 ["told"] (spRdD K)) (cMio:Cal P w K mg base "meant_in_order" 9 ["parts", "cards"] (spMio t Pt))
    (cMean:Cal P w K mg base "meant_paper" 7 ["parts", "cards", "signs"] (spMean t u)) (cJoin:Cal P w K mg base "join_rows" 1 ["rows"] spJoin):FnOk P w K mg base CX0 10 f fd ["strange", "text", "legend", "deck"] (spPap K Pt):=by
  refine F.ok scPap (fun vs H Q E h=>?_) (fun cdv A outer s H vs Q E hr h=>?_)
  · obtain ⟨x,a,b,c,ns,lg,ds,rfl,_⟩:=h
    rfl
  · obtain ⟨x,a,b,c,ns,lg,ds,rfl,hS,hl,hn,hL,hlg,hC,hd,hP,k⟩:=h
    rw [←text_back ns hn] at hS
    have jd:=JM.paper_is _ ns lg ds x rfl hlg hd
    have len:(ReportsNeutral.text ns).length=ns.length:=by unfold ReportsNeutral.text; rw [List.length_map]
    generalize ReportsNeutral.text ns=bb at hS jd len
    rw [jd] at k
    unfold JM.paperM at k
    have big:(1000000:Nat)<sizeLine:=by decide
    refine ⟨_,pss_cons (ps_set (i:=4) scPap.nd rfl (Or.inl rfl) (pe_cal cReport hr (by decide) rfl (pa_cons (pv 1) pa_nil)))
      (pss_cons (ps_if (pt_truth (pe_fld (pv 4) rfl) (fun _=>rfl)) (pss_one (ps_ret (pe_fld (pv 4) rfl))) pss_nil)
      (pss_cons (ps_set (i:=5) scPap.nd rfl (Or.inl rfl) (pe_cal cSigns hr (by decide) rfl (pa_cons (pv 0) (pa_cons (pv 2) pa_nil))))
      (pss_cons (ps_if (pt_cmpR op_isN (pv 5) pe_non (nomark _)) (pss_one (ps_ret (pe_lst (pa_cons (pe_k T2.kNoS rfl) pa_nil)))) pss_nil)
      (pss_cons (ps_set (i:=6) scPap.nd rfl (Or.inl rfl) (pe_cal cRdD hr (by decide) rfl (pa_cons (pv 3) pa_nil)))
      (pss_cons (ps_if (pt_cmpR op_isN (pv 6) pe_non (nomark _)) (pss_one (ps_ret (pe_lst (pa_cons (pe_k T3.kNoD rfl) pa_nil)))) pss_nil)
      (pss_cons (ps_set (i:=7) scPap.nd rfl (Or.inl rfl) (pe_cal cMean hr (by decide) rfl (pa_cons (pe_fld (pv 4) rfl) (pa_cons (pe_cal cMio hr (by decide) rfl (pa_cons (pe_fld (pv 4) rfl) (pa_cons (pv 6) pa_nil))) (pa_cons (pv 5) pa_nil)))))
      (pss_cons (ps_if (pt_cmpR op_isN (pv 7) pe_non (nomark _)) (pss_one (ps_ret (pe_lst (pa_cons (pe_k T2.kNot rfl) pa_nil)))) pss_nil)
      (pss_one (ps_ret (pe_op op_cat (pe_lst (pa_cons (pe_callB call_len_seq rfl T.zLen PySem.boot_len (pa_cons (pv 7) pa_nil)) pa_nil)) (pe_cal cJoin hr (by decide) rfl (pa_cons (pv 7) pa_nil)))))))))))),?_⟩
    refine ⟨_,rfl,a,bb,rfl,hS,by omega,fun H1 p s1 ⟨dx,pp,r,h1,h2,h3⟩=>?_⟩
    refine ⟨_,rfl,p,t.cT,dx,_,_,rfl,h1,T.clT,T.nTr,(lk_rp _ _).1,_,.inl ⟨_,SqL.of h2,rfl⟩,?_⟩
    by_cases rf:JM.refM bb=[]
    · rw [if_pos rf] at k
      rw [rf]
      obtain ⟨ini,y,hp,y7,y10,hi⟩:=JM.last_is rf
      have lens:=JM.lens rf
      have hPs:PsAt t H1 pp (JM.psOf bb):=⟨h3 rf,JM.ps_okM bb,ps_len bb,JM.ref_room rf,lens.2.1⟩
      refine iteF ⟨_,rfl,_,rfl,b,x,lg,rfl,s1.seq hL,hlg,fun no H2 s2=>?_,fun yes H2 q s2 sg=>?_⟩
      · have no:¬(JM.legM lg=true∧0≤x∧x≤255):=fun z=>by
          unfold signsOk at no
          rw [z.1,decide_eq_true z.2.1,decide_eq_true z.2.2] at no
          cases no
        rw [if_neg no] at k
        exact ⟨_,rfl,rfl,_,rfl,iteT ⟨(by show 1≤sizeLine; decide),fun D hD=>k _ D upd_same⟩⟩
      · have yes:JM.legM lg=true∧0≤x∧x≤255:=by
          unfold signsOk at yes
          rw [Bool.and_eq_true,Bool.and_eq_true,decide_eq_true_eq,decide_eq_true_eq] at yes
          exact yes
        have h64:lg.length=64:=by
          have:=yes.1
          unfold JM.legM at this
          rw [Bool.and_eq_true,decide_eq_true_eq] at this
          exact this.1
        rw [if_pos yes] at k
        have s12:=s1.trans s2
        refine ⟨_,rfl,rfl,_,rfl,iteF ⟨_,rfl,c,ds,rfl,s12.seq hC,hd,fun no H3 s3=>?_,fun d H3 q3 yes s3 nq eD=>?_⟩⟩
        · rw [no] at k
          exact ⟨_,rfl,rfl,_,rfl,iteT ⟨(by show 1≤sizeLine; decide),fun D hD=>k _ D upd_same⟩⟩
        · rw [yes] at k
          dsimp only at k
          have dok:=JM.deck_ok _ _ _ yes
          have dl:=JM.deck_len _ _ _ yes
          have s23:=s2.trans s3
          have hPs3:=hPs.same s23
          have sg3:=sg.same s3
          have hP3:=(s12.trans s3) _ _ hP
          refine ⟨_,rfl,rfl,_,rfl,iteF ⟨_,rfl,p,t.cT,dx,_,_,rfl,s23 _ _ h1,T.clT,T.nTp,(lk_rp _ _).2,_,rfl,p,t.cT,dx,_,_,rfl,s23 _ _ h1,T.clT,T.nTp,(lk_rp _ _).2,_,rfl,pp,q3,JM.psOf bb,d,rfl,hPs3.each,hPs3.ok,hPs3.len,eD,fun x hx=>dok x hx,by omega,hP3,fun H4 D o4 n4 e4=>?_⟩⟩
          have cok:∀ x∈JM.ordM (JM.psOf bb) d,CdOk x:=fun x hx=>dok x (JM.ordM_mem hx)
          have lo:(JM.ordM (JM.psOf bb) d).length≤d.length:=by
            unfold JM.ordM
            rw [JM.isort_length]
            exact List.length_filter_le _ _
          have hPs4:=hPs3.off hP3 o4
          have sg4:SgOk u H4 q x lg:=by
            obtain ⟨dx,d,g1,g2⟩:=sg3
            exact ⟨⟨dx,d,o4 _ _ (ne_of g1 hP3 (by intro z; cases z)) g1,o4 _ _ (ne_of g2 hP3 (by intro z; cases z)) g2⟩,h64⟩
          have lm:=lines_many (ps:=JM.psOf bb) (lg:=lg) (s:=x) lens.2.1 (x:=JM.ordM (JM.psOf bb) d) (by omega)
          have ll:=lines_len (lg:=lg) (s:=x) (x:=JM.ordM (JM.psOf bb) d) hPs4.key hPs4.seen hPs4.tot
          generalize JM.ordM (JM.psOf bb) d=X at k e4 cok lo lm ll
          refine ⟨_,rfl,pp,D,q,ini,y,X,x,lg,rfl,hp ▸ hPs4,y7,y10,⟨e4,cok,by omega⟩,sg4,?_,?_⟩
          · rw [←hp]
            intro mt H5 s5
            rw [mt,if_neg Bool.false_ne_true] at k
            exact ⟨_,rfl,rfl,_,rfl,iteT ⟨(by show 1≤sizeLine; decide),fun D hD=>k _ D upd_same⟩⟩
          · rw [←hp]
            intro mt H5 q5 s5 n5 e5
            rw [mt,if_pos rfl] at k
            generalize JM.linesI (JM.psOf bb) lg x X=L at k e5 lm ll
            obtain ⟨vs,hvs,pr⟩:=id e5
            have lv:=paired_len pr
            have fl:=flatN_len 132 L fun b hb=>Nat.le_of_eq (ll b hb)
            refine ⟨_,rfl,rfl,_,rfl,iteF ⟨_,rfl,q5,_,rfl,.inl (SqL.of hvs),(by show 1≤sizeLine; decide),fun r1 nr1=>?_⟩⟩
            have s6:=same_upd (o:=.lst [V.int (vs.length:Int)]) nr1
            refine ⟨_,rfl,q5,L,rfl,rows_same s6 e5,fun b hb=>Nat.le_of_eq (ll b hb),lm,fun H7 r2 s7 n7 e7=>?_⟩
            refine ⟨r1,r2,_,_,rfl,rfl,s7 _ _ upd_same,e7,by rw [List.length_map,List.length_singleton]; omega,fun r3 n6=>k _ r3 ?_⟩
            rw [upd_same,lv]
            rfl
    · rw [if_neg rf] at k
      have em:((JM.refM bb).map V.int).isEmpty=false:=by
        cases z:JM.refM bb with
        | nil=>exact absurd z rf
        | cons _ _=>rfl
      rw [em]
      exact iteT ⟨_,rfl,p,t.cT,dx,_,_,rfl,h1,T.clT,T.nTr,(lk_rp _ _).1,k _ _ h2⟩
def MethAt (K:PySem.W.Frag) (C:Addr) (m qual:Str) (st:Stmt):Prop:=∃ f fd,Fun K m qual st f fd∧Meth K C m f
theorem meth_at {m qual:Str}{st:Stmt}{C f:Addr}{oc:Value}{od an:Option Addr}{osl:Array (Option Value)}{kV doc pm cdv ct:Value}(a:PySem.W.findIn K (.ref C) m=some (some (.ref f))) (i:PySem.W.isFn K (.ref f)=true)
    (l:K.lookup f=some ⟨oc,od,.func (PySem.W.fnOf m qual (defArgs st) (defBody st) (defScope st) .none kV doc pm an cdv ct),osl⟩) (c:PySem.W.codeIn K cdv qual=true) (k:PySem.W.keepIn K (.ref f)=true):MethAt K C m qual st:=
  ⟨f,_,fun_mk l c k,⟨a,i,k⟩⟩
theorem MethAt.cal {m qual:Str}{st:Stmt}{C:Addr}{k:Nat}{ps:List Str}{sp:Sp}(d:MethAt K C m qual st) (ok:∀ f fd,Fun K m qual st f fd→FnOk P w K mg base CX0 k f fd ps sp)
    (h:∀ (kV doc pm:Value) (an:Option Addr) (cdv ct:Value) (us:List Value),us.length=ps.length→bindArgs (PySem.W.fnOf m qual (defArgs st) (defBody st) (defScope st) .none kV doc pm an cdv ct) ⟨us,[]⟩=pure (ps.zip us)):CalM P w K mg base C m k ps sp:=by
  obtain ⟨f,fd,F,M⟩:=d
  exact ⟨f,fd,ok f fd F,M,F.binds h⟩
theorem figs_k {h:Heap}{p:Addr}{n:Nat}{t0 t1 t2 t3 t4 t5 t6 t7 t8 t9 u0 u1 u2 u3 u4 u5 u6 u7 u8 u9:Tok}(X:K.In h) (G:h.Ns mainGlobals mg) (a:PySem.W.nsIn K mainGlobals "FIGURES" = some (some (.ref p)))
    (l:K.lookup p=some ⟨.type "dict",none,.dict #[⟨4,.int 4 t0,.int 0 u0⟩,⟨8,.int 8 t1,.int 1 u1⟩,⟨16,.int 16 t2,.int 2 u2⟩,⟨32,.int 32 t3,.int 3 u3⟩,⟨64,.int 64 t4,.int 4 u4⟩,⟨128,.int 128 t5,.int 5 u5⟩,⟨256,.int 256 t6,.int 6 u6⟩,⟨512,.int 512 t7,.int 7 u7⟩,⟨1024,.int 1024 t8,.int 8 u8⟩,⟨2048,.int 2048 t9,.int 9 u9⟩] n,#[]⟩)
    (z:(p==sysModules)=false):∃ p,mg "FIGURES" = some (.ref p)∧KDictI K p figTab:=
  ⟨p,PySem.W.mg_of X G a,⟨⟨_,_,n,l,⟨rfl,rfl,rfl⟩,rfl,.cons ⟨⟨t0,rfl⟩,(by decide +kernel:4=hashInt 4),⟨u0,rfl⟩⟩ (.cons ⟨⟨t1,rfl⟩,(by decide +kernel:8=hashInt 8),⟨u1,rfl⟩⟩ (.cons ⟨⟨t2,rfl⟩,(by decide +kernel:16=hashInt 16),⟨u2,rfl⟩⟩ (.cons ⟨⟨t3,rfl⟩,(by decide +kernel:32=hashInt 32),⟨u3,rfl⟩⟩ (.cons ⟨⟨t4,rfl⟩,(by decide +kernel:64=hashInt 64),⟨u4,rfl⟩⟩ (.cons ⟨⟨t5,rfl⟩,(by decide +kernel:128=hashInt 128),⟨u5,rfl⟩⟩ (.cons ⟨⟨t6,rfl⟩,(by decide +kernel:256=hashInt 256),⟨u6,rfl⟩⟩ (.cons ⟨⟨t7,rfl⟩,(by decide +kernel:512=hashInt 512),⟨u7,rfl⟩⟩ (.cons ⟨⟨t8,rfl⟩,(by decide +kernel:1024=hashInt 1024),⟨u8,rfl⟩⟩ (.cons ⟨⟨t9,rfl⟩,(by decide +kernel:2048=hashInt 2048),⟨u9,rfl⟩⟩ .nil)))))))))⟩,z⟩⟩
end
def DefAt (K:PySem.W.Frag) (mg:Str→Option Value) (x:Str) (st:Stmt):Prop:=∃ f fd,Fun K x x st f fd∧mg x=some (.ref f)
theorem def_at {K:PySem.W.Frag}{h:Heap}{mg:Str→Option Value}{x:Str}{st:Stmt}{f:Addr}{oc:Value}{od an:Option Addr}{osl:Array (Option Value)}{kV doc pm cdv ct:Value}(X:K.In h) (G:h.Ns mainGlobals mg)
    (a:PySem.W.nsIn K mainGlobals x=some (some (.ref f))) (l:K.lookup f=some ⟨oc,od,.func (PySem.W.fnOf x x (defArgs st) (defBody st) (defScope st) .none kV doc pm an cdv ct),osl⟩) (c:PySem.W.codeIn K cdv x=true) (k:PySem.W.keepIn K (.ref f)=true):DefAt K mg x st:=
  ⟨f,_,fun_mk l c k,PySem.W.mg_of X G a⟩
def ClsAt (K:PySem.W.Frag) (mg:Str→Option Value) (x qual:Str) (st:Stmt) (C:Addr):Prop:=∃ f fd,Fun K "__init__" qual st f fd∧Mk K C f∧mg x=some (.ref C)∧Cls K C
theorem cls_at {K:PySem.W.Frag}{h:Heap}{mg:Str→Option Value}{x qual:Str}{st:Stmt}{C f:Addr}{oc:Value}{od an:Option Addr}{osl:Array (Option Value)}{kV doc pm cdv ct:Value}(X:K.In h) (G:h.Ns mainGlobals mg)
    (aC:PySem.W.nsIn K mainGlobals x=some (some (.ref C))) (a:PySem.W.findIn K (.ref C) "__init__" = some (some (.ref f))) (i:PySem.W.isFn K (.ref f)=true) (l:K.lookup f=some ⟨oc,od,.func (PySem.W.fnOf "__init__" qual (defArgs st) (defBody st) (defScope st) .none kV doc pm an cdv ct),osl⟩) (c:PySem.W.codeIn K cdv qual=true) (k:PySem.W.keepIn K (.ref f)=true)
    (pg:PySem.W.plainGet K C Str.empty=true) (hd:PySem.W.hasDictIn K C=true) (po:PySem.W.plainOver K C=true) (sa:PySem.W.findIn K (.ref C) "__setattr__" = some (some (.builtin "object.__setattr__"))) (mk:PySem.W.makesIn K C=true) (kc:PySem.W.keepIn K (.ref C)=true):ClsAt K mg x qual st C:=
  ⟨f,_,fun_mk l c k,⟨mk,a,i,kc⟩,PySem.W.mg_of X G aC,⟨pg,hd,po,sa⟩⟩
theorem rel_abs {x:V}{u:Value}(h:absV u=some x):RelV x u:=by
  cases u <;> cases h <;> first | rfl | exact ⟨_,rfl⟩
theorem vals_abs:∀ {us:List Value}{xs:List V},us.map absV=xs.map some→Vals xs us
  | [],[],_=>.nil
  | [],_::_,h=>by cases h
  | _::_,[],h=>by cases h
  | u::us,x::xs,h=>by
    have h1:absV u=some x:=(List.cons.inj h).1
    exact .cons (rel_abs h1) (vals_abs (List.cons.inj h).2)
theorem tup_k {K:PySem.W.Frag}{p:Addr}{d:Option Addr}{its:Array Value}{n:Nat}{sl:Array (Option Value)}{xs:List V}(l:K.lookup p=some ⟨.type "tuple",d,.seq its n,sl⟩) (v:its.toList.map absV=xs.map some) (z:its.size≤1000):∀ H,SqT K H p xs:=fun H=>
  .inr ⟨_,its,n,l,rfl,rfl,Nat.le_trans z (by decide),vals_abs v⟩
theorem tup_at {K:PySem.W.Frag}{h:Heap}{mg:Str→Option Value}{x:Str}{p:Addr}{d:Option Addr}{its:Array Value}{n:Nat}{sl:Array (Option Value)}{xs:List V}(X:K.In h) (G:h.Ns mainGlobals mg)
    (a:PySem.W.nsIn K mainGlobals x=some (some (.ref p))) (l:K.lookup p=some ⟨.type "tuple",d,.seq its n,sl⟩) (v:its.toList.map absV=xs.map some) (z:its.size≤1000):∃ p,mg x=some (.ref p)∧∀ H,SqT K H p xs:=
  ⟨p,PySem.W.mg_of X G a,tup_k l v z⟩
theorem const_at {K:PySem.W.Frag}{h:Heap}{mg:Str→Option Value}{x:Str}{z:Int}{u:Tok}(X:K.In h) (G:h.Ns mainGlobals mg) (a:PySem.W.nsIn K mainGlobals x=some (some (.int z u))):∃ u,mg x=some (.int z u):=⟨u,PySem.W.mg_of X G a⟩
theorem sorts_k {K:PySem.W.Frag}{h:Heap}{mg:Str→Option Value}{w:World}{p:Addr}{n:Nat}{t1 t2 t3 t4 t5 t6 u1 u2 u3 u4 u5 u6:Tok}(X:K.In h) (G:h.Ns mainGlobals mg) (a:PySem.W.nsIn K mainGlobals "SORTS" = some (some (.ref p)))
    (l:K.lookup p=some ⟨.type "dict",none,.dict #[⟨hashStr w "where",.str "where" t1,.int 0 u1⟩,⟨hashStr w "key",.str "key" t2,.int 1 u2⟩,⟨hashStr w "sum",.str "sum" t3,.int 2 u3⟩,⟨hashStr w "count",.str "count" t4,.int 2 u4⟩,⟨hashStr w "see",.str "see" t5,.int 3 u5⟩,⟨hashStr w "list",.str "list" t6,.int 4 u6⟩] n,#[]⟩)
    (z:(p==sysModules)=false):∃ p,mg "SORTS" = some (.ref p)∧KDict K w p sorts:=
  ⟨p,PySem.W.mg_of X G a,⟨_,_,n,l,⟨rfl,rfl,rfl⟩,rfl,.cons ⟨⟨t1,rfl⟩,rfl,⟨u1,rfl⟩⟩ (.cons ⟨⟨t2,rfl⟩,rfl,⟨u2,rfl⟩⟩ (.cons ⟨⟨t3,rfl⟩,rfl,⟨u3,rfl⟩⟩ (.cons ⟨⟨t4,rfl⟩,rfl,⟨u4,rfl⟩⟩ (.cons ⟨⟨t5,rfl⟩,rfl,⟨u5,rfl⟩⟩ (.cons ⟨⟨t6,rfl⟩,rfl,⟨u6,rfl⟩⟩ .nil)))))⟩,by decide +kernel,z⟩
theorem str1:(("C" : Str)=⟨#[67]⟩)∧(("R" : Str)=⟨#[82]⟩)∧(("N" : Str)=⟨#[78]⟩)∧(("P" : Str)=⟨#[80]⟩)∧(("W" : Str)=⟨#[87]⟩):=by decide +kernel
theorem one_eq (c d:Nat):((⟨#[c]⟩:Str)==(⟨#[d]⟩:Str))=decide (c=d):=by
  apply Bool.eq_iff_iff.mpr
  rw [beq_iff_eq,decide_eq_true_eq]
  constructor
  · intro z
    have z2:#[c]=#[d]:=congrArg Str.cps z
    simpa using z2
  · intro z
    rw [z]
theorem ranges_k {K:PySem.W.Frag}{h:Heap}{mg:Str→Option Value}{w:World}{p p1 p2 p3 p4 p5:Addr}{n:Nat}{t1 t2 t3 t4 t5:Tok}(X:K.In h) (G:h.Ns mainGlobals mg) (a:PySem.W.nsIn K mainGlobals "RANGES" = some (some (.ref p)))
    (l:K.lookup p=some ⟨.type "dict",none,.dict #[⟨hashStr w "C",.str "C" t1,.ref p1⟩,⟨hashStr w "R",.str "R" t2,.ref p2⟩,⟨hashStr w "N",.str "N" t3,.ref p3⟩,⟨hashStr w "P",.str "P" t4,.ref p4⟩,⟨hashStr w "W",.str "W" t5,.ref p5⟩] n,#[]⟩)
    (z:(p==sysModules)=false) (s1:∀ H,SqT K H p1 [.int (0:Nat),.int (79:Nat)]) (s2:∀ H,SqT K H p2 [.int (0:Nat),.int (11:Nat)]) (s3:∀ H,SqT K H p3 [.int (1:Nat),.int (80:Nat)]) (s4:∀ H,SqT K H p4 [.int (0:Nat),.int (131:Nat)]) (s5:∀ H,SqT K H p5 [.int (2:Nat),.int (20:Nat)]) :
    ∃ p,mg "RANGES" = some (.ref p)∧∃ kvs,KDict K w p kvs∧∀ c,(match JM.rangeOf c with
    | some (lo,hi)=>∃ p,kvs.lookup (⟨#[c]⟩:Str)=some (.ref p)∧∀ H,SqT K H p [.int (lo:Nat),.int (hi:Nat)]
    | none=>kvs.lookup (⟨#[c]⟩:Str)=none):=by
  refine ⟨p,PySem.W.mg_of X G a,[(⟨#[67]⟩,.ref p1),(⟨#[82]⟩,.ref p2),(⟨#[78]⟩,.ref p3),(⟨#[80]⟩,.ref p4),(⟨#[87]⟩,.ref p5)],⟨⟨_,_,n,l,⟨rfl,rfl,rfl⟩,rfl,?_⟩,(show ([⟨#[67]⟩,⟨#[82]⟩,⟨#[78]⟩,⟨#[80]⟩,⟨#[87]⟩]:List Str).Nodup by decide +kernel),z⟩,fun c=>?_⟩
  · obtain ⟨e1,e2,e3,e4,e5⟩:=str1
    rw [←e1,←e2,←e3,←e4,←e5]
    exact .cons ⟨⟨t1,rfl⟩,rfl,rfl⟩ (.cons ⟨⟨t2,rfl⟩,rfl,rfl⟩ (.cons ⟨⟨t3,rfl⟩,rfl,rfl⟩ (.cons ⟨⟨t4,rfl⟩,rfl,rfl⟩ (.cons ⟨⟨t5,rfl⟩,rfl,rfl⟩ .nil))))
  · unfold JM.rangeOf
    by_cases c1:c=67
    · subst c1
      exact ⟨p1,by simp [List.lookup],s1⟩
    · by_cases c2:c=82
      · subst c2
        exact ⟨p2,by simp [List.lookup,one_eq],s2⟩
      · by_cases c3:c=78
        · subst c3
          exact ⟨p3,by simp [List.lookup,one_eq],s3⟩
        · by_cases c4:c=80
          · subst c4
            exact ⟨p4,by simp [List.lookup,one_eq],s4⟩
          · by_cases c5:c=87
            · subst c5
              exact ⟨p5,by simp [List.lookup,one_eq],s5⟩
            · rw [if_neg c1,if_neg c2,if_neg c3,if_neg c4,if_neg c5]
              simp [List.lookup,one_eq,c1,c2,c3,c4,c5]
section
variable {P:Program}{w:World}{K:PySem.W.Frag}{mg:Str→Option Value}{base:Heap}
theorem DefAt.cal {x:Str}{st:Stmt}{k:Nat}{ps:List Str}{sp:Sp}(d:DefAt K mg x st) (ok:∀ f fd,Fun K x x st f fd→FnOk P w K mg base CX0 k f fd ps sp)
    (h:∀ (kV doc pm:Value) (an:Option Addr) (cdv ct:Value) (us:List Value),us.length=ps.length→bindArgs (PySem.W.fnOf x x (defArgs st) (defBody st) (defScope st) .none kV doc pm an cdv ct) ⟨us,[]⟩=pure (ps.zip us)):Cal P w K mg base x k ps sp:=by
  obtain ⟨f,fd,F,m⟩:=d
  exact ⟨f,fd,ok f fd F,m,F.kp,F.binds h⟩
theorem ClsAt.mak {x qual:Str}{st:Stmt}{C:Addr}{k:Nat}{ps:List Str}{sp:Sp}(d:ClsAt K mg x qual st C) (ok:∀ f fd,Fun K "__init__" qual st f fd→FnOk P w K mg base CX0 k f fd ps sp)
    (h:∀ (kV doc pm:Value) (an:Option Addr) (cdv ct:Value) (us:List Value),us.length=ps.length→bindArgs (PySem.W.fnOf "__init__" qual (defArgs st) (defBody st) (defScope st) .none kV doc pm an cdv ct) ⟨us,[]⟩=pure (ps.zip us)):Mak P w K mg base x C k ps sp:=by
  obtain ⟨f,fd,F,M,m,_⟩:=d
  exact ⟨f,fd,M,ok f fd F,m,F.binds h⟩
structure Whole (K:PySem.W.Frag) (w:World) (mg:Str→Option Value) (t:Adr) (u:Adr2):Prop where
  T:Txt K w mg t
  T2:Tx2 K w mg u
  T3:Tx3 mg
  dCan:DefAt K mg "can_begin" sCan
  dFig:DefAt K mg "figures_end" sFig
  dNum:DefAt K mg "number_of" sNum
  dRight:DefAt K mg "right_end" sRight
  dWhole:DefAt K mg "is_whole" sWhole
  dBy:DefAt K mg "read_by" sBy
  dLine:DefAt K mg "read_line" sLine
  dSplit:DefAt K mg "split_lines" sSplit
  dParts:DefAt K mg "read_parts" sParts
  dPass:DefAt K mg "part_passes" sPass
  dField:DefAt K mg "has_field" sField
  dRoom:DefAt K mg "has_room" sRoom
  dUnfit:DefAt K mg "first_unfit" sUnfit
  dWrong:DefAt K mg "wrong_bytes_fault" sWrong
  dFault:DefAt K mg "find_fault" sFault
  dReport:DefAt K mg "read_report" sReport
  dWs:DefAt K mg "wheres_of" sWs
  dKs:DefAt K mg "keys_of" sKs
  dTs:DefAt K mg "totals_of" sTs
  dSs:DefAt K mg "seens_of" sSs
  dLst:DefAt K mg "listing_of" sLst
  dRowH:DefAt K mg "row_holes" sRowH
  dFigH:DefAt K mg "figure_holes" sFigH
  dCode:DefAt K mg "code_holes" sCode
  dByte:DefAt K mg "is_byte" sByte
  dLeg:DefAt K mg "is_legend" sLeg
  dSigns:DefAt K mg "read_signs" sSigns
  dHasR:DefAt K mg "has_row" sHasR
  dTopR:DefAt K mg "top_rank" sTopR
  dFldOf:DefAt K mg "field_of" sFldOf
  dKeyF:DefAt K mg "key_field" sKeyF
  dKeyR:DefAt K mg "key_ranks" sKeyR
  dRanks:DefAt K mg "card_ranks" sRanks
  dMeant:DefAt K mg "is_meant" sMeant
  dRdC:DefAt K mg "read_card" sRdC
  dRdD:DefAt K mg "read_deck" sRdD
  dMio:DefAt K mg "meant_in_order" sMio
  dFigV:DefAt K mg "figures_value" sFigV
  dAmt:DefAt K mg "amount_of" sAmt
  dSumA:DefAt K mg "sum_amount" sSumA
  dBlk:DefAt K mg "blank_line" sBlk
  dPut:DefAt K mg "put_upon" sPut
  dShN:DefAt K mg "show_number" sShN
  dPutF:DefAt K mg "put_field" sPutF
  dCdL:DefAt K mg "card_line" sCdL
  dLvB:DefAt K mg "level_between" sLvB
  dEnd:DefAt K mg "ended_levels" sEnd
  dGrp:DefAt K mg "group_start" sGrp
  dStay:DefAt K mg "stays_within" sStay
  dSumd:DefAt K mg "can_be_summed" sSumd
  dMet:DefAt K mg "can_be_met" sMet
  dOver:DefAt K mg "total_over" sOver
  dTtL:DefAt K mg "total_line" sTtL
  dGrL:DefAt K mg "group_lines" sGrL
  dHasL:DefAt K mg "has_line" sHasL
  dJoin3:DefAt K mg "join_rows" sJoin
  dMean:DefAt K mg "meant_paper" sMean
  dPap:DefAt K mg "paper" sPap
  cP:ClsAt K mg "Part" "Part.__init__" sInitP t.cP
  cR:ClsAt K mg "Reading" "Reading.__init__" sInitR t.cR
  cT:ClsAt K mg "Report" "Report.__init__" sInitT t.cT
  cS:ClsAt K mg "Signs" "Signs.__init__" sInitS u.cS
  mShow:MethAt K u.cS "show_field" "Signs.show_field" sShow
theorem whole_ok {t:Adr}{u:Adr2}{cc Pt:Addr}(W:Whole K w mg t u) (hc:∀ f fd,Fun K "meant_in_order" "meant_in_order" sMio f fd→mg "meant_in_order" = some (.ref f)→fd.code=.ref cc):∃ (f:Addr) (fd:FuncData),mg "paper" = some (.ref f)∧(∀ (s:Shared) (us:List Value),us.length=(["strange", "text", "legend", "deck"]:List Str).length→BindsTo s fd ⟨us,[]⟩ ((["strange", "text", "legend", "deck"]:List Str).zip us))∧∀ base:Heap,LamAt base mg cc Pt→FnOk P w K mg base CX0 10 f fd ["strange", "text", "legend", "deck"] (spPap K Pt):=by
  obtain ⟨T,T2,T3,dCan,dFig,dNum,dRight,dWhole,dBy,dLine,dSplit,dParts,dPass,dField,dRoom,dUnfit,dWrong,dFault,dReport,dWs,dKs,dTs,dSs,dLst,dRowH,dFigH,dCode,dByte,dLeg,dSigns,dHasR,dTopR,dFldOf,dKeyF,dKeyR,dRanks,dMeant,dRdC,dRdD,dMio,dFigV,dAmt,dSumA,dBlk,dPut,dShN,dPutF,dCdL,dLvB,dEnd,dGrp,dStay,dSumd,dMet,dOver,dTtL,dGrL,dHasL,dJoin3,dMean,dPap,cP,cR,cT,cS,mShow⟩:=W
  obtain ⟨f,fd,F,m⟩:=dPap
  refine ⟨f,fd,m,?_,fun base L=>?_⟩
  · obtain ⟨oc,od,kV,doc,pm,an,cdv,ct,osl,rfl,lk,hcd⟩:=F.ex
    exact fun s us hu=>match us,hu with | [_,_,_,_],_=>.of_eq rfl
  · have mP:=cP.mak (P:=P) (w:=w) (base:=base) (fun f fd F=>ok_initP F T) (fun _ _ _ _ _ _ us hl=>match us,hl with | [_,_,_],_=>rfl)
    have mR:=cR.mak (P:=P) (w:=w) (base:=base) (fun f fd F=>ok_initR F T) (fun _ _ _ _ _ _ us hl=>match us,hl with | [_,_,_],_=>rfl)
    have mT:=cT.mak (P:=P) (w:=w) (base:=base) (fun f fd F=>ok_initT F T) (fun _ _ _ _ _ _ us hl=>match us,hl with | [_,_,_],_=>rfl)
    have cCan:=dCan.cal (P:=P) (w:=w) (base:=base) (fun f fd F=>ok_can F) (fun _ _ _ _ _ _ us hl=>match us,hl with | [_,_,_],_=>rfl)
    have cFig:=dFig.cal (P:=P) (w:=w) (base:=base) (fun f fd F=>ok_fig F T cCan) (fun _ _ _ _ _ _ us hl=>match us,hl with | [_,_,_,_],_=>rfl)
    have cNum:=dNum.cal (P:=P) (w:=w) (base:=base) (fun f fd F=>ok_num F T) (fun _ _ _ _ _ _ us hl=>match us,hl with | [_],_=>rfl)
    have cRight:=dRight.cal (P:=P) (w:=w) (base:=base) (fun f fd F=>ok_right F T cFig) (fun _ _ _ _ _ _ us hl=>match us,hl with | [_,_,_],_=>rfl)
    have cWhole:=dWhole.cal (P:=P) (w:=w) (base:=base) (fun f fd F=>ok_whole F T cNum) (fun _ _ _ _ _ _ us hl=>match us,hl with | [_,_],_=>rfl)
    have cBy:=dBy.cal (P:=P) (w:=w) (base:=base) (fun f fd F=>ok_by F T cRight cWhole cNum mR mP) (fun _ _ _ _ _ _ us hl=>match us,hl with | [_,_],_=>rfl)
    have cLine:=dLine.cal (P:=P) (w:=w) (base:=base) (fun f fd F=>ok_line F T cBy mR) (fun _ _ _ _ _ _ us hl=>match us,hl with | [_],_=>rfl)
    have cSplit:=dSplit.cal (P:=P) (w:=w) (base:=base) (fun f fd F=>ok_split F T) (fun _ _ _ _ _ _ us hl=>match us,hl with | [_],_=>rfl)
    have cParts:=dParts.cal (P:=P) (w:=w) (base:=base) (fun f fd F=>ok_parts F T cLine) (fun _ _ _ _ _ _ us hl=>match us,hl with | [_],_=>rfl)
    have cPass:=dPass.cal (P:=P) (w:=w) (base:=base) (fun f fd F=>ok_pass F T) (fun _ _ _ _ _ _ us hl=>match us,hl with | [_],_=>rfl)
    have cField:=dField.cal (P:=P) (w:=w) (base:=base) (fun f fd F=>ok_field F T) (fun _ _ _ _ _ _ us hl=>match us,hl with | [_],_=>rfl)
    have cRoom:=dRoom.cal (P:=P) (w:=w) (base:=base) (fun f fd F=>ok_room F T cField) (fun _ _ _ _ _ _ us hl=>match us,hl with | [_],_=>rfl)
    have cUnfit:=dUnfit.cal (P:=P) (w:=w) (base:=base) (fun f fd F=>ok_unfit F T cPass cRoom) (fun _ _ _ _ _ _ us hl=>match us,hl with | [_],_=>rfl)
    have cWrong:=dWrong.cal (P:=P) (w:=w) (base:=base) (fun f fd F=>ok_wrong F T cLine) (fun _ _ _ _ _ _ us hl=>match us,hl with | [_,_],_=>rfl)
    have cFault:=dFault.cal (P:=P) (w:=w) (base:=base) (fun f fd F=>ok_fault F T cWrong cUnfit) (fun _ _ _ _ _ _ us hl=>match us,hl with | [_,_],_=>rfl)
    have cReport:=dReport.cal (P:=P) (w:=w) (base:=base) (fun f fd F=>ok_report F T cSplit cParts cFault mT) (fun _ _ _ _ _ _ us hl=>match us,hl with | [_],_=>rfl)
    have cWs:=dWs.cal (P:=P) (w:=w) (base:=base) (fun f fd F=>ok_ws F T) (fun _ _ _ _ _ _ us hl=>match us,hl with | [_],_=>rfl)
    have cKs:=dKs.cal (P:=P) (w:=w) (base:=base) (fun f fd F=>ok_ks F T) (fun _ _ _ _ _ _ us hl=>match us,hl with | [_],_=>rfl)
    have cTs:=dTs.cal (P:=P) (w:=w) (base:=base) (fun f fd F=>ok_ts F T) (fun _ _ _ _ _ _ us hl=>match us,hl with | [_],_=>rfl)
    have cSs:=dSs.cal (P:=P) (w:=w) (base:=base) (fun f fd F=>ok_ss F T) (fun _ _ _ _ _ _ us hl=>match us,hl with | [_],_=>rfl)
    have cLst:=dLst.cal (P:=P) (w:=w) (base:=base) (fun f fd F=>ok_lst F T) (fun _ _ _ _ _ _ us hl=>match us,hl with | [_],_=>rfl)
    have cRowH:=dRowH.cal (P:=P) (w:=w) (base:=base) (fun f fd F=>ok_rowH F) (fun _ _ _ _ _ _ us hl=>match us,hl with | [_],_=>rfl)
    have cFigH:=dFigH.cal (P:=P) (w:=w) (base:=base) (fun f fd F=>ok_figH F cRowH) (fun _ _ _ _ _ _ us hl=>match us,hl with | [_],_=>rfl)
    have cCode:=dCode.cal (P:=P) (w:=w) (base:=base) (fun f fd F=>ok_code F cRowH cFigH) (fun _ _ _ _ _ _ us hl=>match us,hl with | [_],_=>rfl)
    have cByte:=dByte.cal (P:=P) (w:=w) (base:=base) (fun f fd F=>ok_byte F T2) (fun _ _ _ _ _ _ us hl=>match us,hl with | [_],_=>rfl)
    have cLeg:=dLeg.cal (P:=P) (w:=w) (base:=base) (fun f fd F=>ok_leg F T T2 cByte) (fun _ _ _ _ _ _ us hl=>match us,hl with | [_],_=>rfl)
    have mS:=cS.mak (P:=P) (w:=w) (base:=base) (fun f fd F=>ok_initS F T T2 cCode) (fun _ _ _ _ _ _ us hl=>match us,hl with | [_,_,_],_=>rfl)
    have cSigns:=dSigns.cal (P:=P) (w:=w) (base:=base) (fun f fd F=>ok_signs F T T2 cLeg cByte mS) (fun _ _ _ _ _ _ us hl=>match us,hl with | [_,_],_=>rfl)
    have cHasR:=dHasR.cal (P:=P) (w:=w) (base:=base) (fun f fd F=>ok_hasR F) (fun _ _ _ _ _ _ us hl=>match us,hl with | [_,_],_=>rfl)
    have cTopR:=dTopR.cal (P:=P) (w:=w) (base:=base) (fun f fd F=>ok_topR F) (fun _ _ _ _ _ _ us hl=>match us,hl with | [_],_=>rfl)
    have cFldOf:=dFldOf.cal (P:=P) (w:=w) (base:=base) (fun f fd F=>ok_fldOf F) (fun _ _ _ _ _ _ us hl=>match us,hl with | [_,_,_],_=>rfl)
    have cKeyF:=dKeyF.cal (P:=P) (w:=w) (base:=base) (fun f fd F=>ok_keyF F T cFldOf) (fun _ _ _ _ _ _ us hl=>match us,hl with | [_,_],_=>rfl)
    have cKeyR:=dKeyR.cal (P:=P) (w:=w) (base:=base) (fun f fd F=>ok_keyR F T cKeyF cTopR) (fun _ _ _ _ _ _ us hl=>match us,hl with | [_,_],_=>rfl)
    have cRanks:=dRanks.cal (P:=P) (w:=w) (base:=base) (fun f fd F=>ok_ranks F cKeyR) (fun _ _ _ _ _ _ us hl=>match us,hl with | [_,_],_=>rfl)
    have cMeant:=dMeant.cal (P:=P) (w:=w) (base:=base) (fun f fd F=>ok_meant F T cHasR) (fun _ _ _ _ _ _ us hl=>match us,hl with | [_,_],_=>rfl)
    have cRdC:=dRdC.cal (P:=P) (w:=w) (base:=base) (fun f fd F=>ok_rdC F T T3) (fun _ _ _ _ _ _ us hl=>match us,hl with | [_],_=>rfl)
    have cRdD:=dRdD.cal (P:=P) (w:=w) (base:=base) (fun f fd F=>ok_rdD F T T3 cRdC) (fun _ _ _ _ _ _ us hl=>match us,hl with | [_],_=>rfl)
    have cMio:Cal P w K mg base "meant_in_order" 9 ["parts", "cards"] (spMio t Pt):=by
      obtain ⟨f,fd,F,m⟩:=dMio
      exact ⟨f,fd,ok_mio F (hc f fd F m) L T3 cWs cKs cMeant cRanks,m,F.kp,F.binds (fun _ _ _ _ _ _ us hl=>match us,hl with | [_,_],_=>rfl)⟩
    have cFigV:=dFigV.cal (P:=P) (w:=w) (base:=base) (fun f fd F=>ok_figV F T2) (fun _ _ _ _ _ _ us hl=>match us,hl with | [_],_=>rfl)
    have cAmt:=dAmt.cal (P:=P) (w:=w) (base:=base) (fun f fd F=>ok_amt F T2 cFldOf cHasR cRowH cFigV) (fun _ _ _ _ _ _ us hl=>match us,hl with | [_,_,_],_=>rfl)
    have cSumA:=dSumA.cal (P:=P) (w:=w) (base:=base) (fun f fd F=>ok_sumA F T cAmt) (fun _ _ _ _ _ _ us hl=>match us,hl with | [_,_],_=>rfl)
    have cBlk:=dBlk.cal (P:=P) (w:=w) (base:=base) (fun f fd F=>ok_blk F T2) (fun _ _ _ _ _ _ us hl=>match us,hl with | [],_=>rfl)
    have cPut:=dPut.cal (P:=P) (w:=w) (base:=base) (fun f fd F=>ok_put F T) (fun _ _ _ _ _ _ us hl=>match us,hl with | [_,_,_],_=>rfl)
    have cShow:=mShow.cal (P:=P) (w:=w) (base:=base) (mg:=mg) (fun f fd F=>ok_show F T2 cFldOf) (fun _ _ _ _ _ _ us hl=>match us,hl with | [_,_,_,_],_=>rfl)
    have cShN:=dShN.cal (P:=P) (w:=w) (base:=base) (fun f fd F=>ok_shN F T T2) (fun _ _ _ _ _ _ us hl=>match us,hl with | [_,_],_=>rfl)
    have cPutF:=dPutF.cal (P:=P) (w:=w) (base:=base) (fun f fd F=>ok_putF F T T2 cPut cShow) (fun _ _ _ _ _ _ us hl=>match us,hl with | [_,_,_,_],_=>rfl)
    have cCdL:=dCdL.cal (P:=P) (w:=w) (base:=base) (fun f fd F=>ok_cdL F cBlk cSs cPutF) (fun _ _ _ _ _ _ us hl=>match us,hl with | [_,_,_],_=>rfl)
    have cLvB:=dLvB.cal (P:=P) (w:=w) (base:=base) (fun f fd F=>ok_lvB F T cKeyF) (fun _ _ _ _ _ _ us hl=>match us,hl with | [_,_,_],_=>rfl)
    have cEnd:=dEnd.cal (P:=P) (w:=w) (base:=base) (fun f fd F=>ok_end F T cLvB) (fun _ _ _ _ _ _ us hl=>match us,hl with | [_,_],_=>rfl)
    have cGrp:=dGrp.cal (P:=P) (w:=w) (base:=base) (fun f fd F=>ok_grp F) (fun _ _ _ _ _ _ us hl=>match us,hl with | [_,_,_],_=>rfl)
    have cStay:=dStay.cal (P:=P) (w:=w) (base:=base) (fun f fd F=>ok_stay F T2) (fun _ _ _ _ _ _ us hl=>match us,hl with | [_,_,_],_=>rfl)
    have cSumd:=dSumd.cal (P:=P) (w:=w) (base:=base) (fun f fd F=>ok_sumd F T3 T2 cSumA cStay) (fun _ _ _ _ _ _ us hl=>match us,hl with | [_,_,_,_],_=>rfl)
    have cMet:=dMet.cal (P:=P) (w:=w) (base:=base) (fun f fd F=>ok_met F T cKs cTs cSumd) (fun _ _ _ _ _ _ us hl=>match us,hl with | [_,_,_],_=>rfl)
    have cOver:=dOver.cal (P:=P) (w:=w) (base:=base) (fun f fd F=>ok_over F T cSumA) (fun _ _ _ _ _ _ us hl=>match us,hl with | [_,_],_=>rfl)
    have cTtL:=dTtL.cal (P:=P) (w:=w) (base:=base) (fun f fd F=>ok_ttL F T cBlk cKs cTs cPutF cShN cOver cPut) (fun _ _ _ _ _ _ us hl=>match us,hl with | [_,_,_,_],_=>rfl)
    have cGrL:=dGrL.cal (P:=P) (w:=w) (base:=base) (fun f fd F=>ok_grL F T T3 cKs cGrp cTtL) (fun _ _ _ _ _ _ us hl=>match us,hl with | [_,_,_,_,_],_=>rfl)
    have cHasL:=dHasL.cal (P:=P) (w:=w) (base:=base) (fun f fd F=>ok_hasL F) (fun _ _ _ _ _ _ us hl=>match us,hl with | [_,_,_],_=>rfl)
    have cJoin3:=dJoin3.cal (P:=P) (w:=w) (base:=base) (fun f fd F=>ok_join F) (fun _ _ _ _ _ _ us hl=>match us,hl with | [_],_=>rfl)
    have cMean:=dMean.cal (P:=P) (w:=w) (base:=base) (fun f fd F=>ok_mean F T cEnd cKs cTs cMet cGrL cHasL cLst cCdL cTtL) (fun _ _ _ _ _ _ us hl=>match us,hl with | [_,_,_],_=>rfl)
    exact ok_pap F T T2 T3 cReport cSigns cRdD cMio cMean cJoin3
end
end Jd
end
open PySem PySem.W PyProof.Rows
namespace PySem.W.Fast
def tw7944844835509868327:=()
def tw15263559818599070155:=()
def tw10608058053979622847:=()
def tw904873487777224201:=()
def tw6254691920159840678:=()
def tw8600802063829028998:=()
def tw16596261691619132403:=()
def tw11277508107083248792:=()
def tw13232973303135016459:=()
def tw15028069002456355599:=()
def tw12639363336491602146:=()
def tw12005893989022540089:=()
def tw3809435808679092835:=()
def tw8551640632480362569:=()
def tw6808935107925843396:=()
def tw11365016253891071116:=()
def tw7504839923248745366:=()
def tw8912873047323062188:=()
def tw7076010977697791291:=()
def tw5639815736240867298:=()
def tw11051257657111031330:=()
def tw12958102577553028679:=()
def tw14929773451962197082:=()
def tw14381767660501438777:=()
def tw10689707221871418757:=()
def tw15275092476714679589:=()
def tw15330924324298421319:=()
def tw17601337084492571777:=()
def tw2029078421543666921:=()
def tw431905584571017183:=()
def tw4637096303296966666:=()
def tw786522885002139282:=()
def tw15922061963713323881:=()
def tw10567611566999421917:=()
def tw45686562579467797:=()
def tw10675738393604225615:=()
def tw4192172408815879038:=()
def tw2284958616183088093:=()
def tw6959966418545518142:=()
def tw10381337925916490666:=()
def tw7608863333209204738:=()
def tw4819974218259301427:=()
def tw16633019536593019348:=()
def tw4250937836290392671:=()
def tw7966118193564353764:=()
def tw16055528641252969249:=()
def tw5029150038791550344:=()
def tw16796218603839744573:=()
def tw5674158525705967866:=()
def tw17250866685273846790:=()
def tw1280451660202275714:=()
def tw12364648671019075791:=()
def tw16262847813859879409:=()
def tw8869995892465478210:=()
def tw320022273515291039:=()
def tw6328635023541767496:=()
def tw6380872118613048963:=()
def tw1594465163458271502:=()
def tw10508398177539844077:=()
def tw1051648866591421786:=()
def tw13544999652788015407:=()
def tw5039205560171718765:=()
def tw15089347113194609146:=()
def tw10640635757877213924:=()
def tw4838922959011986511:=()
def tw4987781318634438083:=()
def tw12250252039423495288:=()
def tw15451765631543294013:=()
def tw8695014306771084227:=()
def tw16861376295138408001:=()
def tw2363284280357063227:=()
def tw125101518814937575:=()
def tw16282506020323581878:=()
def tw18058000443618849458:=()
def tw18439330542871805644:=()
def tw15992744679810257918:=()
def tw3381237889181239210:=()
def tw961508826066668540:=()
def tw9466380209936316883:=()
def tw11521048771364153216:=()
def tw9476370410938211050:=()
def tw15633152411462233040:=()
def tw9724707743808836401:=()
def tw7349091919993125293:=()
def tw16669632118226306666:=()
def tw2470089180987807543:=()
def tw16129965092037776764:=()
def tw17520862003997278591:=()
def tw7109940897218565609:=()
def tw9133946780412645986:=()
def tw9150050100388135531:=()
def tw5660817761103924459:=()
def tw3614068158461189780:=()
def tw11989233151777915939:=()
def tw16978856397830903541:=()
def tw13474008860308737419:=()
def tw7315476422740058916:=()
def tw3640916493842367855:=()
def tw296542387175311330:=()
def tw13633975335237090571:=()
def tw17900817712363417615:=()
def tw16328688131181476375:=()
def tw3373143292062021741:=()
def tw3580964636285806982:=()
def tw12787442983023790570:=()
def tw15485445293397265610:=()
def tw13349220211415509127:=()
def tw16262453680759872861:=()
def tw7805700357481523802:=()
def tw17125119940262284843:=()
def tw15812909453625253262:=()
def tw11822903759501133720:=()
def tw6830349118569106915:=()
def tw3325510861100618948:=()
def tw17756303743004666809:=()
def tw257597293313794461:=()
def tw12706797503643515394:=()
def tw11628558678197547713:=()
def tw17788050866900749604:=()
def tw11243893428465907470:=()
def tw7433483757407995880:=()
def tw5299106859939836482:=()
def tw13049920890410251745:=()
def tw5012937101832684851:=()
def tw1531050314330084138:=()
def tw8344746739521158762:=()
def tw1375114072756041711:=()
def tw4285814933035872631:=()
def tw11394218023679233151:=()
def tw7195278212291747976:=()
def tw6979944336731299716:=()
def tw2670869907433029640:=()
def tw1410361741446244211:=()
def tw2906971205229972458:=()
def tw13126517024498530689:=()
def tw1847836679996019338:=()
def tw13186349830583981838:=()
def tw1814585156393702220:=()
def tw13989296679947146594:=()
def tw13764592263157412286:=()
def tw4212176902167951667:=()
def tw1473278260273904567:=()
def tw15114653106458538209:=()
def tw4008206154548218294:=()
end PySem.W.Fast
set_option maxRecDepth 100000 in
set_option maxHeartbeats 0 in
theorem PySem.Challenge.cw_tabulreports_s03_paper_holds : PySem.Challenge.rw_tabulreports_s03_paper.Holds := by
  w_on; k_headS; (case hw=>exact ⟨[.int 0,.list [],.list [],.list []],by decide +kernel,by decide +kernel⟩)
  k_fillS
  refine L2.walk_specT (r:=PySem.Challenge.rw_tabulreports_s03_paper) (k:=10) (CX:=L2.CX0) (ps:=["strange", "text", "legend", "deck"]) (sp:=Jd.spPap) "meant_in_order" (by decide +kernel) (by decide +kernel) rfl rfl ⟨rfl,by decide,by decide⟩ (fun w h Y=>PySem.W.kIn_of Y) ?F ?S (fun _ _ _ _ z=>z)
  case F=>
    intro w mg fa h Y KX G hmg
    refine ⟨?nt,fun cc Pt hcc=>?_⟩
    (case nt=>(first | kernel_rfl | rfl | decide +kernel))
    have dCan:Jd.DefAt (L2.KOf KX) mg "can_begin" Jd.sCan:=by
      dsimp only [L2.KOf]
      refine' Jd.def_at KX G ?a ?l ?c ?k
      (case a=>k_is); (case l=>k_is); (case c=>k_is); (case k=>k_is)
    have dFig:Jd.DefAt (L2.KOf KX) mg "figures_end" Jd.sFig:=by
      dsimp only [L2.KOf]
      refine' Jd.def_at KX G ?a ?l ?c ?k
      (case a=>k_is); (case l=>k_is); (case c=>k_is); (case k=>k_is)
    have dNum:Jd.DefAt (L2.KOf KX) mg "number_of" Jd.sNum:=by
      dsimp only [L2.KOf]
      refine' Jd.def_at KX G ?a ?l ?c ?k
      (case a=>k_is); (case l=>k_is); (case c=>k_is); (case k=>k_is)
    have dRight:Jd.DefAt (L2.KOf KX) mg "right_end" Jd.sRight:=by
      dsimp only [L2.KOf]
      refine' Jd.def_at KX G ?a ?l ?c ?k
      (case a=>k_is); (case l=>k_is); (case c=>k_is); (case k=>k_is)
    have dWhole:Jd.DefAt (L2.KOf KX) mg "is_whole" Jd.sWhole:=by
      dsimp only [L2.KOf]
      refine' Jd.def_at KX G ?a ?l ?c ?k
      (case a=>k_is); (case l=>k_is); (case c=>k_is); (case k=>k_is)
    have dBy:Jd.DefAt (L2.KOf KX) mg "read_by" Jd.sBy:=by
      dsimp only [L2.KOf]
      refine' Jd.def_at KX G ?a ?l ?c ?k
      (case a=>k_is); (case l=>k_is); (case c=>k_is); (case k=>k_is)
    have dLine:Jd.DefAt (L2.KOf KX) mg "read_line" Jd.sLine:=by
      dsimp only [L2.KOf]
      refine' Jd.def_at KX G ?a ?l ?c ?k
      (case a=>k_is); (case l=>k_is); (case c=>k_is); (case k=>k_is)
    have dSplit:Jd.DefAt (L2.KOf KX) mg "split_lines" Jd.sSplit:=by
      dsimp only [L2.KOf]
      refine' Jd.def_at KX G ?a ?l ?c ?k
      (case a=>k_is); (case l=>k_is); (case c=>k_is); (case k=>k_is)
    have dParts:Jd.DefAt (L2.KOf KX) mg "read_parts" Jd.sParts:=by
      dsimp only [L2.KOf]
      refine' Jd.def_at KX G ?a ?l ?c ?k
      (case a=>k_is); (case l=>k_is); (case c=>k_is); (case k=>k_is)
    have dPass:Jd.DefAt (L2.KOf KX) mg "part_passes" Jd.sPass:=by
      dsimp only [L2.KOf]
      refine' Jd.def_at KX G ?a ?l ?c ?k
      (case a=>k_is); (case l=>k_is); (case c=>k_is); (case k=>k_is)
    have dField:Jd.DefAt (L2.KOf KX) mg "has_field" Jd.sField:=by
      dsimp only [L2.KOf]
      refine' Jd.def_at KX G ?a ?l ?c ?k
      (case a=>k_is); (case l=>k_is); (case c=>k_is); (case k=>k_is)
    have dRoom:Jd.DefAt (L2.KOf KX) mg "has_room" Jd.sRoom:=by
      dsimp only [L2.KOf]
      refine' Jd.def_at KX G ?a ?l ?c ?k
      (case a=>k_is); (case l=>k_is); (case c=>k_is); (case k=>k_is)
    have dUnfit:Jd.DefAt (L2.KOf KX) mg "first_unfit" Jd.sUnfit:=by
      dsimp only [L2.KOf]
      refine' Jd.def_at KX G ?a ?l ?c ?k
      (case a=>k_is); (case l=>k_is); (case c=>k_is); (case k=>k_is)
    have dWrong:Jd.DefAt (L2.KOf KX) mg "wrong_bytes_fault" Jd.sWrong:=by
      dsimp only [L2.KOf]
      refine' Jd.def_at KX G ?a ?l ?c ?k
      (case a=>k_is); (case l=>k_is); (case c=>k_is); (case k=>k_is)
    have dFault:Jd.DefAt (L2.KOf KX) mg "find_fault" Jd.sFault:=by
      dsimp only [L2.KOf]
      refine' Jd.def_at KX G ?a ?l ?c ?k
      (case a=>k_is); (case l=>k_is); (case c=>k_is); (case k=>k_is)
    have dReport:Jd.DefAt (L2.KOf KX) mg "read_report" Jd.sReport:=by
      dsimp only [L2.KOf]
      refine' Jd.def_at KX G ?a ?l ?c ?k
      (case a=>k_is); (case l=>k_is); (case c=>k_is); (case k=>k_is)
    have dWs:Jd.DefAt (L2.KOf KX) mg "wheres_of" Jd.sWs:=by
      dsimp only [L2.KOf]
      refine' Jd.def_at KX G ?a ?l ?c ?k
      (case a=>k_is); (case l=>k_is); (case c=>k_is); (case k=>k_is)
    have dKs:Jd.DefAt (L2.KOf KX) mg "keys_of" Jd.sKs:=by
      dsimp only [L2.KOf]
      refine' Jd.def_at KX G ?a ?l ?c ?k
      (case a=>k_is); (case l=>k_is); (case c=>k_is); (case k=>k_is)
    have dTs:Jd.DefAt (L2.KOf KX) mg "totals_of" Jd.sTs:=by
      dsimp only [L2.KOf]
      refine' Jd.def_at KX G ?a ?l ?c ?k
      (case a=>k_is); (case l=>k_is); (case c=>k_is); (case k=>k_is)
    have dSs:Jd.DefAt (L2.KOf KX) mg "seens_of" Jd.sSs:=by
      dsimp only [L2.KOf]
      refine' Jd.def_at KX G ?a ?l ?c ?k
      (case a=>k_is); (case l=>k_is); (case c=>k_is); (case k=>k_is)
    have dLst:Jd.DefAt (L2.KOf KX) mg "listing_of" Jd.sLst:=by
      dsimp only [L2.KOf]
      refine' Jd.def_at KX G ?a ?l ?c ?k
      (case a=>k_is); (case l=>k_is); (case c=>k_is); (case k=>k_is)
    have dRowH:Jd.DefAt (L2.KOf KX) mg "row_holes" Jd.sRowH:=by
      dsimp only [L2.KOf]
      refine' Jd.def_at KX G ?a ?l ?c ?k
      (case a=>k_is); (case l=>k_is); (case c=>k_is); (case k=>k_is)
    have dFigH:Jd.DefAt (L2.KOf KX) mg "figure_holes" Jd.sFigH:=by
      dsimp only [L2.KOf]
      refine' Jd.def_at KX G ?a ?l ?c ?k
      (case a=>k_is); (case l=>k_is); (case c=>k_is); (case k=>k_is)
    have dCode:Jd.DefAt (L2.KOf KX) mg "code_holes" Jd.sCode:=by
      dsimp only [L2.KOf]
      refine' Jd.def_at KX G ?a ?l ?c ?k
      (case a=>k_is); (case l=>k_is); (case c=>k_is); (case k=>k_is)
    have dByte:Jd.DefAt (L2.KOf KX) mg "is_byte" Jd.sByte:=by
      dsimp only [L2.KOf]
      refine' Jd.def_at KX G ?a ?l ?c ?k
      (case a=>k_is); (case l=>k_is); (case c=>k_is); (case k=>k_is)
    have dLeg:Jd.DefAt (L2.KOf KX) mg "is_legend" Jd.sLeg:=by
      dsimp only [L2.KOf]
      refine' Jd.def_at KX G ?a ?l ?c ?k
      (case a=>k_is); (case l=>k_is); (case c=>k_is); (case k=>k_is)
    have dSigns:Jd.DefAt (L2.KOf KX) mg "read_signs" Jd.sSigns:=by
      dsimp only [L2.KOf]
      refine' Jd.def_at KX G ?a ?l ?c ?k
      (case a=>k_is); (case l=>k_is); (case c=>k_is); (case k=>k_is)
    have dHasR:Jd.DefAt (L2.KOf KX) mg "has_row" Jd.sHasR:=by
      dsimp only [L2.KOf]
      refine' Jd.def_at KX G ?a ?l ?c ?k
      (case a=>k_is); (case l=>k_is); (case c=>k_is); (case k=>k_is)
    have dTopR:Jd.DefAt (L2.KOf KX) mg "top_rank" Jd.sTopR:=by
      dsimp only [L2.KOf]
      refine' Jd.def_at KX G ?a ?l ?c ?k
      (case a=>k_is); (case l=>k_is); (case c=>k_is); (case k=>k_is)
    have dFldOf:Jd.DefAt (L2.KOf KX) mg "field_of" Jd.sFldOf:=by
      dsimp only [L2.KOf]
      refine' Jd.def_at KX G ?a ?l ?c ?k
      (case a=>k_is); (case l=>k_is); (case c=>k_is); (case k=>k_is)
    have dKeyF:Jd.DefAt (L2.KOf KX) mg "key_field" Jd.sKeyF:=by
      dsimp only [L2.KOf]
      refine' Jd.def_at KX G ?a ?l ?c ?k
      (case a=>k_is); (case l=>k_is); (case c=>k_is); (case k=>k_is)
    have dKeyR:Jd.DefAt (L2.KOf KX) mg "key_ranks" Jd.sKeyR:=by
      dsimp only [L2.KOf]
      refine' Jd.def_at KX G ?a ?l ?c ?k
      (case a=>k_is); (case l=>k_is); (case c=>k_is); (case k=>k_is)
    have dRanks:Jd.DefAt (L2.KOf KX) mg "card_ranks" Jd.sRanks:=by
      dsimp only [L2.KOf]
      refine' Jd.def_at KX G ?a ?l ?c ?k
      (case a=>k_is); (case l=>k_is); (case c=>k_is); (case k=>k_is)
    have dMeant:Jd.DefAt (L2.KOf KX) mg "is_meant" Jd.sMeant:=by
      dsimp only [L2.KOf]
      refine' Jd.def_at KX G ?a ?l ?c ?k
      (case a=>k_is); (case l=>k_is); (case c=>k_is); (case k=>k_is)
    have dRdC:Jd.DefAt (L2.KOf KX) mg "read_card" Jd.sRdC:=by
      dsimp only [L2.KOf]
      refine' Jd.def_at KX G ?a ?l ?c ?k
      (case a=>k_is); (case l=>k_is); (case c=>k_is); (case k=>k_is)
    have dRdD:Jd.DefAt (L2.KOf KX) mg "read_deck" Jd.sRdD:=by
      dsimp only [L2.KOf]
      refine' Jd.def_at KX G ?a ?l ?c ?k
      (case a=>k_is); (case l=>k_is); (case c=>k_is); (case k=>k_is)
    have dMio:Jd.DefAt (L2.KOf KX) mg "meant_in_order" Jd.sMio:=by
      dsimp only [L2.KOf]
      refine' Jd.def_at KX G ?a ?l ?c ?k
      (case a=>k_is); (case l=>k_is); (case c=>k_is); (case k=>k_is)
    have dFigV:Jd.DefAt (L2.KOf KX) mg "figures_value" Jd.sFigV:=by
      dsimp only [L2.KOf]
      refine' Jd.def_at KX G ?a ?l ?c ?k
      (case a=>k_is); (case l=>k_is); (case c=>k_is); (case k=>k_is)
    have dAmt:Jd.DefAt (L2.KOf KX) mg "amount_of" Jd.sAmt:=by
      dsimp only [L2.KOf]
      refine' Jd.def_at KX G ?a ?l ?c ?k
      (case a=>k_is); (case l=>k_is); (case c=>k_is); (case k=>k_is)
    have dSumA:Jd.DefAt (L2.KOf KX) mg "sum_amount" Jd.sSumA:=by
      dsimp only [L2.KOf]
      refine' Jd.def_at KX G ?a ?l ?c ?k
      (case a=>k_is); (case l=>k_is); (case c=>k_is); (case k=>k_is)
    have dBlk:Jd.DefAt (L2.KOf KX) mg "blank_line" Jd.sBlk:=by
      dsimp only [L2.KOf]
      refine' Jd.def_at KX G ?a ?l ?c ?k
      (case a=>k_is); (case l=>k_is); (case c=>k_is); (case k=>k_is)
    have dPut:Jd.DefAt (L2.KOf KX) mg "put_upon" Jd.sPut:=by
      dsimp only [L2.KOf]
      refine' Jd.def_at KX G ?a ?l ?c ?k
      (case a=>k_is); (case l=>k_is); (case c=>k_is); (case k=>k_is)
    have dShN:Jd.DefAt (L2.KOf KX) mg "show_number" Jd.sShN:=by
      dsimp only [L2.KOf]
      refine' Jd.def_at KX G ?a ?l ?c ?k
      (case a=>k_is); (case l=>k_is); (case c=>k_is); (case k=>k_is)
    have dPutF:Jd.DefAt (L2.KOf KX) mg "put_field" Jd.sPutF:=by
      dsimp only [L2.KOf]
      refine' Jd.def_at KX G ?a ?l ?c ?k
      (case a=>k_is); (case l=>k_is); (case c=>k_is); (case k=>k_is)
    have dCdL:Jd.DefAt (L2.KOf KX) mg "card_line" Jd.sCdL:=by
      dsimp only [L2.KOf]
      refine' Jd.def_at KX G ?a ?l ?c ?k
      (case a=>k_is); (case l=>k_is); (case c=>k_is); (case k=>k_is)
    have dLvB:Jd.DefAt (L2.KOf KX) mg "level_between" Jd.sLvB:=by
      dsimp only [L2.KOf]
      refine' Jd.def_at KX G ?a ?l ?c ?k
      (case a=>k_is); (case l=>k_is); (case c=>k_is); (case k=>k_is)
    have dEnd:Jd.DefAt (L2.KOf KX) mg "ended_levels" Jd.sEnd:=by
      dsimp only [L2.KOf]
      refine' Jd.def_at KX G ?a ?l ?c ?k
      (case a=>k_is); (case l=>k_is); (case c=>k_is); (case k=>k_is)
    have dGrp:Jd.DefAt (L2.KOf KX) mg "group_start" Jd.sGrp:=by
      dsimp only [L2.KOf]
      refine' Jd.def_at KX G ?a ?l ?c ?k
      (case a=>k_is); (case l=>k_is); (case c=>k_is); (case k=>k_is)
    have dStay:Jd.DefAt (L2.KOf KX) mg "stays_within" Jd.sStay:=by
      dsimp only [L2.KOf]
      refine' Jd.def_at KX G ?a ?l ?c ?k
      (case a=>k_is); (case l=>k_is); (case c=>k_is); (case k=>k_is)
    have dSumd:Jd.DefAt (L2.KOf KX) mg "can_be_summed" Jd.sSumd:=by
      dsimp only [L2.KOf]
      refine' Jd.def_at KX G ?a ?l ?c ?k
      (case a=>k_is); (case l=>k_is); (case c=>k_is); (case k=>k_is)
    have dMet:Jd.DefAt (L2.KOf KX) mg "can_be_met" Jd.sMet:=by
      dsimp only [L2.KOf]
      refine' Jd.def_at KX G ?a ?l ?c ?k
      (case a=>k_is); (case l=>k_is); (case c=>k_is); (case k=>k_is)
    have dOver:Jd.DefAt (L2.KOf KX) mg "total_over" Jd.sOver:=by
      dsimp only [L2.KOf]
      refine' Jd.def_at KX G ?a ?l ?c ?k
      (case a=>k_is); (case l=>k_is); (case c=>k_is); (case k=>k_is)
    have dTtL:Jd.DefAt (L2.KOf KX) mg "total_line" Jd.sTtL:=by
      dsimp only [L2.KOf]
      refine' Jd.def_at KX G ?a ?l ?c ?k
      (case a=>k_is); (case l=>k_is); (case c=>k_is); (case k=>k_is)
    have dGrL:Jd.DefAt (L2.KOf KX) mg "group_lines" Jd.sGrL:=by
      dsimp only [L2.KOf]
      refine' Jd.def_at KX G ?a ?l ?c ?k
      (case a=>k_is); (case l=>k_is); (case c=>k_is); (case k=>k_is)
    have dHasL:Jd.DefAt (L2.KOf KX) mg "has_line" Jd.sHasL:=by
      dsimp only [L2.KOf]
      refine' Jd.def_at KX G ?a ?l ?c ?k
      (case a=>k_is); (case l=>k_is); (case c=>k_is); (case k=>k_is)
    have dJoin3:Jd.DefAt (L2.KOf KX) mg "join_rows" Jd.sJoin:=by
      dsimp only [L2.KOf]
      refine' Jd.def_at KX G ?a ?l ?c ?k
      (case a=>k_is); (case l=>k_is); (case c=>k_is); (case k=>k_is)
    have dMean:Jd.DefAt (L2.KOf KX) mg "meant_paper" Jd.sMean:=by
      dsimp only [L2.KOf]
      refine' Jd.def_at KX G ?a ?l ?c ?k
      (case a=>k_is); (case l=>k_is); (case c=>k_is); (case k=>k_is)
    have dPap:Jd.DefAt (L2.KOf KX) mg "paper" Jd.sPap:=by
      dsimp only [L2.KOf]
      refine' Jd.def_at KX G ?a ?l ?c ?k
      (case a=>k_is); (case l=>k_is); (case c=>k_is); (case k=>k_is)
    obtain ⟨CP,cP,nP0,nP1,nP2⟩:∃ C,Jd.ClsAt (L2.KOf KX) mg "Part" "Part.__init__" Jd.sInitP C∧L2.NoAttr (L2.KOf KX) C "word" ∧ L2.NoAttr (L2.KOf KX) C "ending" ∧ L2.NoAttr (L2.KOf KX) C "numbers" := by
      dsimp only [L2.KOf]
      refine' ⟨_,Jd.cls_at KX G ?aC ?a ?i ?l ?c ?k ?pg ?hd ?po ?sa ?mk ?kc,?n0,?n1,?n2⟩
      (case aC=>k_is); (case a=>k_is); (case i=>k_is); (case l=>k_is); (case c=>k_is); (case k=>k_is); (case pg=>k_is); (case hd=>k_is); (case po=>k_is); (case sa=>k_is); (case mk=>k_is); (case kc=>k_is)
      (case n0=>(unfold L2.NoAttr; k_is))
      (case n1=>(unfold L2.NoAttr; k_is))
      (case n2=>(unfold L2.NoAttr; k_is))
    obtain ⟨CR,cR,nR0,nR1⟩:∃ C,Jd.ClsAt (L2.KOf KX) mg "Reading" "Reading.__init__" Jd.sInitR C∧L2.NoAttr (L2.KOf KX) C "right" ∧ L2.NoAttr (L2.KOf KX) C "part" := by
      dsimp only [L2.KOf]
      refine' ⟨_,Jd.cls_at KX G ?aC ?a ?i ?l ?c ?k ?pg ?hd ?po ?sa ?mk ?kc,?n0,?n1⟩
      (case aC=>k_is); (case a=>k_is); (case i=>k_is); (case l=>k_is); (case c=>k_is); (case k=>k_is); (case pg=>k_is); (case hd=>k_is); (case po=>k_is); (case sa=>k_is); (case mk=>k_is); (case kc=>k_is)
      (case n0=>(unfold L2.NoAttr; k_is))
      (case n1=>(unfold L2.NoAttr; k_is))
    obtain ⟨CT,cT,nT0,nT1⟩:∃ C,Jd.ClsAt (L2.KOf KX) mg "Report" "Report.__init__" Jd.sInitT C∧L2.NoAttr (L2.KOf KX) C "parts" ∧ L2.NoAttr (L2.KOf KX) C "refusal" := by
      dsimp only [L2.KOf]
      refine' ⟨_,Jd.cls_at KX G ?aC ?a ?i ?l ?c ?k ?pg ?hd ?po ?sa ?mk ?kc,?n0,?n1⟩
      (case aC=>k_is); (case a=>k_is); (case i=>k_is); (case l=>k_is); (case c=>k_is); (case k=>k_is); (case pg=>k_is); (case hd=>k_is); (case po=>k_is); (case sa=>k_is); (case mk=>k_is); (case kc=>k_is)
      (case n0=>(unfold L2.NoAttr; k_is))
      (case n1=>(unfold L2.NoAttr; k_is))
    obtain ⟨CS,cS,nS0,nS1,mShow⟩:∃ C,Jd.ClsAt (L2.KOf KX) mg "Signs" "Signs.__init__" Jd.sInitS C∧L2.NoAttr (L2.KOf KX) C "strange" ∧ L2.NoAttr (L2.KOf KX) C "by_holes" ∧ Jd.MethAt (L2.KOf KX) C "show_field" "Signs.show_field" Jd.sShow:=by
      dsimp only [L2.KOf]
      refine' ⟨_,Jd.cls_at KX G ?aC ?a ?i ?l ?c ?k ?pg ?hd ?po ?sa ?mk ?kc,?n0,?n1,Jd.meth_at ?ma ?mi ?ml ?mc ?mkk⟩
      (case aC=>k_is); (case a=>k_is); (case i=>k_is); (case l=>k_is); (case c=>k_is); (case k=>k_is); (case pg=>k_is); (case hd=>k_is); (case po=>k_is); (case sa=>k_is); (case mk=>k_is); (case kc=>k_is)
      (case n0=>(unfold L2.NoAttr; k_is))
      (case n1=>(unfold L2.NoAttr; k_is))
      (case ma=>k_is); (case mi=>k_is); (case ml=>k_is); (case mc=>k_is); (case mkk=>k_is)
    obtain ⟨aF,gF,sF⟩:∃ p,mg "FORMS" = some (.ref p)∧∀ H,L2.SqT (L2.KOf KX) H p ((List.range 10).map fun i=>L2.V.str (Jd.formS i)):=by
      dsimp only [L2.KOf]
      refine' Jd.tup_at KX G ?a ?l ?v ?z
      (case a=>k_is); (case l=>k_is); (case v=>rfl); (case z=>decide)
    obtain ⟨aM,gM,sM⟩:∃ p,mg "MOST_OF_SORT" = some (.ref p)∧∀ H,L2.SqT (L2.KOf KX) H p [.int 16,.int 3,.int 8,.int 16,.int 1]:=by
      dsimp only [L2.KOf]
      refine' Jd.tup_at KX G ?a ?l ?v ?z
      (case a=>k_is); (case l=>k_is); (case v=>rfl); (case z=>decide)
    obtain ⟨aS,gS,dS⟩:∃ p,mg "SORTS" = some (.ref p)∧L2.KDict (L2.KOf KX) w p Jd.sorts:=by
      dsimp only [L2.KOf]
      refine' Jd.sorts_k KX G ?a ?l ?z
      (case a=>k_is); (case l=>k_is); (case z=>decide)
    obtain ⟨aR,gR,dR⟩:∃ p,mg "RANGES" = some (.ref p)∧∃ kvs,L2.KDict (L2.KOf KX) w p kvs∧∀ c,(match JM.rangeOf c with
        | some (lo,hi)=>∃ p,kvs.lookup (⟨#[c]⟩:Str)=some (.ref p)∧∀ H,L2.SqT (L2.KOf KX) H p [.int (lo:Nat),.int (hi:Nat)]
        | none=>kvs.lookup (⟨#[c]⟩:Str)=none):=by
      dsimp only [L2.KOf]
      refine' Jd.ranges_k KX G ?a ?l ?z (Jd.tup_k ?l1 ?v1 ?z1) (Jd.tup_k ?l2 ?v2 ?z2) (Jd.tup_k ?l3 ?v3 ?z3) (Jd.tup_k ?l4 ?v4 ?z4) (Jd.tup_k ?l5 ?v5 ?z5)
      (case a=>k_is); (case l=>k_is); (case z=>decide)
      (case l1=>k_is); (case v1=>rfl); (case z1=>decide)
      (case l2=>k_is); (case v2=>rfl); (case z2=>decide)
      (case l3=>k_is); (case v3=>rfl); (case z3=>decide)
      (case l4=>k_is); (case v4=>rfl); (case z4=>decide)
      (case l5=>k_is); (case v5=>rfl); (case z5=>decide)
    obtain ⟨aG,gG,dG⟩:∃ p,mg "FIGURES" = some (.ref p)∧L2.KDictI (L2.KOf KX) p Jd.figTab:=by
      dsimp only [L2.KOf]
      refine' Jd.figs_k KX G ?a ?l ?z
      (case a=>k_is); (case l=>k_is); (case z=>decide)
    obtain ⟨kEndu,kEnd⟩:(∃ u,mg "LINE_END" = some (.int 10 u)):=by
      refine' Jd.const_at KX G ?a
      (case a=>k_is)
    obtain ⟨kNoughtu,kNought⟩:(∃ u,mg "NOUGHT" = some (.int 48 u)):=by
      refine' Jd.const_at KX G ?a
      (case a=>k_is)
    obtain ⟨kNineu,kNine⟩:(∃ u,mg "NINE" = some (.int 57 u)):=by
      refine' Jd.const_at KX G ?a
      (case a=>k_is)
    obtain ⟨kBytesu,kBytes⟩:(∃ u,mg "MOST_BYTES" = some (.int 4096 u)):=by
      refine' Jd.const_at KX G ?a
      (case a=>k_is)
    obtain ⟨kLinesu,kLines⟩:(∃ u,mg "MOST_LINES" = some (.int 64 u)):=by
      refine' Jd.const_at KX G ?a
      (case a=>k_is)
    obtain ⟨kPassesu,kPasses⟩:(∃ u,mg "MOST_PASSES" = some (.int 250 u)):=by
      refine' Jd.const_at KX G ?a
      (case a=>k_is)
    obtain ⟨kColsu,kCols⟩:(∃ u,mg "COLUMNS" = some (.int 80 u)):=by
      refine' Jd.const_at KX G ?a
      (case a=>k_is)
    obtain ⟨kAmtu,kAmt⟩:(∃ u,mg "MOST_AMOUNT_COLUMNS" = some (.int 18 u)):=by
      refine' Jd.const_at KX G ?a
      (case a=>k_is)
    obtain ⟨kPlacesu,kPlaces⟩:(∃ u,mg "MOST_PLACES" = some (.int 132 u)):=by
      refine' Jd.const_at KX G ?a
      (case a=>k_is)
    obtain ⟨kLongu,kLong⟩:(∃ u,mg "TOO_LONG" = some (.int (-1) u)):=by
      refine' Jd.const_at KX G ?a
      (case a=>k_is)
    obtain ⟨kFaultyu,kFaulty⟩:(∃ u,mg "FAULTY" = some (.int (-6) u)):=by
      refine' Jd.const_at KX G ?a
      (case a=>k_is)
    obtain ⟨kCodesu,kCodes⟩:(∃ u,mg "CODES" = some (.int 64 u)):=by
      refine' Jd.const_at KX G ?a
      (case a=>k_is)
    obtain ⟨kByteu,kByte⟩:(∃ u,mg "MOST_BYTE" = some (.int 255 u)):=by
      refine' Jd.const_at KX G ?a
      (case a=>k_is)
    obtain ⟨kNoSu,kNoS⟩:(∃ u,mg "NO_SIGNS" = some (.int (-2) u)):=by
      refine' Jd.const_at KX G ?a
      (case a=>k_is)
    obtain ⟨kMinusu,kMinus⟩:(∃ u,mg "MINUS_ROW" = some (.int 1 u)):=by
      refine' Jd.const_at KX G ?a
      (case a=>k_is)
    obtain ⟨kLimitu,kLimit⟩:(∃ u,mg "SUM_LIMIT" = some (.int 10000000000000000 u)):=by
      refine' Jd.const_at KX G ?a
      (case a=>k_is)
    obtain ⟨kPlu,kPl⟩:(∃ u,mg "PLACES" = some (.int 132 u)):=by
      refine' Jd.const_at KX G ?a
      (case a=>k_is)
    obtain ⟨kBlanku,kBlank⟩:(∃ u,mg "BLANK" = some (.int 32 u)):=by
      refine' Jd.const_at KX G ?a
      (case a=>k_is)
    obtain ⟨kNotu,kNot⟩:(∃ u,mg "NOT_MET" = some (.int (-5) u)):=by
      refine' Jd.const_at KX G ?a
      (case a=>k_is)
    obtain ⟨kHolesu,kHoles⟩:(∃ u,mg "MOST_HOLES" = some (.int 4095 u)):=by
      refine' Jd.const_at KX G ?a
      (case a=>k_is)
    obtain ⟨kCardsu,kCards⟩:(∃ u,mg "MOST_CARDS" = some (.int 1000 u)):=by
      refine' Jd.const_at KX G ?a
      (case a=>k_is)
    obtain ⟨kNoDu,kNoD⟩:(∃ u,mg "NO_DECK" = some (.int (-8) u)):=by
      refine' Jd.const_at KX G ?a
      (case a=>k_is)
    have zLen:mg "len" = none:=by
      refine' PySem.W.mg_none_of KX G ?a
      (case a=>k_is)
    have zOrd:mg "ord" = none:=by
      refine' PySem.W.mg_none_of KX G ?a
      (case a=>k_is)
    have zSum:mg "sum" = none:=by
      refine' PySem.W.mg_none_of KX G ?a
      (case a=>k_is)
    have zEnum:mg "enumerate" = none:=by
      refine' PySem.W.mg_none_of KX G ?a
      (case a=>k_is)
    have zSet:mg "set" = none:=by
      refine' PySem.W.mg_none_of KX G ?a
      (case a=>k_is)
    have zAll:mg "all" = none:=by
      refine' PySem.W.mg_none_of KX G ?a
      (case a=>k_is)
    have zAbs:mg "abs" = none:=by
      refine' PySem.W.mg_none_of KX G ?a
      (case a=>k_is)
    have zStr:mg "str" = none:=by
      refine' PySem.W.mg_none_of KX G ?a
      (case a=>k_is)
    have zZip:mg "zip" = none:=by
      refine' PySem.W.mg_none_of KX G ?a
      (case a=>k_is)
    have zRange:mg "range" = none:=by
      refine' PySem.W.mg_none_of KX G ?a
      (case a=>k_is)
    have zSorted:mg "sorted" = none:=by
      refine' PySem.W.mg_none_of KX G ?a
      (case a=>k_is)
    have T:Jd.Txt (L2.KOf KX) w mg ⟨CP,CR,CT,aF,aR,aS,aM⟩:=⟨⟨kEndu,kEnd⟩,⟨kNoughtu,kNought⟩,⟨kNineu,kNine⟩,⟨kBytesu,kBytes⟩,⟨kLinesu,kLines⟩,⟨kPassesu,kPasses⟩,⟨kColsu,kCols⟩,⟨kAmtu,kAmt⟩,⟨kPlacesu,kPlaces⟩,⟨kLongu,kLong⟩,⟨kFaultyu,kFaulty⟩,gF,sF,gR,dR,gS,dS,gM,sM,(by obtain ⟨_,_,_,_,_,c⟩:=cP; exact c),nP0,nP1,nP2,(by obtain ⟨_,_,_,_,_,c⟩:=cR; exact c),nR0,nR1,(by obtain ⟨_,_,_,_,_,c⟩:=cT; exact c),nT0,nT1,zLen,zOrd,zSum,zEnum⟩
    have T2:Jd.Tx2 (L2.KOf KX) w mg ⟨CS,aG⟩:=⟨⟨kCodesu,kCodes⟩,⟨kByteu,kByte⟩,⟨kNoSu,kNoS⟩,⟨kMinusu,kMinus⟩,⟨kLimitu,kLimit⟩,⟨kPlu,kPl⟩,⟨kBlanku,kBlank⟩,⟨kNotu,kNot⟩,gG,dG,(by obtain ⟨_,_,_,_,_,c⟩:=cS; exact c),nS0,nS1,zSet,zAll,zAbs,zStr,zZip⟩
    have T3:Jd.Tx3 mg:=⟨⟨kHolesu,kHoles⟩,⟨kCardsu,kCards⟩,⟨kNoDu,kNoD⟩,zRange,zSorted⟩
    have hc:∀ f fd,L2.Fun (L2.KOf KX) "meant_in_order" "meant_in_order" Jd.sMio f fd→mg "meant_in_order" = some (.ref f)→fd.code=.ref cc:=by
      intro f fd F m
      obtain ⟨a,o,fd2,h1,h2,h3,h4⟩:=hcc
      obtain ⟨oc,od,kV,doc,pm,an,cdv,ct,osl,e1,lk,_⟩:=F.ex
      rw [m] at h1
      cases h1
      have h5:=KX _ _ lk
      rw [h2] at h5
      cases h5
      cases h3
      exact h4
    obtain ⟨f,fd,e,hb,hF⟩:=Jd.whole_ok (P:=PySem.Challenge.rw_tabulreports_s03_paper.prog) (cc:=cc) (Pt:=Pt) ⟨T,T2,T3,dCan,dFig,dNum,dRight,dWhole,dBy,dLine,dSplit,dParts,dPass,dField,dRoom,dUnfit,dWrong,dFault,dReport,dWs,dKs,dTs,dSs,dLst,dRowH,dFigH,dCode,dByte,dLeg,dSigns,dHasR,dTopR,dFldOf,dKeyF,dKeyR,dRanks,dMeant,dRdC,dRdD,dMio,dFigV,dAmt,dSumA,dBlk,dPut,dShN,dPutF,dCdL,dLvB,dEnd,dGrp,dStay,dSumd,dMet,dOver,dTtL,dGrL,dHasL,dJoin3,dMean,dPap,cP,cR,cT,cS,mShow⟩ hc
    have e0:=hmg.symm.trans e
    cases e0
    exact ⟨fd,hb,fun base _ _ L=>hF base L⟩
  case S=>
    intro K Pt H H1 xs a hO hwi hask hx sm hP
    cases hx with
    | cons h1 h2=>
      cases h2 with
      | cons h2 h3=>
        cases h3 with
        | cons h3 h4=>
          cases h4 with
          | cons h4 h5=>
            cases h5
            cases h1
            cases h2 with
            | lst hs ha=>
              cases h3 with
              | lst hs3 ha3=>
                cases h4 with
                | lst hs4 ha4=>
                  have e:=L2.ints_dw a.2.1 _ ha
                  subst e
                  have e3:=L2.ints_dw a.2.2.1 _ ha3
                  subst e3
                  have e4:=L2.ints_dw a.2.2.2.1 _ ha4
                  subst e4
                  have q:(Codec.inInt (-1000000000000000000) 1000000000000000000 a.1&&((Codec.inLen 0 65536 a.2.1&&a.2.1.all (Codec.inInt 0 255))&&((Codec.inLen 0 1000 a.2.2.1&&a.2.2.1.all (Codec.inInt 0 255))&&((Codec.inLen 0 400 a.2.2.2.1&&a.2.2.2.1.all (Codec.inInt (-1000000000000000000) 1000000000000000000))&&true))))=true:=hwi
                  simp only [Bool.and_eq_true] at q
                  exact ⟨a.1,_,_,_,a.2.1,a.2.2.1,a.2.2.2.1,rfl,sm.seq hs,(Codec.inNat_iff.mp q.2.1.1).2,fun n hn=>Codec.inInt_iff.mp (List.all_eq_true.mp q.2.1.2 n hn),sm.seq hs3,fun n hn=>Codec.inInt_iff.mp (List.all_eq_true.mp q.2.2.1.2 n hn),sm.seq hs4,Nat.le_trans (Codec.inNat_iff.mp q.2.2.2.1.1).2 (by decide),hP,fun H' p hp=>.lst (L2.SqL.of hp) (L2.dw_ints _)⟩
#print axioms PySem.Challenge.cw_tabulreports_s03_paper_holds
