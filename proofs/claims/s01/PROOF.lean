import PyProof.Rows.All
import Wide.All
import OpenK.AllK
import Wide.FinOn
import PyProof.EqAt
import PyProof.EqKinds
import PyProof.TupleCall
import KE.BitLaws
import KE.IntBitsLaws
import Open.SpecLaws
import KE.OsHead
import KE.OsGo
import PySem.Challenge.RW_tidelocks_s01_answers
set_option Elab.async false
set_option linter.all false
set_option maxRecDepth 100000
noncomputable section
namespace L2
open PySem PySem.Spec PyProof.Rows
abbrev Key:=Sum Int Str
def yP:Key→Value→Bool
 |.inl k,v=>Value.isInt k v
 |.inr x,v=>Value.isStrOf x v
def NX(w:World):Key→Int
 |.inl k=>hashInt k
 |.inr x=>hashStr w x
theorem fh:∀{k:Key} {v:Value},yP k v=true→(∃i t,k=Sum.inl i∧v=Value.int i t)∨(∃x t,k=Sum.inr x∧v=Value.str x t)
 |.inl i,v,h=>by
  obtain⟨t,e⟩:=Value.isInt_shape (k:=i) (v:=v) h
  exact .inl ⟨i,t,rfl,e⟩
 |.inr x,v,h=>by
  obtain⟨t,e⟩:=Value.isStrOf_shape (x:=x) (v:=v) h
  exact .inr ⟨x,t,rfl,e⟩
theorem FQ(i:Int)(t:Tok):yP (.inl i) (.int i t)=true:=by simp[yP,Value.isInt]
theorem FP(x:Str)(t:Tok):yP (.inr x) (.str x t)=true:=by simp[yP,Value.isStrOf]
theorem L6(a b:Int):decide ((Sum.inl a:Key)=Sum.inl b)=(a==b):=by
 by_cases e:a=b
 ·subst e;simp
 ·have h:¬(Sum.inl a:Key)=Sum.inl b:=fun q=>e (Sum.inl.inj q)
  rw[decide_eq_false h]
  exact(beq_eq_false_iff_ne.mpr e).symm
theorem L3(a b:Str):decide ((Sum.inr a:Key)=Sum.inr b)=decide (a=b):=by
 by_cases e:a=b
 ·subst e;simp
 ·have h:¬(Sum.inr a:Key)=Sum.inr b:=fun q=>e (Sum.inr.inj q)
  rw[decide_eq_false h,decide_eq_false e]
theorem L5(a:Int)(b:Str):decide ((Sum.inl a:Key)=Sum.inr b)=false:=decide_eq_false (fun q=>nomatch q)
theorem L4(a:Str)(b:Int):decide ((Sum.inr a:Key)=Sum.inl b)=false:=decide_eq_false (fun q=>nomatch q)
def iV(prog:Program)(w:World):PySem.KeyKind prog w Key where
 is:=yP
 hash:=NX w
 inj:=fun v a b ha hb=>by
  rcases fh ha with⟨i,t,rfl,rfl⟩|⟨x,t,rfl,rfl⟩
  ·rcases fh hb with⟨j,u,rfl,e⟩|⟨y,u,rfl,e⟩
   ·injection e with e1 _;rw[e1]
   ·exact nomatch e
  ·rcases fh hb with⟨j,u,rfl,e⟩|⟨y,u,rfl,e⟩
   ·exact nomatch e
   ·injection e with e1 _;rw[e1]
 byValue:=fun k v h=>by
  rcases fh h with⟨i,t,rfl,rfl⟩|⟨x,t,rfl,rfl⟩<;>rfl
 pyHash:=fun hv h=>by
  rcases fh hv with⟨i,t,rfl,rfl⟩|⟨x,t,rfl,rfl⟩
  ·exact wpAny_pyHash_int h
  ·exact wpAny_pyHash_str h
 eqBool:=fun hu hv h=>by
  rcases fh hu with⟨i,t,rfl,rfl⟩|⟨x,t,rfl,rfl⟩
  ·rcases fh hv with⟨j,u,rfl,rfl⟩|⟨y,u,rfl,rfl⟩
   ·rw[L6]at h;exact wpAny_eqBool_int h
   ·rw[L5]at h;exact SeqAt.EqAt.int_str i t y u _ _ _ _ h
  ·rcases fh hv with⟨j,u,rfl,rfl⟩|⟨y,u,rfl,rfl⟩
   ·rw[L4]at h;exact SeqAt.EqAt.str_int x t j u _ _ _ _ h
   ·rw[L3]at h;exact wpAny_eqBool_str h
 «strs»:=fun k x t v h=>by
  rcases fh h with⟨i,u,rfl,e⟩|⟨y,u,rfl,e⟩
  ·exact nomatch e
  ·injection e with e1 _
   subst e1
   cases v<;>rfl
theorem nV(prog:Program)(w:World)(i:Int)(t:Tok):(iV prog w).is (.inl i) (.int i t)=true:=FQ i t
theorem BI(prog:Program)(w:World)(x:Str)(t:Tok):(iV prog w).is (.inr x) (.str x t)=true:=FP x t
end L2
namespace L2
open PySem PySem.Spec PyProof.Rows
inductive V where
 |gh|bl(b:Bool)|int(i:Int)|str(x:Str)|yX(b:Array UInt8)|flt(b:UInt64)|ref(a:Addr)|ty(n:String)
 deriving DecidableEq
def RelV:V→Value→Prop
 |.gh,u=>u=Value.none
 |.bl b,u=>u=Value.bool b
 |.int i,u=>∃t,u=Value.int i t
 |.str x,u=>∃t,u=Value.str x t
 |.yX b,u=>∃t,u=Value.bytes b t
 |.flt b,u=>∃t,u=Value.float b t
 |.ref a,u=>u=Value.ref a
 |.ty n,u=>u=Value.type n
abbrev Vals:List V→List Value→Prop:=Paired RelV
theorem Vals.length{xs:List V}{us:List Value}(r:Vals xs us):xs.length=us.length:=Paired.length r
theorem Vals.get:∀{xs:List V} {us:List Value} {i:Nat} {x:V},Vals xs us→xs[i]?=some x→∃u,us[i]?=some u∧RelV x u
 |_,_,_,_,.nil,e=>by simp at e
 |_,_,0,_,.cons r _,e=>by simp at e;subst e;exact⟨_,rfl,r⟩
 |_,_,i+1,x,.cons _ t,e=>by
  obtain⟨u,h1,h2⟩:=Vals.get (i:=i) (x:=x) t (by simpa using e)
  exact⟨u,by simpa using h1,h2⟩
theorem Vals.append:∀{xs ys:List V} {us ws:List Value},Vals xs us→Vals ys ws→Vals (xs++ys) (us++ws)
 |_,_,_,_,.nil,s=>s
 |_,_,_,_,.cons r t,s=>.cons r (Vals.append t s)
theorem Vals.take:∀{xs:List V} {us:List Value} (n:Nat),Vals xs us→Vals (xs.take n) (us.take n)
 |_,_,0,_=>.nil
 |_,_,_+1,.nil=>.nil
 |_,_,n+1,.cons r t=>.cons r (Vals.take n t)
theorem Vals.drop:∀{xs:List V} {us:List Value} (n:Nat),Vals xs us→Vals (xs.drop n) (us.drop n)
 |_,_,0,r=>r
 |_,_,_+1,.nil=>.nil
 |_,_,n+1,.cons _ t=>Vals.drop n t
def xO:Option V→Option Value→Prop
 |some v,some u=>RelV v u
 |none,none=>True
 |_,_=>False
def KV{κ:Type}:List (κ×V)→List (κ×Value)→Prop:=Paired fun(p:κ×V) (q:κ×Value)=>p.1=q.1∧RelV p.2 q.2
def kV:Key→V
 |.inl i=>.int i
 |.inr x=>.str x
inductive HO where
 |lst(xs:List V)
 |tup(xs:List V)
 |dK(kvs:List (Key×V))|dT(kvs:List (List Key×V))
 |set(S:Int→Bool)(n:Nat)
 |ins(C dx:Addr)(fs:List (Str×V))
 |own(x:Addr)
 |xd(fs:List (Str×V))
 |met(f x:Addr)
 |NI(lo hi:Int)
 |Al(o:Obj)(u:HO)
 |Lq(ps:Array Value)
 |ext(φ:Heap→Prop)
abbrev Hp:=Addr→Option HO
def upd(H:Hp)(a:Addr)(o:HO):Hp:=fun b=>if b=a then some o else H b
theorem aF{H:Hp}{a:Addr}{o:HO}:upd H a o a=some o:=by unfold upd;rw[if_pos rfl]
theorem cQ{H:Hp}{a b:Addr}{o:HO}(h:b≠a):upd H a o b=H b:=by unfold upd;rw[if_neg h]
theorem eF{H:Hp}{a:Addr}{o u:HO}:upd (upd H a o) a u=upd H a u:=by
 funext b;unfold upd;split<;>rfl
theorem cO{H:Hp}{a b:Addr}{o:HO}(h:H a=some o)(h':H b=none):a≠b:=by
 intro e;subst e;rw[h]at h';cases h'
section
variable(P:Program)(w:World)
def j6(H:Hp)(h:Heap)(a:Addr):HO→Prop
 |.lst xs=>xs.length≤sizeLine∧∃(its:List Value) (n:Nat),Vals xs its∧h.get? a=some {cls:=.type "list",data:=.seq its.toArray n}
 |.tup xs=>xs.length≤sizeLine∧∃its:List Value,Vals xs its∧IsTup h a its.toArray
 |.dK kvs=>kvs.length≤sizeLine∧(a==sysModules)=false∧∃vs,KV kvs vs∧h.DictOf (iV P w) a vs
 |.dT kvs=>kvs.length≤sizeLine∧(a==sysModules)=false∧∃xs:List (List Key×Addr×Value),
   Paired (fun(p:List Key×V) (q:List Key×Addr×Value)=>p.1=q.1∧H q.2.1=some (.tup (p.1.map kV))∧RelV p.2 q.2.2) kvs xs∧
   ∃o es ep,h.get? a=some o∧o.ExactDict∧o.data=.dict es ep∧es.toList=xs.map (entryOfKey (tupleKind (iV P w)))∧(xs.map (·.1)).Nodup
 |.set S n=>h.SetOf (intKind P w) a S n
 |.ins C dx fs=>H dx=some (.own a)∧fs.length≤1000∧dx≠a∧h.get? a=some (PySem.W.instObj C dx)∧
   ∃mA,h.Ns1 dx mA∧(∀f,xO (fs.lookup f) (mA f))∧PySem.Within mA (fs.map (·.1))
 |.own _=>∃o,h.get? a=some o
 |.xd fs=>∃mA,h.Ns1 a mA∧∀f,xO (fs.lookup f) (mA f)
 |.NI lo hi=>∃t u v,h.get? a=some {cls:=.type "range",data:=.fields #[.int lo t,.int hi u,.int 1 v]}
 |.Al o u=>h.get? a=some o∧j6 H h a u
 |.Lq ps=>h.get? a=some {cls:=.none,data:=.fields ps}
 |.met f x=>h.get? a=some (PySem.W.methodObj (.ref f) (.ref x))
 |.ext φ=>φ h∧(∃o,h.get? a=some o)∧∀h1 h2:Heap,φ h1→(∀o,h1.get? a=some o→h2.get? a=some o)→φ h2
def su(H:Hp)(h:Heap):Prop:=∀a o,H a=some o→j6 P w H h a o
end
section
variable{P:Program}{w:World}{H H':Hp}{h h':Heap}{a:Addr}{o:HO}
theorem j6.lt(x:j6 P w H h a o):a<h.objs.size:=by
 cases o with
 |lst xs=>obtain⟨_,_,_,_,e⟩:=x;exact Heap.lt_size e
 |tup xs=>obtain⟨_,_,_,p⟩:=x;exact p.lt
 |dK kvs=>obtain⟨_,_,_,_,o,_,_,e,_⟩:=x;exact Heap.lt_size e
 |dT kvs=>obtain⟨_,_,_,_,o,_,_,e,_⟩:=x;exact Heap.lt_size e
 |set S n=>obtain⟨o,_,_,_,e,_⟩:=x;exact Heap.lt_size e
 |ins C dx fs=>obtain⟨_,_,_,e,_⟩:=x;exact Heap.lt_size e
 |own y=>obtain⟨_,e⟩:=x;exact Heap.lt_size e
 |xd fs=>obtain⟨_,⟨_,_,_,e,_⟩,_⟩:=x;exact Heap.lt_size e
 |NI lo hi=>obtain⟨_,_,_,e⟩:=x;exact Heap.lt_size e
 |Al ob u=>obtain⟨e,_⟩:=x;exact Heap.lt_size e
 |Lq ps=>exact Heap.lt_size (show h.get? a=some _ from x)
 |met f y=>exact Heap.lt_size (show h.get? a=some _ from x)
 |ext φ=>obtain⟨_,⟨_,e⟩,_⟩:=x;exact Heap.lt_size e
theorem Paired.MR{α β:Type}{F G:α→β→Prop}:∀{l₁:List α} {l₂:List β},Paired F l₁ l₂→(∀a b,F a b→G a b)→Paired G l₁ l₂
 |_,_,.nil,_=>.nil
 |_,_,.cons r t,f=>.cons (f _ _ r) (Paired.MR t f)
theorem j6.stay(x:j6 P w H h a o)(k:∀b u,(b=a∨H b=some (.own a))→h.get? b=some u→h'.get? b=some u)
  (ho:∀b,H b=some (.own a)→H' b=some (.own a))(ht:∀b xs,H b=some (.tup xs)→H' b=some (.tup xs)):j6 P w H' h' a o:=by
 induction o with
 |lst xs=>obtain⟨z,its,n,r,e⟩:=x;exact⟨z,its,n,r,k _ _ (.inl rfl) e⟩
 |tup xs=>obtain⟨z,its,r,ob,e,c⟩:=x;exact⟨z,its,r,ob,k _ _ (.inl rfl) e,c⟩
 |dK kvs=>obtain⟨z,y,vs,r,ob,es,ep,e,c⟩:=x;exact⟨z,y,vs,r,ob,es,ep,k _ _ (.inl rfl) e,c⟩
 |dT kvs=>
  obtain⟨z,y,xs,r,ob,es,ep,e,c⟩:=x
  exact⟨z,y,xs,Paired.MR r fun p q z=>⟨z.1,ht _ _ z.2.1,z.2.2⟩,ob,es,ep,k _ _ (.inl rfl) e,c⟩
 |set S n=>obtain⟨ob,es,ep,t,e,c⟩:=x;exact⟨ob,es,ep,t,k _ _ (.inl rfl) e,c⟩
 |ins C dx fs=>
  obtain⟨d,z,ne,e,mA,⟨od,es,ep,e2,c⟩,r⟩:=x
  exact⟨ho _ d,z,ne,k _ _ (.inl rfl) e,mA,⟨od,es,ep,k _ _ (.inr d) e2,c⟩,r⟩
 |own y=>obtain⟨ob,e⟩:=x;exact⟨ob,k _ _ (.inl rfl) e⟩
 |xd fs=>obtain⟨mA,⟨od,es,ep,e,c⟩,r⟩:=x;exact⟨mA,⟨od,es,ep,k _ _ (.inl rfl) e,c⟩,r⟩
 |NI lo hi=>obtain⟨t,u,v,e⟩:=x;exact⟨t,u,v,k _ _ (.inl rfl) e⟩
 |Al ob u ih=>obtain⟨e,q⟩:=x;exact⟨k _ _ (.inl rfl) e,ih q⟩
 |Lq ps=>
  have e:h.get? a=some {cls:=.none,data:=.fields ps}:=x
  show h'.get? a=some {cls:=.none,data:=.fields ps}
  exact k a _ (.inl rfl) e
 |met f y=>
  have e:h.get? a=some (PySem.W.methodObj (.ref f) (.ref y)):=x
  show h'.get? a=some (PySem.W.methodObj (.ref f) (.ref y))
  exact k a _ (.inl rfl) e
 |ext φ=>obtain⟨p,⟨o,e⟩,st⟩:=x;exact⟨st _ _ p fun o q=>k _ _ (.inl rfl) q,⟨o,k _ _ (.inl rfl) e⟩,st⟩
theorem su.lt(x:su P w H h)(e:H a=some o):a<h.objs.size:=(x a o e).lt
theorem su.fresh(x:su P w H h)(e:h.objs.size≤a):H a=none:=by
 cases q:H a with
 |none=>rfl
 |some u=>exact absurd (Nat.lt_of_lt_of_le (x.lt q) e) (Nat.lt_irrefl _)
theorem su.kept(x:su P w H h)(k:∀b u,h.get? b=some u→h'.get? b=some u):su P w H h':=fun a o e=>
 (x a o e).stay (fun b u _ q=>k b u q) (fun _ q=>q) fun _ _ q=>q
theorem su.laid(x:su P w H h)(k:∀b u,h.get? b=some u→h'.get? b=some u)(hp:h.objs.size≤a)(new:j6 P w (upd H a o) h' a o):su P w (upd H a o) h':=fun b u e=>by
 have hn:=x.fresh hp
 by_cases hb:b=a
 ·subst hb;rw[aF]at e;cases e;exact new
 ·rw[cQ hb]at e
  exact(x b u e).stay (fun c v _ q=>k c v q) (fun c q=>by rw[cQ (cO q hn)];exact q) fun c xs q=>by rw[cQ (cO q hn)];exact q
end
def Rd(H:Hp)(a:Addr)(u:HO):Prop:=H a=some u∨∃o,H a=some (.Al o u)
theorem Rd.ok{P:Program}{w:World}{H:Hp}{h:Heap}{a:Addr}{u:HO}(r:Rd H a u)(x:su P w H h):j6 P w H h a u:=by
 rcases r with r|⟨o,r⟩
 ·exact x a u r
 ·obtain⟨_,q⟩:=x a _ r
  exact q
def Nu:Option HO→Prop
 |some (.lst _)=>True
 |some (.dK _)=>True
 |some (.dT _)=>True
 |some (.set _ _)=>True
 |some (.ins _ _ _)=>True
 |some (.ext _)=>True
 |_=>False
section
variable{P:Program}{w:World}{H:Hp}{h h':Heap}{x e:Addr}{o':HO}
theorem su.write(ok:su P w H h)(mu:Nu (H x))(he:e=x∨H e=some (.own x))(k:∀b u,b≠e→h.get? b=some u→h'.get? b=some u)(heo:∃u,h'.get? e=some u)
  (new:j6 P w (upd H x o') h' x o'):su P w (upd H x o') h':=fun b u q=>by
 have nown:∀c y,H c=some (.own y)→c≠x:=fun c y r z=>by subst z;rw[r]at mu;exact mu
 have ntup:∀c xs,H c=some (.tup xs)→c≠x:=fun c xs r z=>by subst z;rw[r]at mu;exact mu
 by_cases hb:b=x
 ·subst hb;rw[aF]at q;cases q;exact new
 ·rw[cQ hb]at q
  by_cases hbe:b=e
  ·have q':H b=some (.own x):=by
    rcases he with z|z
    ·exact absurd (hbe.trans z) hb
    ·rw[hbe];exact z
   rw[q]at q';cases q'
   obtain⟨v,hv⟩:=heo
   exact⟨v,by rw[hbe];exact hv⟩
  ·refine(ok b u q).stay (fun c v hc r=>k c v ?_ r) (fun c r=>by rw[cQ (nown c b r)];exact r) fun c xs r=>by rw[cQ (ntup c xs r)];exact r
   rcases hc with rfl|hc
   ·exact hbe
   ·rintro rfl
    rcases he with z|z
    ·exact nown c b hc z
    ·rw[hc]at z;cases z;exact hb rfl
end
structure Un(fs ex:List Addr)(H H':Hp)(h h':Heap):Prop where
 keep:∀b o,h.get? b=some o→H b=none→b∉fs→b∉ex→h'.get? b=some o
 slot:∀b o,h.get? b=some o→H b=none→b∈fs→b∉ex→∃sl,h'.get? b=some {o with slots:=sl}
 free:∀b o,h.get? b=some o→H b=none→b∉ex→H' b=none
 there:∀b o,h.get? b=some o→b∉ex→∃o',h'.get? b=some o'
 tups:∀b xs,H b=some (.tup xs)→H' b=some (.tup xs)
 Ak:∀b o u,H b=some (.Al o u)→H' b=some (.Al o u)
 AO:∀b ps,H b=some (.Lq ps)→∃more,H' b=some (.Lq (ps++more))
section
variable{fs fs' ex ex':List Addr}{H H1 H2:Hp}{h h1 h2 h':Heap}{a x e:Addr}{o:HO}
theorem Un.any(u:Un fs ex H H1 h h1){b:Addr}{ob:Obj}(q:h.get? b=some ob)(n:H b=none)(hx:b∉ex):∃sl,h1.get? b=some {ob with slots:=sl}:=by
 by_cases hb:b∈fs
 ·exact u.slot b ob q n hb hx
 ·exact⟨ob.slots,u.keep b ob q n hb hx⟩
theorem Un.kept(k:∀b u,h.get? b=some u→h'.get? b=some u):Un fs ex H H h h':=
 ⟨fun b ob q _ _ _=>k b ob q,fun b ob q _ _ _=>⟨ob.slots,k b ob q⟩,fun _ _ _ n _=>n,fun b ob q _=>⟨ob,k b ob q⟩,fun _ _ q=>q,fun _ _ _ q=>q,fun _ ps q=>⟨#[],by rw[q];simp⟩⟩
theorem Un.refl:Un fs ex H H h h:=Un.kept fun _ _ q=>q
theorem Un.laid(k:∀b u,h.get? b=some u→h'.get? b=some u)(hp:h.objs.size≤a)(hn:H a=none):Un fs ex H (upd H a o) h h' where
 keep:=fun b u q _ _ _=>k b u q
 slot:=fun b u q _ _ _=>⟨u.slots,k b u q⟩
 free:=fun b u q n _=>by rw[cQ (Nat.ne_of_lt (Nat.lt_of_lt_of_le (Heap.lt_size q) hp))];exact n
 there:=fun b u q _=>⟨u,k b u q⟩
 tups:=fun b xs q=>by rw[cQ (cO q hn)];exact q
 Ak:=fun b u xs q=>by rw[cQ (cO q hn)];exact q
 AO:=fun b ps q=>⟨#[],by rw[cQ (cO q hn),q];simp⟩
theorem Un.write(mu:Nu (H x))(he:e=x∨H e=some (.own x))(k:∀b u,b≠e→h.get? b=some u→h'.get? b=some u)(heo:∃u,h'.get? e=some u):Un fs ex H (upd H x o) h h':=by
 have hx:∀b,H b=none→b≠x:=fun b n z=>by subst z;rw[n]at mu;exact mu
 have hb:∀b,H b=none→b≠e:=fun b n z=>by
  subst z
  rcases he with r|r
  ·exact hx b n r
  ·rw[n]at r;cases r
 have hm:∀b u,H b=some u→¬Nu (some u)→b≠x:=fun b u q nm z=>by subst z;rw[q]at mu;exact nm mu
 refine⟨fun b u q n _ _=>k b u (hb b n) q,fun b u q n _ _=>⟨u.slots,k b u (hb b n) q⟩,fun b u q n _=>by rw[cQ (hx b n)];exact n,fun b u q _=>?_,
  fun b xs q=>by rw[cQ (hm b _ q fun z=>z)];exact q,fun b u xs q=>by rw[cQ (hm b _ q fun z=>z)];exact q,fun b ps q=>⟨#[],by rw[cQ (hm b _ q fun z=>z),q];simp⟩⟩
 by_cases hbe:b=e
 ·subst hbe;exact heo
 ·exact⟨u,k b u hbe q⟩
end
def Nj(h:Heap)(H:Hp):List Addr:=(List.range h.objs.size).filter fun a=>(H a).isSome
def Ai(h:Heap)(H:Hp):Heap:=PySem.W.hideAll h (Nj h H)
theorem FY(h:Heap)(H:Hp):(Ai h H).objs.size=h.objs.size:=PySem.W.hideAll_size _ _
theorem Iu{h:Heap}{H:Hp}{b:Addr}{o:Obj}(e:h.get? b=some o)(n:H b=none):(Ai h H).get? b=some o:=
 PySem.W.hideAll_get _ e fun hm=>by
  have q:(H b).isSome=true:=(List.mem_filter.mp hm).2
  rw[n]at q;simp at q
theorem J7{h:Heap}{H:Hp}{b:Addr}{o:Obj}(e:(Ai h H).get? b=some o):h.get? b=some o∧H b=none:=by
 have e':h.get? b=some o:=PySem.W.of_hideAll (Nj h H) e
 refine⟨e',?_⟩
 cases q:H b with
 |none=>rfl
 |some x=>
  have hm:b∈Nj h H:=List.mem_filter.mpr ⟨List.mem_range.mpr (Heap.lt_size e'),by simp[q]⟩
  have z:(Ai h H).get? b=none:=PySem.W.hideAll_none (Nj h H) hm
  rw[z]at e;cases e
end L2
namespace L2
open PySem PySem.Spec PyProof.Rows
structure Mod(K:PySem.W.Frag)(mg:Str→Option Value)(base:Heap):Prop where
 MW:K.In base
 glob:base.Ns mainGlobals mg
 blt:∃mb,base.Ns builtinsNs mb∧∀x:Str,x≠"__name__"→mb x=bootBuiltins x
 nolimit:base.NoLimit
structure Cx where
 prog:Program
 w:World
 K:PySem.W.Frag
 mg:Str→Option Value
 base:Heap
 A:Around
 N:List Str
 yu:Shared
 Ng:Hp
 env:Env
 outer:List Env
 stack:List Env
 ex:List Addr
 fn:Str→Bool
 calm:Bool
 pn:List (Addr×Obj)
 xe:Value→Shared→Prop
def frs(l:List Env):List Addr:=l.filterMap (·.frame)
abbrev Cx.fs(X:Cx):List Addr:=frs X.outer
def M8(sc:Scope)(x:Str):Prop:=sc.names.lookup x=some .local∨sc.names.lookup x=some .cell∨sc.names.lookup x=some .free
def Loc(sc:Scope)(x:Str):Prop:=sc.names.lookup x=some .local∨sc.names.lookup x=some .cell
def Look(env:Env)(h:Heap)(m:Str→Option Value)(x:Str)(u:Value):Prop:=
 (env.kindOf x=some .local∧m x=some u)∨((env.kindOf x=some .cell∨env.kindOf x=some .free)∧∃c,env.cells.lookup x=some c∧h.IsCell c (some u))
structure Cx.Ok(X:Cx):Prop where
 mod:Mod X.K X.mg X.base
 kind:X.env.scope.kind=.function
 glob:X.env.globals=mainGlobals
 blt:X.env.builtins=builtinsNs
 above:X.yu.heap.objs.size≤X.env.locals
 inj:∀x y c,X.env.cells.lookup x=some c→X.env.cells.lookup y=some c→x=y
 has:∀x,(X.env.kindOf x=some .cell∨X.env.kindOf x=some .free)→∃c,X.env.cells.lookup x=some c
 M6:∀x c,X.fn x=true→X.env.cells.lookup x=some c→X.yu.heap.objs.size≤c
 hd:X.calm=true→X.A.handled=none
 frames:X.A.frames=some X.stack
 stk:X.stack=X.outer∨(X.stack=X.env::X.outer∧X.env.frame=some X.env.locals)
 Nq:∀b∈X.ex,b≠X.env.locals∧∀x c,X.env.cells.lookup x=some c→c≠b
 bs:∀b o,X.base.get? b=some o→X.yu.heap.get? b=some o∧X.Ng b=none
 Jf:X.base.objs.size≤X.yu.heap.objs.size
 HU:∀b o,X.base.get? b=some o→b∉X.ex
 IG:∀b∈X.ex,b∉X.fs
 uJ:X.yu.heap.FunFrames X.base X.outer
 L7:∀b∈X.fs,X.Ng b=none
structure Inv(X:Cx)(pins:List (Addr×Obj))(σ:List (Option V))(H:Hp)(s:Shared):Prop where
 ok:X.Ok
 os:s.os=X.yu.os
 bare:AllBare s.gens
 base:Un X.fs X.ex X.Ng H X.yu.heap s.heap
 loc:∃m,s.heap.Ns X.env.locals m∧∀(i:Nat) (x:Str) (v:V),X.N[i]?=some x→σ[i]?=some (some v)→M8 X.env.scope x→∃u,RelV v u∧Look X.env s.heap m x u
 cell:∀x c,X.env.cells.lookup x=some c→∃v,s.heap.IsCell c v
 free:H X.env.locals=none
 oq:∀x c,X.env.cells.lookup x=some c→H c=none
 pin:∀p∈X.pn++pins,s.heap.get? p.1=some p.2∧H p.1=none∧p.1≠X.env.locals∧p.1∉X.fs∧∀v,p.2.data≠.cell v
 hok:su X.prog X.w H s.heap
 len:σ.length=X.N.length
section
variable{X:Cx}{pins:List (Addr×Obj)}{σ:List (Option V)}{H H':Hp}{s:Shared}{h':Heap}
theorem Cx.Ok.NT(ok:X.Ok){b:Addr}{o:Obj}(e:X.base.get? b=some o):b∉X.fs:=fun hb=>by
 have:=(ok.uJ.mem hb).1
 rw[e]at this;cases this
theorem Inv.bs(I:Inv X pins σ H s):∀b o,X.base.get? b=some o→s.heap.get? b=some o∧H b=none:=fun b o e=>
 ⟨I.base.keep b o (I.ok.bs b o e).1 (I.ok.bs b o e).2 (I.ok.NT e) (I.ok.HU b o e),I.base.free b o (I.ok.bs b o e).1 (I.ok.bs b o e).2 (I.ok.HU b o e)⟩
theorem Inv.bk(I:Inv X pins σ H s):∀b o,X.base.get? b=some o→s.heap.get? b=some o:=fun b o e=>(I.bs b o e).1
theorem Inv.mod(I:Inv X pins σ H s):Mod X.K X.mg X.base:=I.ok.mod
theorem Inv.B6(I:Inv X pins σ H s):X.K.In s.heap:=I.ok.mod.MW.keeps I.bk
theorem Inv.fr(I:Inv X pins σ H s):∃m,Fr X.base X.env.locals s.heap m:=
 let⟨m,hn,_⟩:=I.loc
 ⟨m,hn,I.bk,Nat.le_trans I.ok.Jf I.ok.above⟩
theorem Inv.lt(I:Inv X pins σ H s):X.env.locals<s.heap.objs.size:=let⟨_,hn,_⟩:=I.loc;hn.lt
theorem Inv.sz(I:Inv X pins σ H s):X.yu.heap.objs.size≤s.heap.objs.size:=Nat.le_trans I.ok.above (Nat.le_of_lt I.lt)
theorem Inv.NS(I:Inv X pins σ H s){a:Addr}(h:s.heap.objs.size≤a):a∉X.fs:=fun hb=>by
 obtain⟨_,o,ho,_⟩:=I.ok.uJ.mem hb
 exact absurd (Nat.lt_of_lt_of_le (Heap.lt_size ho) (Nat.le_trans I.sz h)) (Nat.lt_irrefl _)
theorem Inv.Mg(I:Inv X pins σ H s):∀x c,X.env.cells.lookup x=some c→c≠X.env.locals:=fun x c e z=>by
 obtain⟨v,o,ho,hd⟩:=I.cell x c e
 obtain⟨m,⟨o',es,ep,ho',hd',_⟩,_⟩:=I.loc
 rw[z,ho']at ho;cases ho;rw[hd']at hd;cases hd
theorem Inv.uJ(I:Inv X pins σ H s):s.heap.FunFrames X.base X.outer:=by
 have all:∀(l:List Env),(∀b∈frs l,b∈X.fs)→X.yu.heap.FunFrames X.base l→s.heap.FunFrames X.base l:=by
  intro l
  induction l with
  |nil=>intro _ _;trivial
  |cons env r ih=>
   intro hs hl
   obtain⟨hk,⟨L,o,hf,hn,ho,hd⟩,hr⟩:=hl
   have hL:L∈X.fs:=hs L (by unfold frs;rw[List.filterMap_cons,hf];exact List.mem_cons_self)
   obtain⟨sl,e⟩:=I.base.slot L o ho (I.ok.L7 L hL) hL fun z=>I.ok.IG L z hL
   exact⟨hk,⟨L,_,hf,hn,e,hd⟩,ih (fun b hb=>hs b (by unfold frs;rw[List.filterMap_cons,hf];exact List.mem_cons_of_mem _ hb)) hr⟩
 exact all X.outer (fun _ hb=>hb) I.ok.uJ
theorem Inv.stack(I:Inv X pins σ H s):s.heap.FunFrames X.base X.stack:=by
 rcases I.ok.stk with e|⟨e,hf⟩
 ·rw[e];exact I.uJ
 ·rw[e]
  obtain⟨m,hn,_⟩:=I.loc
  refine .cons (by rw[I.ok.kind];decide) hf hn ?_ I.uJ
  exact Heap.get?_none_of_le (Nat.le_trans I.ok.Jf I.ok.above)
theorem Inv.Cg(I:Inv X pins σ H s):∀b∈frs X.stack,b∈X.env.locals::X.fs:=fun b hb=>by
 rcases I.ok.stk with e|⟨e,hf⟩
 ·rw[e]at hb;exact List.mem_cons_of_mem _ hb
 ·rw[e]at hb
  unfold frs at hb
  rw[List.filterMap_cons,hf]at hb
  exact hb
theorem Inv.Du(I:Inv X pins σ H s):∀b∈frs X.stack,H b=none:=fun b hb=>by
 rcases List.mem_cons.mp (I.Cg b hb)with e|hb
 ·rw[e];exact I.free
 ·obtain⟨_,o,ho,_⟩:=I.ok.uJ.mem hb
  exact I.base.free b o ho (I.ok.L7 b hb) fun z=>I.ok.IG b z hb
theorem Inv.step{g':Array GenState}{t':Nat}{d':Drawn}{ch:List Addr}(I:Inv X pins σ H s)
  (hch:∀b∈ch,(b∈X.ex∨X.yu.heap.objs.size≤b)∧b≠X.env.locals∧(∀x c,X.env.cells.lookup x=some c→c≠b)∧∀p∈X.pn++pins,p.1≠b)
  (keep:∀b o,b≠X.env.locals→b∉X.fs→b∉ch→s.heap.get? b=some o→H b=none→h'.get? b=some o)
  (slot:∀b o,b≠X.env.locals→b∈X.fs→b∉ch→s.heap.get? b=some o→H b=none→∃sl,h'.get? b=some {o with slots:=sl})(free:∀b o,b∉ch→s.heap.get? b=some o→H b=none→H' b=none)
  (there:∀b o,b∉ch→s.heap.get? b=some o→∃o',h'.get? b=some o')
  (tups:∀b xs,H b=some (.tup xs)→H' b=some (.tup xs))(Ak:∀b o u,H b=some (.Al o u)→H' b=some (.Al o u))(AO:∀b ps,H b=some (.Lq ps)→∃more,H' b=some (.Lq (ps++more)))
  (ns:∀m,s.heap.Ns X.env.locals m→h'.Ns X.env.locals m)(hok:su X.prog X.w H' h')(hg:AllBare g'):
  Inv X pins σ H' {s with heap:=h',gens:=g',drawn:=d',toks:=t'}:=by
 have neL:∀b o,X.yu.heap.get? b=some o→b≠X.env.locals:=fun b o e=>Nat.ne_of_lt (Nat.lt_of_lt_of_le (Heap.lt_size e) I.ok.above)
 have neC:∀b o,X.yu.heap.get? b=some o→b∉X.ex→b∉ch:=fun b o e hx hb=>by
  rcases(hch b hb).1 with z|z
  ·exact hx z
  ·exact absurd (Nat.lt_of_lt_of_le (Heap.lt_size e) z) (Nat.lt_irrefl _)
 have cellK:∀x c,X.env.cells.lookup x=some c→∀v,s.heap.IsCell c v→h'.IsCell c v:=fun x c e v ⟨o,ho,hd⟩=>by
  have nch:c∉ch:=fun z=>(hch c z).2.2.1 x c e rfl
  by_cases hc:c∈X.fs
  ·obtain⟨sl,q⟩:=slot c o (I.Mg x c e) hc nch ho (I.oq x c e)
   exact⟨_,q,hd⟩
  ·exact⟨o,keep c o (I.Mg x c e) hc nch ho (I.oq x c e),hd⟩
 refine⟨I.ok,I.os,hg,⟨fun b o e n hb hx=>?_,fun b o e n hb hx=>?_,fun b o e n hx=>?_,fun b o e hx=>?_,fun b xs e=>tups b xs (I.base.tups b xs e),fun b o xs e=>Ak b o xs (I.base.Ak b o xs e),fun b ps e=>?_⟩,?_,fun x c e=>?_,?_,fun x c e=>?_,fun p hp=>?_,hok,I.len⟩
 ·exact keep b o (neL b o e) hb (neC b o e hx) (I.base.keep b o e n hb hx) (I.base.free b o e n hx)
 ·obtain⟨sl,e1⟩:=I.base.slot b o e n hb hx
  obtain⟨sl',e2⟩:=slot b _ (neL b o e) hb (neC b o e hx) e1 (I.base.free b o e n hx)
  exact⟨sl',e2⟩
 ·obtain⟨o',e1⟩:=I.base.there b o e hx
  exact free b o' (neC b o e hx) e1 (I.base.free b o e n hx)
 ·obtain⟨o',e1⟩:=I.base.there b o e hx
  exact there b o' (neC b o e hx) e1
 ·obtain⟨m1,e1⟩:=I.base.AO b ps e
  obtain⟨m2,e2⟩:=AO b _ e1
  exact⟨m1++m2,by rw[e2,Array.append_assoc]⟩
 ·obtain⟨m,hn,hl⟩:=I.loc
  refine⟨m,ns m hn,fun i x v e1 e2 e3=>?_⟩
  obtain⟨u,r,l⟩:=hl i x v e1 e2 e3
  refine⟨u,r,?_⟩
  rcases l with l|⟨k,c,e,z⟩
  ·exact .inl l
  ·exact .inr ⟨k,c,e,cellK x c e _ z⟩
 ·obtain⟨v,z⟩:=I.cell x c e
  exact⟨v,cellK x c e v z⟩
 ·obtain⟨m,⟨o,_,_,ho,_⟩,_⟩:=I.loc
  exact free _ o (fun z=>(hch _ z).2.1 rfl) ho I.free
 ·obtain⟨v,o,ho,hd⟩:=I.cell x c e
  exact free c o (fun z=>(hch c z).2.2.1 x c e rfl) ho (I.oq x c e)
 ·obtain⟨e,n,ne,nf,d⟩:=I.pin p hp
  have nch:p.1∉ch:=fun z=>(hch p.1 z).2.2.2 p hp rfl
  exact⟨keep p.1 p.2 ne nf nch e n,free p.1 p.2 nch e n,ne,nf,d⟩
theorem Inv.un{t':Nat}(I:Inv X pins σ H s)(u:Un X.fs [] H H' s.heap h')(hok:su X.prog X.w H' h'):Inv X pins σ H' {s with heap:=h',toks:=t'}:=by
 obtain⟨m,⟨o,es,ep,ho,r⟩,_⟩:=id I.loc
 obtain⟨sl,hL⟩:=u.any ho I.free (by simp)
 exact I.step (g':=s.gens) (d':=s.drawn) (ch:=[]) (fun _ z=>nomatch z) (fun b o _ hb _ e n=>u.keep b o e n hb (by simp)) (fun b o _ hb _ e n=>u.slot b o e n hb (by simp)) (fun b o _ e n=>u.free b o e n (by simp)) (fun b o _ e=>u.there b o e (by simp)) u.tups u.Ak u.AO (fun m' hm=>by
  obtain⟨o',es',ep',ho',r'⟩:=hm
  rw[ho]at ho';cases ho'
  exact⟨_,es',ep',hL,r'⟩) hok I.bare
theorem Inv.call{g':Array GenState}{t':Nat}{d':Drawn}{ch:List Addr}(I:Inv X pins σ H s)(u:Un (frs X.stack) ch H H' s.heap h')(hok:su X.prog X.w H' h')(hg:AllBare g')
  (hch:∀b∈ch,(b∈X.ex∨X.yu.heap.objs.size≤b)∧b≠X.env.locals∧(∀x c,X.env.cells.lookup x=some c→c≠b)∧∀p∈X.pn++pins,p.1≠b):
  Inv X pins σ H' {s with heap:=h',gens:=g',drawn:=d',toks:=t'}:=by
 obtain⟨m,⟨o,es,ep,ho,r⟩,_⟩:=id I.loc
 obtain⟨sl,hL⟩:=u.any ho I.free fun z=>(hch _ z).2.1 rfl
 exact I.step (ch:=ch) hch (fun b o hL hb hc e n=>u.keep b o e n (fun z=>(List.mem_cons.mp (I.Cg b z)).elim hL hb) hc) (fun b o _ _ hc e n=>u.any e n hc) (fun b o hc e n=>u.free b o e n hc) (fun b o hc e=>u.there b o e hc) u.tups u.Ak u.AO (fun m' hm=>by
  obtain⟨o',es',ep',ho',r'⟩:=hm
  rw[ho]at ho';cases ho'
  exact⟨_,es',ep',hL,r'⟩) hok hg
theorem Inv.turned{t':Nat}{it:Addr}(I:Inv X pins σ H s)(k:∀b o,b≠it→s.heap.get? b=some o→h'.get? b=some o)(hn:H it=none)(hL:it≠X.env.locals)
  (h1:it∈X.ex∨X.yu.heap.objs.size≤it)(h2:∀x c,X.env.cells.lookup x=some c→c≠it)(h3:∀p∈X.pn++pins,p.1≠it):Inv X pins σ H {s with heap:=h',toks:=t'}:=by
 have nit:∀b u,H b=some u→b≠it:=fun b u e z=>by rw[z,hn]at e;cases e
 refine I.step (g':=s.gens) (d':=s.drawn) (ch:=[it]) (fun b hb=>?_) (fun b o _ _ hc e _=>k b o (fun z=>hc (by simp[z])) e) (fun b o _ _ hc e _=>⟨o.slots,k b o (fun z=>hc (by simp[z])) e⟩) (fun _ _ _ _ n=>n)
  (fun b o hc e=>⟨o,k b o (fun z=>hc (by simp[z])) e⟩) (fun _ _ e=>e) (fun _ _ _ e=>e) (fun b ps e=>⟨#[],by rw[e];simp⟩) (fun m hm=>?_) (fun b u e=>?_) I.bare
 ·have e:b=it:=by simpa using hb
  subst e
  exact⟨h1,hL,h2,h3⟩
 ·obtain⟨o,es,ep,ho,r⟩:=hm
  exact⟨o,es,ep,k _ o (Ne.symm hL) ho,r⟩
 ·refine(I.hok b u e).stay (fun c v hc q=>k c v ?_ q) (fun _ q=>q) fun _ _ q=>q
  rcases hc with z|z
  ·rw[z];exact nit b u e
  ·exact nit c _ z
theorem Inv.tok(I:Inv X pins σ H s)(t:Nat):Inv X pins σ H {s with toks:=t}:=I.un (h':=s.heap) (t':=t) Un.refl I.hok
theorem Inv.kept{t':Nat}(I:Inv X pins σ H s)(k:∀b u,s.heap.get? b=some u→h'.get? b=some u):Inv X pins σ H {s with heap:=h',toks:=t'}:=I.un (Un.kept k) (I.hok.kept k)
theorem Inv.laid{a:Addr}{o:HO}{t':Nat}(I:Inv X pins σ H s)(k:∀b u,s.heap.get? b=some u→h'.get? b=some u)(hp:s.heap.objs.size≤a)(new:j6 X.prog X.w (upd H a o) h' a o):
  Inv X pins σ (upd H a o) {s with heap:=h',toks:=t'}:=I.un (Un.laid k hp (I.hok.fresh hp)) (I.hok.laid k hp new)
theorem Inv.write{x e:Addr}{o:HO}{t':Nat}(I:Inv X pins σ H s)(mu:Nu (H x))(he:e=x∨H e=some (.own x))(k:∀b u,b≠e→s.heap.get? b=some u→h'.get? b=some u)(heo:∃u,h'.get? e=some u)
  (new:j6 X.prog X.w (upd H x o) h' x o):Inv X pins σ (upd H x o) {s with heap:=h',toks:=t'}:=I.un (Un.write mu he k heo) (I.hok.write mu he k heo new)
theorem Inv.weak{σ':List (Option V)}(I:Inv X pins σ H s)(hl:σ'.length=σ.length)(w:∀(i:Nat) v,σ'[i]?=some (some v)→σ[i]?=some (some v)):Inv X pins σ' H s:=
 ⟨I.ok,I.os,I.bare,I.base,let⟨m,hn,hl'⟩:=I.loc;⟨m,hn,fun i x v e1 e2 e3=>hl' i x v e1 (w i v e2) e3⟩,I.cell,I.free,I.oq,I.pin,I.hok,hl.trans I.len⟩
theorem Inv.DY{pins':List (Addr×Obj)}(I:Inv X pins σ H s)(h:∀p∈pins',s.heap.get? p.1=some p.2∧H p.1=none∧p.1≠X.env.locals∧p.1∉X.fs∧∀v,p.2.data≠.cell v):Inv X pins' σ H s:=
 ⟨I.ok,I.os,I.bare,I.base,I.loc,I.cell,I.free,I.oq,fun p hp=>(List.mem_append.mp hp).elim (fun z=>I.pin p (List.mem_append_left _ z)) (h p),I.hok,I.len⟩
theorem wN{N:List Str}(hN:N.Nodup){i j:Nat}{x:Str}(a:N[i]?=some x)(b:N[j]?=some x):i=j:=by
 obtain⟨h1,e1⟩:=List.getElem?_eq_some_iff.mp a
 obtain⟨h2,e2⟩:=List.getElem?_eq_some_iff.mp b
 exact(List.getElem_inj hN).mp (e1.trans e2.symm)
theorem yc{M:Model}{A:Around}{E:Value→Shared→Prop}{i:Nat}{x:Str}{v:V}{u:Value}{Q:Unit→Shared→Prop}(I:Inv X pins σ H s)(hN:X.N.Nodup)(hi:X.N[i]?=some x)(hx:Loc X.env.scope x)(r:RelV v u)
  (h:∀s',Inv X pins (σ.set i (some v)) H s'→(∃a,Heap.SameBut a s.heap s'.heap∧(a=X.env.locals∨X.env.cells.lookup x=some a))→Q () s')(hf:X.fn x=true∨X.env.scope.names.lookup x=some .local:=by first|exact .inl rfl|exact .inr rfl|assumption):wpAny M A (storeName X.env x u) Q E s:=by
 obtain⟨m,hn,hl⟩:=id I.loc
 have hcls:(X.env.scope.kind==.class||(X.env.scope.kind==.module&&X.env.locals != X.env.globals))=false:=by rw[I.ok.kind];rfl
 have hiσ:i<σ.length:=by rw[I.len];exact(List.getElem?_eq_some_iff.mp hi).1
 have Mg:=I.Mg
 have tracked:∀{a:Addr} {h':Heap},(∃o,s.heap.get? a=some o∧H a=none)→Heap.SameBut a s.heap h'→su X.prog X.w H h':=fun{a h'} ha hs b ob e=>by
  obtain⟨_,_,hfree⟩:=ha
  refine(I.hok b ob e).stay (fun c w' hc q=>(hs.2 c ?_).trans q) (fun _ q=>q) fun _ _ q=>q
  rintro rfl
  rcases hc with rfl|hc
  ·rw[hfree]at e;cases e
  ·rw[hfree]at hc;cases hc
 rcases hx with hk|hk
 ·refine wpAny_storeName_local hk hn (fun h' hn' hs=>?_) hcls
  obtain⟨oL,_,_,hoL,_⟩:=id hn
  refine h _ ⟨I.ok,I.os,I.bare,⟨fun b o e n hb hx=>?_,fun b o e n hb hx=>?_,I.base.free,fun b o e hx=>?_,I.base.tups,I.base.Ak,I.base.AO⟩,⟨_,hn',fun j y v' e1 e2 e3=>?_⟩,fun y c e=>?_,I.free,I.oq,fun p hp=>?_,tracked ⟨oL,hoL,I.free⟩ hs,by simpa using I.len⟩ ⟨_,hs,.inl rfl⟩
  ·exact(hs.2 b (Nat.ne_of_lt (Nat.lt_of_lt_of_le (Heap.lt_size e) I.ok.above))).trans (I.base.keep b o e n hb hx)
  ·obtain⟨sl,e1⟩:=I.base.slot b o e n hb hx
   exact⟨sl,(hs.2 b (Nat.ne_of_lt (Nat.lt_of_lt_of_le (Heap.lt_size e) I.ok.above))).trans e1⟩
  ·obtain⟨o',e1⟩:=I.base.there b o e hx
   exact⟨o',(hs.2 b (Nat.ne_of_lt (Nat.lt_of_lt_of_le (Heap.lt_size e) I.ok.above))).trans e1⟩
  ·by_cases hj:j=i
   ·subst hj
    rw[hi]at e1;cases e1
    rw[List.getElem?_set_self hiσ]at e2
    cases e2
    exact⟨u,r,.inl ⟨hk,by simp⟩⟩
   ·rw[List.getElem?_set_ne (Ne.symm hj)]at e2
    obtain⟨u',r',q⟩:=hl j y v' e1 e2 e3
    refine⟨u',r',?_⟩
    rcases q with⟨k,e⟩|⟨k,c,e,z⟩
    ·refine .inl ⟨k,?_⟩
     have:y≠x:=fun e=>hj (wN hN e1 (e▸hi))
     simp[this,e]
    ·exact .inr ⟨k,c,e,z.sameBut hs (Mg y c e)⟩
  ·obtain⟨w',z⟩:=I.cell y c e
   exact⟨w',z.sameBut hs (Mg y c e)⟩
  ·obtain⟨e,n,ne,nf,d⟩:=I.pin p hp
   exact⟨(hs.2 p.1 ne).trans e,n,ne,nf,d⟩
 ·have hfn:X.fn x=true:=by
   rcases hf with z|z
   ·exact z
   ·rw[z]at hk;cases hk
  obtain⟨c,hc⟩:=I.ok.has x (.inl hk)
  obtain⟨w',z⟩:=I.cell x c hc
  refine wpAny_storeName_cell I.ok.kind hk hc z (fun h' hc' hs=>?_)
  obtain⟨oc,hoc,hocd⟩:=id z
  refine h {s with heap:=h'} ⟨I.ok,I.os,I.bare,⟨fun b o e n hb hx=>?_,fun b o e n hb hx=>?_,I.base.free,fun b o e hx=>?_,I.base.tups,I.base.Ak,I.base.AO⟩,⟨m,hn.sameBut hs (Ne.symm (Mg x c hc)),fun j y v' e1 e2 e3=>?_⟩,fun y c' e=>?_,I.free,I.oq,fun p hp=>?_,tracked ⟨oc,hoc,I.oq x c hc⟩ hs,by simpa using I.len⟩ ⟨c,hs,.inr hc⟩
  ·exact(hs.2 b (Nat.ne_of_lt (Nat.lt_of_lt_of_le (Heap.lt_size e) (I.ok.M6 x c hfn hc)))).trans (I.base.keep b o e n hb hx)
  ·obtain⟨sl,e1⟩:=I.base.slot b o e n hb hx
   exact⟨sl,(hs.2 b (Nat.ne_of_lt (Nat.lt_of_lt_of_le (Heap.lt_size e) (I.ok.M6 x c hfn hc)))).trans e1⟩
  ·obtain⟨o',e1⟩:=I.base.there b o e hx
   exact⟨o',(hs.2 b (Nat.ne_of_lt (Nat.lt_of_lt_of_le (Heap.lt_size e) (I.ok.M6 x c hfn hc)))).trans e1⟩
  ·by_cases hj:j=i
   ·subst hj
    rw[hi]at e1;cases e1
    rw[List.getElem?_set_self hiσ]at e2
    cases e2
    exact⟨u,r,.inr ⟨.inl hk,c,hc,hc'⟩⟩
   ·rw[List.getElem?_set_ne (Ne.symm hj)]at e2
    obtain⟨u',r',q⟩:=hl j y v' e1 e2 e3
    refine⟨u',r',?_⟩
    rcases q with q|⟨k,c',e,z'⟩
    ·exact .inl q
    ·refine .inr ⟨k,c',e,z'.sameBut hs ?_⟩
     rintro rfl
     exact hj (wN hN e1 (I.ok.inj _ _ _ e hc▸hi))
  ·by_cases hcc:c'=c
   ·subst hcc;exact⟨_,hc'⟩
   ·obtain⟨w2,z2⟩:=I.cell y c' e
    exact⟨w2,z2.sameBut hs hcc⟩
  ·obtain⟨e,n,ne,nf,d⟩:=I.pin p hp
   refine⟨(hs.2 p.1 ?_).trans e,n,ne,nf,d⟩
   intro q
   rw[q,hoc]at e
   have q':oc=p.2:=Option.some.inj e
   exact d w' (by rw[←q'];exact hocd)
theorem AV{M:Model}{A:Around}{E:Value→Shared→Prop}{i:Nat}{x:Str}{v:V}{u:Value}{Q:Unit→Shared→Prop}(I:Inv X pins σ H s)(hN:X.N.Nodup)(hi:X.N[i]?=some x)(hx:Loc X.env.scope x)(r:RelV v u)
  (h:∀s',Inv X pins (σ.set i (some v)) H s'→Q () s')(hf:X.fn x=true∨X.env.scope.names.lookup x=some .local:=by first|exact .inl rfl|exact .inr rfl|assumption):wpAny M A (storeName X.env x u) Q E s:=
 yc I hN hi hx r (fun s' I' _=>h s' I') hf
theorem Inv.M5{s':Shared}{ch:List Addr}(I:Inv X pins σ H s)(ho:s'.os=s.os)(u:Un (frs X.stack) ch H H' s.heap s'.heap)(hok:su X.prog X.w H' s'.heap)(hg:AllBare s'.gens)
  (hch:∀b∈ch,(b∈X.ex∨X.yu.heap.objs.size≤b)∧b≠X.env.locals∧(∀x c,X.env.cells.lookup x=some c→c≠b)∧∀p∈X.pn++pins,p.1≠b):Inv X pins σ H' s':=by
 obtain⟨h',g',d',t',o'⟩:=s'
 have e:o'=s.os:=ho
 subst e
 exact I.call (g':=g') (t':=t') (d':=d') u hok hg hch
end
abbrev XK:=Value→Option Addr→Hp→Prop
abbrev St:=List (Option V)
abbrev VK:=V→Hp→Prop
abbrev TE:=St→Hp→VK→Prop
abbrev TT:=St→Hp→(Bool→Hp→Prop)→Prop
abbrev TA:=St→Hp→(List V→Hp→Prop)→Prop
structure Ends where
 nx:St→Hp→Prop
 rt:VK
 bk:St→Hp→Prop:=fun _ _=>False
 ct:St→Hp→Prop:=fun _ _=>False
abbrev TS:=Ends→St→Hp→Prop
def EP(X:Cx)(pins:List (Addr×Obj))(σ:St)(Q:VK)(u:Value)(s':Shared):Prop:=∃v H',Inv X pins σ H' s'∧RelV v u∧Q v H'
def TP(X:Cx)(pins:List (Addr×Obj))(σ:St)(Q:Bool→Hp→Prop)(b:Bool)(s':Shared):Prop:=∃H',Inv X pins σ H' s'∧Q b H'
def AP(X:Cx)(pins:List (Addr×Obj))(σ:St)(Q:List V→Hp→Prop)(us:List Value)(s':Shared):Prop:=∃vs H',Inv X pins σ H' s'∧Vals vs us∧Q vs H'
def SP(X:Cx)(pins:List (Addr×Obj))(D:Ends)(f:Flow)(s':Shared):Prop:=
 match f with
 |.next=>∃σ' H',Inv X pins σ' H' s'∧D.nx σ' H'
 |.brk=>∃σ' H',Inv X pins σ' H' s'∧D.bk σ' H'
 |.cont=>∃σ' H',Inv X pins σ' H' s'∧D.ct σ' H'
 |.ret u=>∃v σ' H',Inv X pins σ' H' s'∧RelV v u∧D.rt v H'
def PE(X:Cx)(e:Expr)(t:TE):Prop:=
 ∀(pins:List (Addr×Obj)) (s:Shared) (σ:St) (H:Hp) (Q:VK),Inv X pins σ H s→t σ H Q→wpAny (model X.prog X.w) X.A (eval e X.env) (EP X pins σ Q) X.xe s
def PT(X:Cx)(e:Expr)(t:TT):Prop:=
 ∀(pins:List (Addr×Obj)) (s:Shared) (σ:St) (H:Hp) (Q:Bool→Hp→Prop),Inv X pins σ H s→t σ H Q→wpAny (model X.prog X.w) X.A (isTrue e X.env (eval e X.env)) (TP X pins σ Q) X.xe s
def PW(X:Cx)(e:Expr)(t:TT):Prop:=
 ∀(whole:Sem Value) (pins:List (Addr×Obj)) (s:Shared) (σ:St) (H:Hp) (Q:Bool→Hp→Prop),Inv X pins σ H s→t σ H Q→wpAny (model X.prog X.w) X.A (isTrue e X.env whole) (TP X pins σ Q) X.xe s
theorem PW.pt{X:Cx}{e:Expr}{t:TT}(h:PW X e t):PT X e t:=h _
def PA(X:Cx)(es:List Expr)(t:TA):Prop:=
 ∀(pos:Pos) (pins:List (Addr×Obj)) (s:Shared) (σ:St) (H:Hp) (Q:List V→Hp→Prop),Inv X pins σ H s→t σ H Q→wpAny (model X.prog X.w) X.A (spliced (backTo pos (starEach es X.env))) (AP X pins σ Q) X.xe s
def PS(X:Cx)(st:Stmt)(t:TS):Prop:=
 ∀(pins:List (Addr×Obj)) (s:Shared) (σ:St) (H:Hp) (D:Ends),Inv X pins σ H s→t D σ H→wpAny (model X.prog X.w) X.A (exec st X.env) (SP X pins D) X.xe s
def Gh(X:Cx)(st:List Stmt)(t:TS):Prop:=
 ∀(pins:List (Addr×Obj)) (s:Shared) (σ:St) (H:Hp) (D:Ends),Inv X pins σ H s→t D σ H→wpAny (model X.prog X.w) X.A (execs st X.env) (SP X pins D) X.xe s
theorem fS{α:Type}{t:Sem α}{Q Q':α→Shared→Prop}{M:Model}{A:Around}{E:Value→Shared→Prop}{s:Shared}(h:wpAny M A t Q E s)(hQ:∀a s,Q a s→Q' a s):wpAny M A t Q' E s:=wpAny_mono h hQ fun _ _ x=>x
end L2
namespace L2
open PySem PySem.Spec PyProof.Rows
section
variable{X:Cx}
def aG(i:Nat):TE:=fun σ H Q=>∃v,σ[i]?=some (some v)∧Q v H
def tC(v:V):TE:=fun _ H Q=>Q v H
theorem LL{i:Nat}{x:Str}{pos:Pos}(hN:X.N[i]?=some x)(hv:M8 X.env.scope x)(hd:(x==("__debug__":Str))=false:=by decide)(hcd:(x==("__classdict__":Str))=false:=by decide):PE X (.Name x pos) (aG i):=by
 intro pins s σ H Q I h
 obtain⟨v,e,h⟩:=h
 obtain⟨m,hn,hl⟩:=I.loc
 obtain⟨u,r,l⟩:=hl i x v hN e hv
 have fin:EP X pins σ Q u s:=⟨v,H,I,r,h⟩
 rcases l with⟨hk,hm⟩|⟨hk,c,hc,hcell⟩
 ·exact wpAny_Name (wpAny_loadName_local I.ok.kind hk hn hm fin) hd
 ·rcases hk with hk|hk
  ·exact wpAny_Name (wpAny_loadName_cell I.ok.kind hk hc hcell fin) hd
  ·exact wpAny_Name (wpAny_loadName_free I.ok.kind hk hc hcell fin hcd) hd
theorem az{i j pos}:PE X (.Constant (.int i) j pos) (tC (.int i)):=fun _ _ _ H _ I h=>wpAny_Constant_int ⟨.int i,H,I.tok _,⟨_,rfl⟩,h⟩
theorem D3{b j pos}:PE X (.Constant (.bool b) j pos) (tC (.bl b)):=fun _ _ _ H _ I h=>Constant_bool ⟨.bl b,H,I,rfl,h⟩
theorem Hu{j pos}:PE X (.Constant .none j pos) (tC .gh):=fun _ _ _ H _ I h=>Constant_none ⟨.gh,H,I,rfl,h⟩
theorem CI{x j pos}:PE X (.Constant (.str x) j pos) (tC (.str x)):=fun _ _ _ H _ I h=>Calls.Constant_str ⟨.str x,H,I.tok _,⟨_,rfl⟩,h⟩
def Gl(X:Cx)(x:Str):Prop:=X.env.kindOf x=some .globalImplicit
theorem uX{E:Value→Shared→Prop}{pins:List (Addr×Obj)}{s:Shared}{σ:St}{H:Hp}{x:Str}{u:Value}{pos:Pos}{Q:Value→Shared→Prop}(I:Inv X pins σ H s)(hg:Gl X x)(hm:X.mg x=some u)(h:Q u s)
  (hd:(x==("__debug__":Str))=false:=by decide):wpAny (model X.prog X.w) X.A (eval (.Name x pos) X.env) Q E s:=
 Calls.Name_function_global I.ok.kind hg (Calls.loadGlobal_global (by rw[I.ok.glob];exact I.mod.glob.keeps I.bk) hm h) hd
theorem tF{E:Value→Shared→Prop}{pins:List (Addr×Obj)}{s:Shared}{σ:St}{H:Hp}{x:Str}{u:Value}{pos:Pos}{Q:Value→Shared→Prop}(I:Inv X pins σ H s)(hg:Gl X x)(hm:X.mg x=none)(hv:bootBuiltins x=some u)(h:Q u s)
  (hn:x≠"__name__":=by decide)(hd:(x==("__debug__":Str))=false:=by decide):wpAny (model X.prog X.w) X.A (eval (.Name x pos) X.env) Q E s:=by
 obtain⟨mb,h1,h2⟩:=I.mod.blt
 exact Calls.Name_function_global I.ok.kind hg (Calls.loadGlobal_builtin (by rw[I.ok.glob];exact I.mod.glob.keeps I.bk) hm (by rw[I.ok.blt];exact h1.keeps I.bk) ((h2 x hn).trans hv) h) hd
theorem D0{x:Str}{v:V}{u:Value}{pos:Pos}(hg:Gl X x)(hm:X.mg x=some u)(r:RelV v u)(hd:(x==("__debug__":Str))=false:=by decide):PE X (.Name x pos) (tC v):=
 fun _ _ _ H _ I h=>uX I hg hm ⟨v,H,I,r,h⟩ hd
variable{a b:Expr}{ta tb:TE}{pos:Pos}
variable{tA tB':TT}{rest:List Expr}
def aP(t u:TT):TT:=fun σ H Q=>t σ H fun c H1=>if c=true then u σ H1 Q else Q false H1
def bT(t u:TT):TT:=fun σ H Q=>t σ H fun c H1=>if c=true then Q true H1 else u σ H1 Q
def aV(t:TT):TT:=fun σ H Q=>t σ H fun c H1=>Q (!c) H1
theorem uQ(ha:PT X a tA):PW X (.BoolOp .And [a] pos) tA:=by
 intro wh pins s σ H Q I h
 refine isTrue_and (fS (ha pins s σ H Q I h) fun c s1 e=>?_)
 cases c with
 |true=>exact isTrue_and_nil e
 |false=>exact e
theorem nH(ha:PT X a tA):PW X (.BoolOp .Or [a] pos) tA:=by
 intro wh pins s σ H Q I h
 refine isTrue_or (fS (ha pins s σ H Q I h) fun c s1 e=>?_)
 cases c with
 |false=>exact isTrue_or_nil e
 |true=>exact e
theorem zI(ha:PT X a tA)(hb:PW X (.BoolOp .And (b::rest) pos) tB'):PW X (.BoolOp .And (a::b::rest) pos) (aP tA tB'):=by
 intro wh pins s σ H Q I h
 refine isTrue_and (fS (ha pins s σ H _ I h) fun c s1 ⟨H1,I1,q1⟩=>?_)
 cases c with
 |true=>exact hb wh pins s1 σ H1 Q I1 q1
 |false=>exact⟨H1,I1,q1⟩
theorem uc(ha:PT X a tA)(hb:PW X (.BoolOp .Or (b::rest) pos) tB'):PW X (.BoolOp .Or (a::b::rest) pos) (bT tA tB'):=by
 intro wh pins s σ H Q I h
 refine isTrue_or (fS (ha pins s σ H _ I h) fun c s1 ⟨H1,I1,q1⟩=>?_)
 cases c with
 |true=>exact⟨H1,I1,q1⟩
 |false=>exact hb wh pins s1 σ H1 Q I1 q1
theorem eT(ha:PT X a tA):PT X (.UnaryOp .Not a pos) (aV tA):=by
 intro pins s σ H Q I h
 exact isTrue_not (ha pins s σ H (fun c H1=>Q (!c) H1) I h)
def aZ(ta tb:TE):TE:=fun σ H Q=>ta σ H fun x H1=>∃c,x=.bl c∧if c=true then tb σ H1 Q else Q (.bl false) H1
def bH(ta tb:TE):TE:=fun σ H Q=>ta σ H fun x H1=>∃c,x=.bl c∧if c=true then Q (.bl true) H1 else tb σ H1 Q
def aY(ta:TE):TE:=fun σ H Q=>ta σ H fun x H1=>∃c,x=.bl c∧Q (.bl (!c)) H1
theorem zO{op}{t:TE}(h:PE X a t):PE X (.BoolOp op [a] pos) t:=fun pins s σ H Q I hw=>BoolOp_one (h pins s σ H Q I hw)
theorem CK(ha:PE X a ta)(hb:PE X (.BoolOp .And (b::rest) pos) tb):PE X (.BoolOp .And (a::b::rest) pos) (aZ ta tb):=by
 intro pins s σ H Q I h
 refine BoolOp_and (fS (ha pins s σ H _ I h) fun v s1 ⟨x,H1,I1,r1,q1⟩=>?_)
 obtain⟨c,rfl,q1⟩:=q1
 cases r1
 refine wpAny_truthy_bool ?_
 cases c with
 |true=>exact hb pins s1 σ H1 Q I1 q1
 |false=>exact⟨.bl false,H1,I1,rfl,q1⟩
theorem MG(ha:PE X a ta)(hb:PE X (.BoolOp .Or (b::rest) pos) tb):PE X (.BoolOp .Or (a::b::rest) pos) (bH ta tb):=by
 intro pins s σ H Q I h
 refine BoolOp_or (fS (ha pins s σ H _ I h) fun v s1 ⟨x,H1,I1,r1,q1⟩=>?_)
 obtain⟨c,rfl,q1⟩:=q1
 cases r1
 refine wpAny_truthy_bool ?_
 cases c with
 |false=>exact hb pins s1 σ H1 Q I1 q1
 |true=>exact⟨.bl true,H1,I1,rfl,q1⟩
theorem zP(ha:PE X a ta):PE X (.UnaryOp .Not a pos) (aY ta):=by
 intro pins s σ H Q I h
 refine UnaryOp_ (fS (ha pins s σ H _ I h) fun v s1 ⟨x,H1,I1,r1,q1⟩=>?_)
 obtain⟨c,rfl,q1⟩:=q1
 cases r1
 exact not_of (wpAny_truthy_bool ⟨.bl (!c),H1,I1,rfl,q1⟩)
def bV(t:TT)(ta tb:TE):TE:=fun σ H Q=>t σ H fun c H1=>if c=true then ta σ H1 Q else tb σ H1 Q
theorem fO{c:Expr}(hc:PT X c tA)(ha:PE X a ta)(hb:PE X b tb):PE X (.IfExp c a b pos) (bV tA ta tb):=by
 intro pins s σ H Q I h
 refine wpAny_IfExp (fS (hc pins s σ H _ I h) fun d s1 ⟨H1,I1,q1⟩=>?_)
 cases d with
 |true=>exact ha pins s1 σ H1 Q I1 q1
 |false=>exact hb pins s1 σ H1 Q I1 q1
end
end L2
namespace L2
open PySem PySem.Spec PyProof.Rows
def dY(K:PySem.W.Frag)(H:Hp)(a:Addr)(xs:List V):Prop:=
 Rd H a (.lst xs)∨
  ∃(o:Obj) (its:Array Value) (n:Nat),K.lookup a=some o∧o.cls=.type "list"∧o.dict=none∧o.data=.seq its n∧its.size≤sizeLine∧Vals xs its.toList
def jF(K:PySem.W.Frag)(H:Hp)(a:Addr)(xs:List V):Prop:=
 Rd H a (.tup xs)∨
  ∃(o:Obj) (its:Array Value) (n:Nat),K.lookup a=some o∧o.cls=.type "tuple"∧o.data=.seq its n∧its.size≤sizeLine∧Vals xs its.toList
def N5:Value→Option V
 |.none=>some .gh
 |.bool b=>some (.bl b)
 |.int i _=>some (.int i)
 |.str x _=>some (.str x)
 |.bytes b _=>some (.yX b)
 |.float b _=>some (.flt b)
 |.ref a=>some (.ref a)
 |.type n=>some (.ty n)
 |_=>none
theorem RelV.abs{x:V}{u:Value}(r:RelV x u):N5 u=some x:=by
 cases x with
 |gh=>cases r;rfl
 |bl _=>cases r;rfl
 |int _=>obtain⟨t,rfl⟩:=r;rfl
 |str _=>obtain⟨t,rfl⟩:=r;rfl
 |yX _=>obtain⟨t,rfl⟩:=r;rfl
 |flt _=>obtain⟨t,rfl⟩:=r;rfl
 |ref _=>cases r;rfl
 |ty _=>cases r;rfl
theorem RelV.inj{x y:V}{u:Value}(r:RelV x u)(q:RelV y u):x=y:=Option.some.inj (r.abs.symm.trans q.abs)
theorem Vals.inj:∀{xs ys:List V} {us:List Value},Vals xs us→Vals ys us→xs=ys
 |_,_,_,.nil,.nil=>rfl
 |_,_,_,.cons r t,.cons r' t'=>by rw[r.inj r',Vals.inj t t']
section
variable{X:Cx}{pins:List (Addr×Obj)}{σ:St}{H:Hp}{s:Shared}{a:Addr}{xs ys:List V}
theorem dY.of{K:PySem.W.Frag}(h:H a=some (.lst xs)):dY K H a xs:=.inl (.inl h)
theorem jF.of{K:PySem.W.Frag}(h:H a=some (.tup xs)):jF K H a xs:=.inl (.inl h)
theorem Inv.list(I:Inv X pins σ H s)(h:dY X.K H a xs):∃its:List Value,Vals xs its∧PlainL s.heap a its.toArray∧xs.length≤sizeLine:=by
 rcases h with h|⟨o,its,n,hk,hc,hd,hs,hz,r⟩
 ·obtain⟨z,its,n,r,e⟩:=h.ok I.hok
  exact⟨its,r,⟨_,n,e,rfl,rfl,rfl⟩,z⟩
 ·refine⟨its.toList,r,⟨o,n,I.B6 a o hk,hc,hd,by simpa using hs⟩,?_⟩
  have e:=r.length
  simp only[Array.length_toList]at e
  lia
theorem Inv.tuple(I:Inv X pins σ H s)(h:jF X.K H a xs):∃its:List Value,Vals xs its∧IsTup s.heap a its.toArray∧xs.length≤sizeLine:=by
 rcases h with h|⟨o,its,n,hk,hc,hs,hz,r⟩
 ·obtain⟨z,its,r,p⟩:=h.ok I.hok
  exact⟨its,r,p,z⟩
 ·refine⟨its.toList,r,⟨o,I.B6 a o hk,hc,n,by simpa using hs⟩,?_⟩
  have e:=r.length
  simp only[Array.length_toList]at e
  lia
theorem Inv.BK(I:Inv X pins σ H s)(h:dY X.K H a xs)(h':dY X.K H a ys):xs=ys:=by
 obtain⟨its,r,⟨o,n,e,_,_,d⟩,_⟩:=I.list h
 obtain⟨its',r',⟨o',n',e',_,_,d'⟩,_⟩:=I.list h'
 rw[e]at e';cases e'
 rw[d]at d'
 injection d' with d1 _
 have:its=its':=by simpa using congrArg Array.toList d1
 subst this
 exact r.inj r'
theorem Inv.EL(I:Inv X pins σ H s)(h:jF X.K H a xs)(h':jF X.K H a ys):xs=ys:=by
 obtain⟨its,r,⟨o,e,_,n,d⟩,_⟩:=I.tuple h
 obtain⟨its',r',⟨o',e',_,n',d'⟩,_⟩:=I.tuple h'
 rw[e]at e';cases e'
 rw[d]at d'
 injection d' with d1 _
 have:its=its':=by simpa using congrArg Array.toList d1
 subst this
 exact r.inj r'
end
abbrev Cx.xU(X:Cx)(E:Value→Shared→Prop):Cx:={X with xe:=E}
abbrev Cx.Nl(X:Cx):Cx:=X.xU fun _ _=>False
theorem Cx.Ok.xU{X:Cx}(ok:X.Ok)(E:Value→Shared→Prop):(X.xU E).Ok:=
 ⟨ok.mod,ok.kind,ok.glob,ok.blt,ok.above,ok.inj,ok.has,ok.M6,ok.hd,ok.frames,ok.stk,ok.Nq,ok.bs,ok.Jf,ok.HU,ok.IG,ok.uJ,ok.L7⟩
theorem Cx.Ok.mZ{X:Cx}{E:Value→Shared→Prop}(ok:(X.xU E).Ok):X.Ok:=
 ⟨ok.mod,ok.kind,ok.glob,ok.blt,ok.above,ok.inj,ok.has,ok.M6,ok.hd,ok.frames,ok.stk,ok.Nq,ok.bs,ok.Jf,ok.HU,ok.IG,ok.uJ,ok.L7⟩
section
variable{X:Cx}{pins:List (Addr×Obj)}{σ:St}{H:Hp}{s:Shared}{E:Value→Shared→Prop}
theorem Inv.xU(I:Inv X pins σ H s)(E:Value→Shared→Prop):Inv (X.xU E) pins σ H s:=⟨I.ok.xU E,I.os,I.bare,I.base,I.loc,I.cell,I.free,I.oq,I.pin,I.hok,I.len⟩
theorem Inv.mZ(I:Inv (X.xU E) pins σ H s):Inv X pins σ H s:=⟨I.ok.mZ,I.os,I.bare,I.base,I.loc,I.cell,I.free,I.oq,I.pin,I.hok,I.len⟩
theorem SP.mZ{D:Ends}{f:Flow}{s':Shared}(h:SP (X.xU E) pins D f s'):SP X pins D f s':=by
 cases f with
 |next=>obtain⟨σ',H',I,q⟩:=h;exact⟨σ',H',I.mZ,q⟩
 |brk=>obtain⟨σ',H',I,q⟩:=h;exact⟨σ',H',I.mZ,q⟩
 |cont=>obtain⟨σ',H',I,q⟩:=h;exact⟨σ',H',I.mZ,q⟩
 |ret u=>obtain⟨v,σ',H',I,r,q⟩:=h;exact⟨v,σ',H',I.mZ,r,q⟩
theorem Gh.Nl{st:List Stmt}{t:TS}(h:Gh X.Nl st t):Gh X st t:=fun pins s σ H D I hw=>
 wpAny_mono (h pins s σ H D (I.xU _) hw) (fun _ _ q=>q.mZ) fun _ _ z=>False.elim z
end
section
variable{X:Cx}{st:Stmt}{rest:List Stmt}{t u:TS}{e:Expr}{te:TE}{pos:Pos}
def ay:TS:=fun D σ H=>D.nx σ H
def aN(t u:TS):TS:=fun D σ H=>t {D with nx:=u D} σ H
theorem cg:Gh X [] ay:=fun _ _ σ H _ I h=>wpAny_execs_nil ⟨σ,H,I,h⟩
theorem ai(h1:PS X st t)(h2:Gh X rest u):Gh X (st::rest) (aN t u):=by
 intro pins s σ H D I h
 refine wpAny_execs_cons (fS (h1 pins s σ H {D with nx:=u D} I h) fun f s1 q=>?_)
 cases f with
 |next=>
  obtain⟨σ',H',I',q⟩:=q
  exact h2 pins s1 σ' H' D I' q
 |ret v=>exact q
 |brk=>exact q
 |cont=>exact q
theorem aB(h1:PS X st t):Gh X [st] t:=by
 intro pins s σ H D I h
 refine wpAny_execs_cons (fS (h1 pins s σ H D I h) fun f s1 q=>?_)
 cases f with
 |next=>exact wpAny_execs_nil q
 |ret v=>exact q
 |brk=>exact q
 |cont=>exact q
theorem Inv.quiet{pins:List (Addr×Obj)}{σ:St}{H:Hp}{s:Shared}(I:Inv X pins σ H s):interactive X.env=false:=by simp[interactive,I.ok.kind]
def aJ(te:TE):TS:=fun D σ H=>te σ H fun _ H1=>D.nx σ H1
theorem fK(he:PE X e te)(hs:swapsWith e none pos.line X.env=pure false:=by rfl):PS X (.Expr e pos) (aJ te):=by
 intro pins s σ H D I h
 exact wpAny_Expr_any (fS (he pins s σ H _ I h) fun v s1 ⟨x,H1,I1,r1,q1⟩=>⟨σ,H1,I1,q1⟩) I.quiet hs
def aO(te:TE):TS:=fun D σ H=>te σ H D.rt
theorem bA(he:PE X e te):PS X (.Return (some e) pos) (aO te):=by
 intro pins s σ H D I h
 exact wpAny_Return_some (fS (he pins s σ H _ I h) fun v s1 ⟨x,H1,I1,r1,q1⟩=>⟨x,σ,H1,I1,r1,q1⟩)
def aK(c:TT)(t u:TS):TS:=fun D σ H=>c σ H fun b H1=>if b=true then t D σ H1 else u D σ H1
theorem cZ{c:Expr}{a b:List Stmt}{tc:TT}(hc:PT X c tc)(ha:Gh X a t)(hb:Gh X b u):PS X (.If c a b pos) (aK tc t u):=by
 intro pins s σ H D I h
 refine wpAny_If (fS (hc pins s σ H _ I h) fun d s1 ⟨H1,I1,q1⟩=>?_)
 cases d with
 |true=>exact ha pins s1 σ H1 D I1 q1
 |false=>exact hb pins s1 σ H1 D I1 q1
end
abbrev TG:=V→St→Hp→(St→Hp→Prop)→Prop
def PG(X:Cx)(target:Expr)(t:TG):Prop:=
 ∀(pins:List (Addr×Obj)) (s:Shared) (σ:St) (H:Hp) (v:V) (u:Value) (Q:St→Hp→Prop),Inv X pins σ H s→RelV v u→t v σ H Q→
  wpAny (model X.prog X.w) X.A (assign target X.env u) (fun _ s'=>∃σ' H',Inv X pins σ' H' s'∧Q σ' H') X.xe s
section
variable{X:Cx}{pos:Pos}
def ao(i:Nat):TG:=fun v σ H Q=>Q (σ.set i (some v)) H
theorem dJ{i:Nat}{x:Str}(hN:X.N.Nodup)(hi:X.N[i]?=some x)(hx:Loc X.env.scope x)(hf:X.fn x=true∨X.env.scope.names.lookup x=some .local:=by first|exact .inl rfl|exact .inr rfl|assumption):PG X (.Name x pos) (ao i):=by
 intro pins s σ H v u Q I r h
 exact wpAny_assign_Name (AV I hN hi hx r (fun s' I'=>⟨_,H,I',h⟩) hf)
def aL(te:TE)(g:TG):TS:=fun D σ H=>te σ H fun x H1=>g x σ H1 D.nx
theorem bB{i:Nat}{x:Str}{e:Expr}{te:TE}{pos':Pos}(hN:X.N.Nodup)(hi:X.N[i]?=some x)(hx:Loc X.env.scope x)(he:PE X e te)(hs:swapsWith e (some (.Name x pos')) pos.line X.env=pure false:=by rfl)(hf:X.fn x=true∨X.env.scope.names.lookup x=some .local:=by first|exact .inl rfl|exact .inr rfl|assumption):
  PS X (.Assign [.Name x pos'] e pos) (aL te (ao i)):=by
 intro pins s σ H D I h
 refine wpAny_Assign_Name (fS (he pins s σ H _ I h) fun v s1 ⟨y,H1,I1,r1,q1⟩=>?_) hs
 exact AV I1 hN hi hx r1 (fun s2 I2=>⟨_,H1,I2,q1⟩) hf
end
section
variable{X:Cx}{pos:Pos}
def GB(c:TT)(tb:TS):TS:=fun D σ H=>∃W:Nat→St→Hp→Prop,(∃m,W m σ H)∧∀m σ H,W m σ H→
 c σ H fun b H1=>if b=true then ∃N:St→Hp→Prop,(∀σ' H',N σ' H'→∃m',m'<m∧W m' σ' H')∧tb {D with nx:=N,ct:=N,bk:=D.nx} σ H1 else D.nx σ H1
theorem nI{c:Expr}{body:List Stmt}{tc:TT}{tb:TS}(hp:PassesOwn (model X.prog X.w) X.A X.env X.xe)(hc:PT X c tc)(hb:Gh X body tb):PS X (.While c body [] pos) (GB tc tb):=by
 intro pins s σ H D I h
 obtain⟨W,⟨m0,w0⟩,turn⟩:=h
 refine wpAny_While (codeAny_whileLoop (fun n s'=>∃σ' H',Inv X pins σ' H' s'∧W n σ' H') ?_ m0 ⟨σ,H,I,w0⟩)
 rintro n s1 ⟨σ1,H1,I1,w1⟩
 refine wpAny_passesOwn hp (fS (hc pins s1 σ1 H1 _ I1 (turn n σ1 H1 w1)) fun b s2 ⟨H2,I2,q2⟩=>?_)
 cases b with
 |true=>
  obtain⟨N,hN,q2⟩:=q2
  rw[if_pos rfl]
  refine wpAny_passesOwn hp (fS (hb pins s2 σ1 H2 _ I2 q2) fun f s3 q3=>?_)
  cases f with
  |next=>
   obtain⟨σ3,H3,I3,n3⟩:=q3
   obtain⟨m',hm,w3⟩:=hN σ3 H3 n3
   exact⟨m',hm,σ3,H3,I3,w3⟩
  |cont=>
   obtain⟨σ3,H3,I3,n3⟩:=q3
   obtain⟨m',hm,w3⟩:=hN σ3 H3 n3
   exact⟨m',hm,σ3,H3,I3,w3⟩
  |brk=>exact q3
  |ret v=>exact q3
 |false=>
  rw[if_neg Bool.false_ne_true]
  exact wpAny_execs_nil ⟨σ1,H2,I2,q2⟩
end
structure It where
 go:Nat→Hp→Prop
 Az:Nat→Hp→V→Hp→Prop
 stop:Nat→Hp→Prop
def xZ(X:Cx)(pins:List (Addr×Obj))(H:Hp)(b:Addr):Prop:=
 H b=none∧b≠X.env.locals∧b∉X.fs∧(b∈X.ex∨X.yu.heap.objs.size≤b)∧(∀x c,X.env.cells.lookup x=some c→c≠b)∧∀p∈X.pn++pins,p.1≠b
theorem Inv.IA{X:Cx}{pins:List (Addr×Obj)}{σ:St}{H H':Hp}{s:Shared}{b:Addr}(I:Inv X pins σ H s)(hb:s.heap.objs.size≤b)(hn:H' b=none):xZ X pins H' b:=by
 refine⟨hn,Nat.ne_of_gt (Nat.lt_of_lt_of_le I.lt hb),I.NS hb,.inr (Nat.le_trans I.sz hb),fun x c e z=>?_,fun p hp z=>?_⟩
 ·obtain⟨v,q⟩:=I.cell x c e
  exact absurd (Nat.lt_of_lt_of_le q.lt (by rw[z];exact hb)) (Nat.lt_irrefl _)
 ·exact absurd (Nat.lt_of_lt_of_le (Heap.lt_size (I.pin p hp).1) (by rw[z];exact hb)) (Nat.lt_irrefl _)
structure Turn(P:Program)(w:World)(K:PySem.W.Frag)(tg:Expr)(J:It)(fp:List Addr)(it:Addr)(tn:Nat→Heap→Prop):Prop where
 mem:it∈fp
 obj:∀i h,tn i h→∀b∈fp,∃o,h.get? b=some o∧∀v,o.data≠.cell v
 keep:∀i h h',tn i h→(∀b∈fp,∀o,h.get? b=some o→h'.get? b=some o)→tn i h'
 item:∀(X:Cx),X.prog=P→X.w=w→X.K=K→X.calm=true→∀(i:Nat) (pins:List (Addr×Obj)) (s:Shared) (σ:St) (H:Hp) (E:Value→Shared→Prop),Inv X pins σ H s→(∀b∈fp,xZ X pins H b)→tn i s.heap→J.go i H→
  wpAny (model P w) X.A (pyNext (.ref it)) (fun r s1=>∃u,r=some u∧
   wpAny (model P w) X.A (letOwnedTupleGo tg (.ref it) u) (fun _ s2=>∃x H',Inv X pins σ H' s2∧RelV x u∧J.Az i H x H'∧tn (i+1) s2.heap∧∀b∈fp,H' b=none) E s1) E s
 done:∀(X:Cx),X.prog=P→X.w=w→X.K=K→X.calm=true→∀(i:Nat) (pins:List (Addr×Obj)) (s:Shared) (σ:St) (H:Hp) (E:Value→Shared→Prop),Inv X pins σ H s→(∀b∈fp,xZ X pins H b)→tn i s.heap→J.stop i H→
  wpAny (model P w) X.A (pyNext (.ref it)) (fun r s1=>r=none∧Inv X pins σ H s1) E s
 self:∀(A:Around) (i:Nat) (s:Shared) (Q:Value→Shared→Prop) (E:Value→Shared→Prop),tn i s.heap→Q (.ref it) s→wpAny (model P w) A (pyIter (.ref it)) Q E s
abbrev TI:=St→Hp→(It→Hp→Prop)→Prop
def Ob(X:Cx)(pins:List (Addr×Obj))(σ:St)(tg:Expr)(R:It→Hp→Prop)(itv:Value)(s2:Shared):Prop:=
 ∃(it:Addr) (fp:List Addr) (tn:Nat→Heap→Prop) (J:It) (H':Hp),itv=.ref it∧Inv X pins σ H' s2∧Turn X.prog X.w X.K tg J fp it tn∧tn 0 s2.heap∧(∀b∈fp,xZ X pins H' b)∧R J H'
def PI(X:Cx)(tg iter:Expr)(wi:TI):Prop:=
 ∀(pins:List (Addr×Obj)) (s:Shared) (σ:St) (H:Hp) (R:It→Hp→Prop),Inv X pins σ H s→wi σ H R→
  wpAny (model X.prog X.w) X.A (eval iter X.env) (fun v s1=>wpAny (model X.prog X.w) X.A (pyIter v) (Ob X pins σ tg R) X.xe s1) X.xe s
theorem yS{M:Model}{A:Around}{E:Value→Shared→Prop}{s:Shared}{tg:Expr}{it:Addr}{u:Value}{o:Obj}{n:String}{vs:Array Value}{Q:Unit→Shared→Prop}(ho:s.heap.get? it=some o)(hc:o.cls=.type n)(hd:o.data=.fields vs)
  (hn:["enumerate","zip","dict_itemiterator","dict_reverseitemiterator","odict_iterator","itertools.zip_longest","itertools.pairwise"].contains n=false)(hQ:Q () s):wpAny M A (letOwnedTupleGo tg (.ref it) u) Q E s:=by
 unfold letOwnedTupleGo
 cases tg<;>first
  |exact wpAny_pure hQ
  |(cases u<;>first
    |exact wpAny_pure hQ
    |(refine wpAny_bind (wpAny_load ho ?_)
      rw[hc,hd]
      show wpAny M A (if(["enumerate","zip","dict_itemiterator","dict_reverseitemiterator","odict_iterator","itertools.zip_longest","itertools.pairwise"].contains n&&vs[0]?==some (rawInt _))=true then _ else _) Q E s
      rw[if_neg (by intro h;rw[hn,Bool.false_and]at h;cases h)]
      exact wpAny_pure hQ))
def EE(K:PySem.W.Frag)(a:Addr):It:=
 ⟨fun i H=>∃xs x,dY K H a xs∧xs[i]?=some x,fun i H x H'=>H'=H∧∀xs,dY K H a xs→xs[i]?=some x,fun i H=>∃xs,dY K H a xs∧xs.length≤i⟩
def ED(K:PySem.W.Frag)(a:Addr):It:=
 ⟨fun i H=>∃xs x,jF K H a xs∧xs[i]?=some x,fun i H x H'=>H'=H∧∀xs,jF K H a xs→xs[i]?=some x,fun i H=>∃xs,jF K H a xs∧xs.length≤i⟩
def Gk(lo:Int)(n:Nat):It:=⟨fun i _=>i<n,fun i H x H'=>H'=H∧x=.int (lo+i),fun i _=>n≤i⟩
theorem EK{P:Program}{w:World}{K:PySem.W.Frag}{tg:Expr}(a it:Addr):Turn P w K tg (EE K a) [it] it (fun i h=>h.IsListIter it a i)where
 mem:=by simp
 obj:=fun i h st b hb=>by
  have e:b=it:=by simpa using hb
  subst e
  obtain⟨o,e,c,d⟩:=st
  exact⟨o,e,fun v z=>by rw[d]at z;cases z⟩
 keep:=fun i h h' st k=>st.at fun o e=>k it (by simp) o e
 item:=by
  intro X hP hw hK hc i pins s σ H E I hf st hg
  subst hP hw hK
  obtain⟨xs,x,hq,hx⟩:=hg
  obtain⟨its,rv,p,hz⟩:=I.list hq
  obtain⟨u,hu,ru⟩:=rv.get hx
  obtain⟨f0,f1,f2,f3,f4,f5⟩:=hf it (by simp)
  refine wpAny_pyNext_list_item st p.isList (x:=u) (by simpa using hu) fun h' st' sb=>?_
  have I1:Inv X pins σ H {s with heap:=h'}:=I.turned (t':=s.toks) (fun b o hb e=>(sb.2 b hb).trans e) f0 f1 f3 f4 f5
  obtain⟨o,e,c,d⟩:=id st'
  exact⟨u,rfl,yS (s:={s with heap:=h'}) e c d (by decide) ⟨x,H,I1,ru,⟨rfl,fun ys hy=>by rw[I.BK hy hq];exact hx⟩,st',fun b hb=>(hf b hb).1⟩⟩
 done:=by
  intro X hP hw hK hc i pins s σ H E I hf st hg
  subst hP hw hK
  obtain⟨xs,hq,hx⟩:=hg
  obtain⟨its,rv,p,hz⟩:=I.list hq
  obtain⟨f0,f1,f2,f3,f4,f5⟩:=hf it (by simp)
  have hl:=rv.length
  exact wpAny_pyNext_list_end (I.ok.hd hc) st p.isList (by simp;lia) fun h' eb=>⟨rfl,I.turned (t':=s.toks) (fun b o hb e=>eb b o hb e) f0 f1 f3 f4 f5⟩
 self:=fun _ _ _ _ _ st h=>wpAny_pyIter_listiter st h
theorem Cc{P:Program}{w:World}{K:PySem.W.Frag}{tg:Expr}(a it:Addr):Turn P w K tg (ED K a) [it] it (fun i h=>h.IsTupleIter it a i)where
 mem:=by simp
 obj:=fun i h st b hb=>by
  have e:b=it:=by simpa using hb
  subst e
  obtain⟨o,e,c,d⟩:=st
  exact⟨o,e,fun v z=>by rw[d]at z;cases z⟩
 keep:=fun i h h' st k=>st.at fun o e=>k it (by simp) o e
 item:=by
  intro X hP hw hK hc i pins s σ H E I hf st hg
  subst hP hw hK
  obtain⟨xs,x,hq,hx⟩:=hg
  obtain⟨its,rv,p,hz⟩:=I.tuple hq
  obtain⟨u,hu,ru⟩:=rv.get hx
  obtain⟨f0,f1,f2,f3,f4,f5⟩:=hf it (by simp)
  refine wpAny_pyNext_tuple_item st (show s.heap.IsTuple a its.toArray from p) (x:=u) (by simpa using hu) fun h' st' sb=>?_
  have I1:Inv X pins σ H {s with heap:=h'}:=I.turned (t':=s.toks) (fun b o hb e=>(sb.2 b hb).trans e) f0 f1 f3 f4 f5
  obtain⟨o,e,c,d⟩:=id st'
  exact⟨u,rfl,yS (s:={s with heap:=h'}) e c d (by decide) ⟨x,H,I1,ru,⟨rfl,fun ys hy=>by rw[I.EL hy hq];exact hx⟩,st',fun b hb=>(hf b hb).1⟩⟩
 done:=by
  intro X hP hw hK hc i pins s σ H E I hf st hg
  subst hP hw hK
  obtain⟨xs,hq,hx⟩:=hg
  obtain⟨its,rv,p,hz⟩:=I.tuple hq
  obtain⟨f0,f1,f2,f3,f4,f5⟩:=hf it (by simp)
  have hl:=rv.length
  exact wpAny_pyNext_tuple_end (I.ok.hd hc) st (show s.heap.IsTuple a its.toArray from p) (by simp;lia) fun h' eb=>⟨rfl,I.turned (t':=s.toks) (fun b o hb e=>eb b o hb e) f0 f1 f3 f4 f5⟩
 self:=fun _ _ _ _ _ st h=>wpAny_pyIter_tupleiter st h
theorem Cd{P:Program}{w:World}{K:PySem.W.Frag}{tg:Expr}(it:Addr)(lo:Int)(n:Nat):Turn P w K tg (Gk lo n) [it] it (fun i h=>IsRangeIter h it (lo+(i:Nat)*1) ((n:Int) - (i:Nat)) 1)where
 mem:=by simp
 obj:=fun i h st b hb=>by
  have e:b=it:=by simpa using hb
  subst e
  exact⟨_,st,fun v z=>by
   have z':Data.fields _=Data.cell v:=z
   cases z'⟩
 keep:=fun i h h' st k=>k it (by simp) _ st
 item:=by
  intro X hP hw hK hc i pins s σ H E I hf st hg
  subst hP hw hK
  obtain⟨f0,f1,f2,f3,f4,f5⟩:=hf it (by simp)
  have W:=Walks.range (prog:=X.prog) (w:=X.w) (I.ok.hd hc) it lo 1 n
  refine W.item i s _ _ hg st fun v h' tk hv st' kk=>?_
  obtain⟨t,rfl⟩:=hv
  have I1:Inv X pins σ H {s with heap:=h',toks:=tk}:=I.turned (fun b o hb e=>kk b o (by simpa using hb) e) f0 f1 f3 f4 f5
  refine⟨_,rfl,yS (s:={s with heap:=h',toks:=tk}) (n:="range_iterator") st' rfl rfl (by decide) ⟨.int (lo+i),H,I1,⟨t,?_⟩,⟨rfl,rfl⟩,st',fun b hb=>(hf b hb).1⟩⟩
  rw[Int.mul_one]
 done:=by
  intro X hP hw hK hc i pins s σ H E I hf st hg
  subst hP hw hK
  obtain⟨f0,f1,f2,f3,f4,f5⟩:=hf it (by simp)
  exact wpAny_pyNext_range_end (I.ok.hd hc) st (by have:n≤i:=hg;lia) fun h' eb=>⟨rfl,I.turned (t':=s.toks) (fun b o hb e=>eb b o hb e) f0 f1 f3 f4 f5⟩
 self:=fun _ _ _ _ _ st h=>wpAny_pyIter_rangeiter st h
end L2
namespace L2
open PySem PySem.Spec PyProof.Rows
section
variable{X:Cx}{tg:Expr}
def Em(K:PySem.W.Frag)(tl:TE):TI:=fun σ H R=>tl σ H fun x H1=>∃a,x=.ref a∧(∃xs,dY K H1 a xs)∧R (EE K a) H1
def NZ(K:PySem.W.Frag)(tl:TE):TI:=fun σ H R=>tl σ H fun x H1=>∃a,x=.ref a∧(∃xs,jF K H1 a xs)∧R (ED K a) H1
theorem gK{l:Expr}{tl:TE}(hl:PE X l tl):PI X tg l (Em X.K tl):=by
 intro pins s σ H R I h
 refine fS (hl pins s σ H _ I h) fun v s1 ⟨x,H1,I1,r1,q1⟩=>?_
 obtain⟨a,e,⟨xs,hq⟩,q⟩:=q1
 subst e
 cases r1
 obtain⟨its,rv,p,hz⟩:=I1.list hq
 refine wpAny_pyIter_list p.isList ?_
 refine⟨s1.heap.objs.size,[s1.heap.objs.size],_,_,H1,rfl,I1.kept (t':=s1.toks) fun b o e=>Heap.get?_push_of_some _ e,EK a _,⟨_,Heap.get?_push_size _ rfl,rfl,rfl⟩,fun b hb=>?_,q⟩
 have e:b=s1.heap.objs.size:=by simpa using hb
 subst e
 exact I1.IA (Nat.le_refl _) (I1.hok.fresh (Nat.le_refl _))
theorem zM{l:Expr}{tl:TE}(hl:PE X l tl):PI X tg l (NZ X.K tl):=by
 intro pins s σ H R I h
 refine fS (hl pins s σ H _ I h) fun v s1 ⟨x,H1,I1,r1,q1⟩=>?_
 obtain⟨a,e,⟨xs,hq⟩,q⟩:=q1
 subst e
 cases r1
 obtain⟨its,rv,p,hz⟩:=I1.tuple hq
 refine wpAny_pyIter_tuple (show s1.heap.IsTuple a its.toArray from p) ?_
 refine⟨s1.heap.objs.size,[s1.heap.objs.size],_,_,H1,rfl,I1.kept (t':=s1.toks) fun b o e=>Heap.get?_push_of_some _ e,Cc a _,⟨_,Heap.get?_push_size _ rfl,rfl,rfl⟩,fun b hb=>?_,q⟩
 have e:b=s1.heap.objs.size:=by simpa using hb
 subst e
 exact I1.IA (Nat.le_refl _) (I1.hok.fresh (Nat.le_refl _))
theorem Bk{pins:List (Addr×Obj)}{σ:St}{H:Hp}{s:Shared}{R:It→Hp→Prop}{E:Value→Shared→Prop}{lo hi:Int}{t u v:Tok}{tk:Nat}(I:Inv X pins σ H s)(h1: -(2^62)≤lo)(h2:lo<2^62)(h3: -(2^62)≤hi)(h4:hi<2^62)
  (q:R (Gk lo (hi - lo).toNat) H):wpAny (model X.prog X.w) X.A (pyIter (.ref s.heap.objs.size)) (Ob X pins σ tg R) E {s with heap:=s.heap.push {cls:=.type "range",data:=.fields #[.int lo t,.int hi u,.int 1 v]},toks:=tk}:=by
 refine wpAny_pyIter_range (IsRange.new ..) (small_one h1 h2 h3 h4) ?_
 have I1:Inv X pins σ H {s with heap:=s.heap.push {cls:=.type "range",data:=.fields #[.int lo t,.int hi u,.int 1 v]},toks:=tk}:=I.kept fun b o e=>Heap.get?_push_of_some _ e
 refine⟨(s.heap.push {cls:=.type "range",data:=.fields #[.int lo t,.int hi u,.int 1 v]}).objs.size,[(s.heap.push {cls:=.type "range",data:=.fields #[.int lo t,.int hi u,.int 1 v]}).objs.size],_,_,H,rfl,
  I1.kept (t':=tk) fun b o e=>Heap.get?_push_of_some _ e,Cd _ lo (hi - lo).toNat,?_,fun b hb=>?_,q⟩
 ·have e1:lo+((0:Nat):Int)*1=lo:=by simp
  have e2:(((hi - lo).toNat:Nat):Int) - ((0:Nat):Int)=Builtin.Range.rangeSize lo hi 1:=by rw[rangeSize_one];split<;>lia
  show IsRangeIter _ _ (lo+((0:Nat):Int)*1) ((((hi - lo).toNat:Nat):Int) - ((0:Nat):Int)) 1
  rw[e1,e2]
  exact Heap.get?_push_size _ rfl
 ·have e:b=(s.heap.push {cls:=.type "range",data:=.fields #[.int lo t,.int hi u,.int 1 v]}).objs.size:=by simpa using hb
  subst e
  exact I1.IA (Nat.le_refl _) (I1.hok.fresh (Nat.le_refl _))
def MY(ta:TA):TI:=fun σ H R=>ta σ H fun vs H1=>∃j:Int,vs=[.int j]∧ -(2^62)≤j∧j<2^62∧R (Gk 0 j.toNat) H1
def K9(ta:TA):TI:=fun σ H R=>ta σ H fun vs H1=>∃i j:Int,vs=[.int i,.int j]∧(-(2^62)≤i∧i<2^62∧ -(2^62)≤j∧j<2^62)∧R (Gk i (j - i).toNat) H1
theorem E9{a:Expr}{ta:TA}{p pos:Pos}(hg:Gl X "range")(hm:X.mg "range"=none)(ha:PA X [a] ta)(hs:starEach [a] X.env=[(false,eval a X.env)]:=by rfl):PI X tg (.Call (.Name "range" p) [a] [] pos) (MY ta):=by
 intro pins s σ H R I h
 refine Call_ (tF I hg hm boot_range (PyProof.Rows.callWith_type1 (fS (ha pos pins s σ H _ I h) fun us s1 ⟨vs,H1,I1,r1,q1⟩=>?_) hs rfl))
 obtain⟨j,e,q1,q2,q⟩:=q1
 subst e
 cases r1 with
 |cons r rr=>
  cases rr
  obtain⟨t,rfl⟩:=r
  exact call_range_1 (Bk I1 (by lia) (by lia) q1 q2 (by simpa using q))
theorem o7{a b:Expr}{ta:TA}{p pos:Pos}(hg:Gl X "range")(hm:X.mg "range"=none)(ha:PA X [a,b] ta)(hs:starEach [a,b] X.env=[(false,eval a X.env),(false,eval b X.env)]:=by rfl)(hs2:starEach [b] X.env=[(false,eval b X.env)]:=by rfl):
  PI X tg (.Call (.Name "range" p) [a,b] [] pos) (K9 ta):=by
 intro pins s σ H R I h
 refine Call_ (tF I hg hm boot_range (PyProof.Rows.callWith_type1 (fS (ha pos pins s σ H _ I h) fun us s1 ⟨vs,H1,I1,r1,q1⟩=>?_) (by rw[hs,hs2]) (by rw[hs2];rfl)))
 obtain⟨i,j,e,⟨q1,q2,q3,q4⟩,q⟩:=q1
 subst e
 cases r1 with
 |cons r rr=>
  cases rr with
  |cons r' rr=>
   cases rr
   obtain⟨t,rfl⟩:=r
   obtain⟨t',rfl⟩:=r'
   exact call_range_2 (Bk I1 q1 q2 q3 q4 q)
def Jo(wi:TI)(g:TG)(tb:TS):TS:=fun D σ H=>wi σ H fun J H1=>∃W:Nat→Nat→St→Hp→Prop,(∃m,W 0 m σ H1)∧∀i m σ H,W i m σ H→
 (J.stop i H∧D.nx σ H)∨(J.go i H∧∃N:St→Hp→Prop,(∀σ' H',N σ' H'→∃m',m'<m∧W (i+1) m' σ' H')∧∀x H',J.Az i H x H'→g x σ H' fun σ2 H2=>tb {D with nx:=N,ct:=N,bk:=D.nx} σ2 H2)
def wm(fp:List Addr)(h:Heap):List (Addr×Obj):=fp.filterMap fun b=>(h.get? b).map fun o=>(b,o)
theorem qz{fp:List Addr}{h:Heap}{b:Addr}{o:Obj}(hb:b∈fp)(e:h.get? b=some o):(b,o)∈wm fp h:=List.mem_filterMap.mpr ⟨b,hb,by rw[e];rfl⟩
theorem Fx{fp:List Addr}{h:Heap}{p:Addr×Obj}(hp:p∈wm fp h):p.1∈fp∧h.get? p.1=some p.2:=by
 obtain⟨b,hb,e⟩:=List.mem_filterMap.mp hp
 cases q:h.get? b with
 |none=>rw[q]at e;cases e
 |some o=>
  rw[q]at e
  have e':(b,o)=p:=Option.some.inj e
  subst e'
  exact⟨hb,q⟩
theorem Inv.pinned{pins:List (Addr×Obj)}{σ:St}{H:Hp}{s:Shared}{fp:List Addr}(I:Inv X pins σ H s)(hf:∀b∈fp,xZ X pins H b)(ho:∀b∈fp,∃o,s.heap.get? b=some o∧∀v,o.data≠.cell v):Inv X (pins++wm fp s.heap) σ H s:=
 I.DY fun p hp=>(List.mem_append.mp hp).elim (fun z=>I.pin p (List.mem_append_right _ z)) fun z=>by
  obtain⟨hb,e⟩:=Fx z
  obtain⟨f0,f1,f2,_⟩:=hf p.1 hb
  obtain⟨o,e',d⟩:=ho p.1 hb
  rw[e]at e';cases e'
  exact⟨e,f0,f1,f2,d⟩
theorem Inv.qH{pins pl:List (Addr×Obj)}{σ:St}{H:Hp}{s:Shared}(I:Inv X (pins++pl) σ H s):Inv X pins σ H s:=I.DY fun p hp=>I.pin p (List.mem_append_right _ (List.mem_append_left _ hp))
theorem jq{iter:Expr}{body:List Stmt}{wi:TI}{g:TG}{tb:TS}{pos:Pos}(hp:PassesOwn (model X.prog X.w) X.A X.env X.xe)(hc:X.calm=true)(hi:PI X tg iter wi)(hg:PG X tg g)(hb:Gh X body tb)
  (hs:∀x,foldedSetIterable iter X.env x=pure x:=by intro _;rfl):PS X (.For tg iter body [] pos) (Jo wi g tb):=by
 intro pins s σ H D I h
 refine wpAny_For (fS (hi pins s σ H _ I h) fun v s1 h1=>fS h1 fun itv s2 h2=>?_) hs
 obtain⟨it,fp,tn,J,H2,e,I2,T,st2,f2,W,⟨m0,w0⟩,turn⟩:=h2
 subst e
 have stat:∀{H':Hp},(∀b∈fp,H' b=none)→∀b∈fp,xZ X pins H' b:=fun hn b hb=>⟨hn b hb,(f2 b hb).2⟩
 refine codeAny_forLoop_any (fun n s'=>∃i σ' H',Inv X pins σ' H' s'∧tn i s'.heap∧(∀b∈fp,H' b=none)∧W i n σ' H') ?_ m0 ⟨0,σ,H2,I2,st2,fun b hb=>(f2 b hb).1,w0⟩
 rintro n s3 ⟨i,σ3,H3,I3,st3,fr3,w3⟩
 rcases turn i n σ3 H3 w3 with⟨stop,qn⟩|⟨go,N,hN,step⟩
 ·refine wpAny_passesOwn hp (fS (T.done X rfl rfl rfl hc i pins s3 σ3 H3 X.xe I3 (stat fr3) st3 stop) fun r s4 ⟨hr,I4⟩=>?_)
  subst hr
  exact wpAny_execs_nil ⟨σ3,H3,I4,qn⟩
 ·refine wpAny_passesOwn hp (fS (T.item X rfl rfl rfl hc i pins s3 σ3 H3 X.xe I3 (stat fr3) st3 go) fun r s4 ⟨u,hr,h4⟩=>?_)
  subst hr
  refine wpAny_passesOwn hp (fS h4 fun _ s5 ⟨x,H5,I5,r5,y5,st5,fr5⟩=>?_)
  have I5':=I5.pinned (stat fr5) (T.obj _ _ st5)
  refine wpAny_passesOwn hp (fS (hg _ s5 σ3 H5 x u _ I5' r5 (step x H5 y5)) fun _ s6 ⟨σ6,H6,I6,q6⟩=>?_)
  refine wpAny_passesOwn hp (fS (hb _ s6 σ6 H6 _ I6 q6) fun f s7 q7=>?_)
  have again:∀{σ7:St} {H7:Hp},Inv X (pins++wm fp s5.heap) σ7 H7 s7→N σ7 H7→∃m,m<n∧∃i σ' H',Inv X pins σ' H' s7∧tn i s7.heap∧(∀b∈fp,H' b=none)∧W i m σ' H':=fun{σ7 H7} I7 n7=>by
   obtain⟨m',hm,w7⟩:=hN σ7 H7 n7
   refine⟨m',hm,i+1,σ7,H7,I7.qH,T.keep _ _ _ st5 fun b hb o e=>(I7.pin (b,o) (List.mem_append_right _ (List.mem_append_right _ (qz hb e)))).1,fun b hb=>?_,w7⟩
   obtain⟨o,e,d⟩:=T.obj _ _ st5 b hb
   exact(I7.pin (b,o) (List.mem_append_right _ (List.mem_append_right _ (qz hb e)))).2.1
  cases f with
  |next=>obtain⟨σ7,H7,I7,n7⟩:=q7;exact again I7 n7
  |cont=>obtain⟨σ7,H7,I7,n7⟩:=q7;exact again I7 n7
  |brk=>obtain⟨σ7,H7,I7,q7⟩:=q7;exact⟨σ7,H7,I7.qH,q7⟩
  |ret v=>obtain⟨x7,σ7,H7,I7,r7,q7⟩:=q7;exact⟨x7,σ7,H7,I7.qH,r7,q7⟩
end
theorem ow{K:PySem.W.Frag}{a:Addr}{xs:List V}{g:TG}{tb:TS}{D:Ends}{σ:St}{H:Hp}(Pv:Nat→St→Hp→Prop)(h0:Pv 0 σ H)(hl:∀i σ H,i≤xs.length→Pv i σ H→dY K H a xs)
  (hs:∀i x σ H,xs[i]?=some x→Pv i σ H→g x σ H fun σ2 H2=>tb {D with nx:=Pv (i+1),ct:=Pv (i+1),bk:=D.nx} σ2 H2)(hd:∀σ H,Pv xs.length σ H→D.nx σ H):
  ∃W:Nat→Nat→St→Hp→Prop,(∃m,W 0 m σ H)∧∀i m σ H,W i m σ H→
   ((EE K a).stop i H∧D.nx σ H)∨((EE K a).go i H∧∃N:St→Hp→Prop,(∀σ' H',N σ' H'→∃m',m'<m∧W (i+1) m' σ' H')∧∀x H',(EE K a).Az i H x H'→g x σ H' fun σ2 H2=>tb {D with nx:=N,ct:=N,bk:=D.nx} σ2 H2):=by
 refine⟨fun i m σ H=>m=xs.length - i∧i≤xs.length∧Pv i σ H,⟨xs.length,by simp,Nat.zero_le _,h0⟩,?_⟩
 rintro i m σ H ⟨rfl,hi,p⟩
 have q:=hl i σ H hi p
 by_cases hlt:i<xs.length
 ·refine .inr ⟨⟨xs,xs[i],q,by simp[hlt]⟩,Pv (i+1),fun σ' H' p'=>⟨xs.length - (i+1),by lia,rfl,hlt,p'⟩,fun x H' y=>?_⟩
  obtain⟨e,y⟩:=y
  subst e
  exact hs i x σ _ (y xs q) p
 ·have e:i=xs.length:=by lia
  subst e
  exact .inl ⟨⟨xs,q,Nat.le_refl _⟩,hd σ H p⟩
theorem Kn{K:PySem.W.Frag}{a:Addr}{xs:List V}{g:TG}{tb:TS}{D:Ends}{σ:St}{H:Hp}(Pv:Nat→St→Hp→Prop)(h0:Pv 0 σ H)(hl:∀i σ H,i≤xs.length→Pv i σ H→jF K H a xs)
  (hs:∀i x σ H,xs[i]?=some x→Pv i σ H→g x σ H fun σ2 H2=>tb {D with nx:=Pv (i+1),ct:=Pv (i+1),bk:=D.nx} σ2 H2)(hd:∀σ H,Pv xs.length σ H→D.nx σ H):
  ∃W:Nat→Nat→St→Hp→Prop,(∃m,W 0 m σ H)∧∀i m σ H,W i m σ H→
   ((ED K a).stop i H∧D.nx σ H)∨((ED K a).go i H∧∃N:St→Hp→Prop,(∀σ' H',N σ' H'→∃m',m'<m∧W (i+1) m' σ' H')∧∀x H',(ED K a).Az i H x H'→g x σ H' fun σ2 H2=>tb {D with nx:=N,ct:=N,bk:=D.nx} σ2 H2):=by
 refine⟨fun i m σ H=>m=xs.length - i∧i≤xs.length∧Pv i σ H,⟨xs.length,by simp,Nat.zero_le _,h0⟩,?_⟩
 rintro i m σ H ⟨rfl,hi,p⟩
 have q:=hl i σ H hi p
 by_cases hlt:i<xs.length
 ·refine .inr ⟨⟨xs,xs[i],q,by simp[hlt]⟩,Pv (i+1),fun σ' H' p'=>⟨xs.length - (i+1),by lia,rfl,hlt,p'⟩,fun x H' y=>?_⟩
  obtain⟨e,y⟩:=y
  subst e
  exact hs i x σ _ (y xs q) p
 ·have e:i=xs.length:=by lia
  subst e
  exact .inl ⟨⟨xs,q,Nat.le_refl _⟩,hd σ H p⟩
theorem pI{lo:Int}{n:Nat}{g:TG}{tb:TS}{D:Ends}{σ:St}{H:Hp}(Pv:Nat→St→Hp→Prop)(h0:Pv 0 σ H)
  (hs:∀i σ H,i<n→Pv i σ H→g (.int (lo+i)) σ H fun σ2 H2=>tb {D with nx:=Pv (i+1),ct:=Pv (i+1),bk:=D.nx} σ2 H2)(hd:∀σ H,Pv n σ H→D.nx σ H):
  ∃W:Nat→Nat→St→Hp→Prop,(∃m,W 0 m σ H)∧∀i m σ H,W i m σ H→
   ((Gk lo n).stop i H∧D.nx σ H)∨((Gk lo n).go i H∧∃N:St→Hp→Prop,(∀σ' H',N σ' H'→∃m',m'<m∧W (i+1) m' σ' H')∧∀x H',(Gk lo n).Az i H x H'→g x σ H' fun σ2 H2=>tb {D with nx:=N,ct:=N,bk:=D.nx} σ2 H2):=by
 refine⟨fun i m σ H=>m=n - i∧i≤n∧Pv i σ H,⟨n,by simp,Nat.zero_le _,h0⟩,?_⟩
 rintro i m σ H ⟨rfl,hi,p⟩
 by_cases hlt:i<n
 ·refine .inr ⟨hlt,Pv (i+1),fun σ' H' p'=>⟨n - (i+1),by lia,rfl,hlt,p'⟩,fun x H' y=>?_⟩
  obtain⟨e,y⟩:=y
  subst e y
  exact hs i σ _ hlt p
 ·have e:i=n:=by lia
  subst e
  exact .inl ⟨Nat.le_refl _,hd σ H p⟩
theorem mY{c:TT}{tb:TS}{D:Ends}{σ:St}{H:Hp}(Pv:St→Hp→Prop)(μ:St→Hp→Nat)(h0:Pv σ H)
  (hs:∀σ H,Pv σ H→c σ H fun b H1=>if b=true then tb {D with nx:=fun σ' H'=>Pv σ' H'∧μ σ' H'<μ σ H,ct:=fun σ' H'=>Pv σ' H'∧μ σ' H'<μ σ H,bk:=D.nx} σ H1 else D.nx σ H1)
  (mono:∀σ H Q Q',(∀b H1,Q b H1→Q' b H1)→c σ H Q→c σ H Q'):GB c tb D σ H:=by
 refine⟨fun m σ H=>m=μ σ H∧Pv σ H,⟨_,rfl,h0⟩,?_⟩
 rintro m σ H ⟨rfl,p⟩
 refine mono σ H _ _ (fun b H1 q=>?_) (hs σ H p)
 cases b with
 |true=>exact⟨_,fun σ' H' ⟨p',l⟩=>⟨_,l,rfl,p'⟩,q⟩
 |false=>exact q
end L2
namespace L2
open PySem PySem.Spec PyProof.Rows
abbrev R2:=V→V→Hp→VK→Prop
def sj(X:Cx)(f:Value→Value→Sem Value)(r:R2):Prop:=
 ∀(pins:List (Addr×Obj)) (s:Shared) (σ:St) (H:Hp) (x y:V) (v u:Value) (Q:VK),Inv X pins σ H s→RelV x v→RelV y u→r x y H Q→
  wpAny (model X.prog X.w) X.A (f v u) (EP X pins σ Q) X.xe s
def N6(X:Cx)(f:Value→Sem Value)(r:V→Hp→VK→Prop):Prop:=
 ∀(pins:List (Addr×Obj)) (s:Shared) (σ:St) (H:Hp) (x:V) (v:Value) (Q:VK),Inv X pins σ H s→RelV x v→r x H Q→
  wpAny (model X.prog X.w) X.A (f v) (EP X pins σ Q) X.xe s
def p9(X:Cx)(f:Value)(r:List V→Hp→VK→Prop):Prop:=
 ∀(pins:List (Addr×Obj)) (s:Shared) (σ:St) (H:Hp) (xs:List V) (us:List Value) (Q:VK),Inv X pins σ H s→Vals xs us→r xs H Q→
  wpAny (model X.prog X.w) X.A (call f us) (EP X pins σ Q) X.xe s
def N7(X:Cx)(r:V→Hp→(Bool→Hp→Prop)→Prop):Prop:=
 ∀(pins:List (Addr×Obj)) (s:Shared) (σ:St) (H:Hp) (x:V) (v:Value) (Q:Bool→Hp→Prop),Inv X pins σ H s→RelV x v→r x H Q→
  wpAny (model X.prog X.w) X.A (truthy v) (TP X pins σ Q) X.xe s
def bO(r:R2)(ta tb:TE):TE:=fun σ H Q=>ta σ H fun x H1=>tb σ H1 fun y H2=>r x y H2 Q
def bQ(r:V→Hp→VK→Prop)(ta:TE):TE:=fun σ H Q=>ta σ H fun x H1=>r x H1 Q
def rI(C:Int→Int→Prop)(g:Int→Int→V):R2:=fun x y H Q=>∃i j,x=.int i∧y=.int j∧C i j∧Q (g i j) H
def bR(g:Int→Int→V):R2:=fun x y H Q=>∃i j,x=.int i∧y=.int j∧Q (g i j) H
def rU(g:Int→V):V→Hp→VK→Prop:=fun x H Q=>∃i,x=.int i∧Q (g i) H
section
variable{X:Cx}{a b c:Expr}{ta tb tc:TE}{pos:Pos}
theorem Mj(ha:PE X a ta)(hb:PE X b tb){pins:List (Addr×Obj)}{s:Shared}{σ:St}{H:Hp}{R:V→V→Hp→Prop}(I:Inv X pins σ H s)
  (h:ta σ H fun x H1=>tb σ H1 fun y H2=>R x y H2){Q:Value→Shared→Prop}{f:Value→Value→Sem Value}
  (hf:∀v u s2 x y H2,Inv X pins σ H2 s2→RelV x v→RelV y u→R x y H2→wpAny (model X.prog X.w) X.A (f v u) Q X.xe s2):
  wpAny (model X.prog X.w) X.A (eval a X.env) (fun v s₁=>wpAny (model X.prog X.w) X.A (eval b X.env) (fun u s₂=>wpAny (model X.prog X.w) X.A (f v u) Q X.xe s₂) X.xe s₁) X.xe s:=by
 refine fS (ha pins s σ H _ I h) fun v s1 ⟨x,H1,I1,r1,q1⟩=>?_
 refine fS (hb pins s1 σ H1 _ I1 q1) fun u s2 ⟨y,H2,I2,r2,q2⟩=>?_
 exact hf v u s2 x y H2 I2 r1 r2 q2
theorem bu{op:Operator}{r:R2}(ho:sj X (binaryOp op) r)(ha:PE X a ta)(hb:PE X b tb):PE X (.BinOp a op b pos) (bO r ta tb):=by
 intro pins s σ H Q I h
 exact wpAny_BinOp (Mj ha hb I h fun v u s2 x y H2 I2 rx ry q=>ho pins s2 σ H2 x y v u Q I2 rx ry q)
theorem nO{op:UnaryOp}{r:V→Hp→VK→Prop}(ho:N6 X (unaryOp op) r)(ha:PE X a ta):PE X (.UnaryOp op a pos) (bQ r ta):=by
 intro pins s σ H Q I h
 exact UnaryOp_ (fS (ha pins s σ H _ I h) fun v s1 ⟨x,H1,I1,r1,q1⟩=>ho pins s1 σ H1 x v Q I1 r1 q1)
theorem MI{f:Value→Value→Sem Value}{C:Int→Int→Prop}{g:Int→Int→Int}
  (rule:∀(i j:Int) (t u:Tok) (s:Shared) (Q:Value→Shared→Prop) (E:Value→Shared→Prop),C i j→Q (.int (g i j) s.toks) {s with toks:=s.toks+1}→wpAny (model X.prog X.w) X.A (f (.int i t) (.int j u)) Q E s):
  sj X f (rI C fun i j=>.int (g i j)):=by
 intro pins s σ H x y v u Q I rx ry h
 obtain⟨i,j,rfl,rfl,hc,q⟩:=h
 obtain⟨t,rfl⟩:=rx
 obtain⟨t',rfl⟩:=ry
 exact rule i j t t' s _ _ hc ⟨.int (g i j),H,I.tok _,⟨_,rfl⟩,q⟩
theorem JV{f:Value→Value→Sem Value}{g:Int→Int→Int}
  (rule:∀(i j:Int) (t u:Tok) (s:Shared) (Q:Value→Shared→Prop) (E:Value→Shared→Prop),Q (.int (g i j) s.toks) {s with toks:=s.toks+1}→wpAny (model X.prog X.w) X.A (f (.int i t) (.int j u)) Q E s):
  sj X f (bR fun i j=>.int (g i j)):=by
 intro pins s σ H x y v u Q I rx ry h
 obtain⟨i,j,rfl,rfl,q⟩:=h
 obtain⟨t,rfl⟩:=rx
 obtain⟨t',rfl⟩:=ry
 exact rule i j t t' s _ _ ⟨.int (g i j),H,I.tok _,⟨_,rfl⟩,q⟩
theorem JW{f:Value→Value→Sem Value}{g:Int→Int→Bool}
  (rule:∀(i j:Int) (t u:Tok) (s:Shared) (Q:Value→Shared→Prop) (E:Value→Shared→Prop),Q (.bool (g i j)) s→wpAny (model X.prog X.w) X.A (f (.int i t) (.int j u)) Q E s):
  sj X f (bR fun i j=>.bl (g i j)):=by
 intro pins s σ H x y v u Q I rx ry h
 obtain⟨i,j,rfl,rfl,q⟩:=h
 obtain⟨t,rfl⟩:=rx
 obtain⟨t',rfl⟩:=ry
 exact rule i j t t' s _ _ ⟨.bl (g i j),H,I,rfl,q⟩
theorem Cb(k:Nat):(0:Int)≤2^k:=by
 rw[two_pow_cast]
 exact Int.natCast_nonneg _
theorem cT:sj X (binaryOp .Add) (bR fun i j=>.int (i+j)):=JV fun _ _ _ _ _ _ _ q=>add_int q
theorem cX:sj X (binaryOp .Sub) (bR fun i j=>.int (i - j)):=JV fun _ _ _ _ _ _ _ q=>sub_int q
theorem gS:sj X (binaryOp .Mod) (rI (fun _ j=>0<j) fun i j=>.int (i%j)):=MI fun i j _ _ _ _ _ hc q=>by
 have h1:(0:Int)<j:=hc
 exact mod_int' (by lia) (by rw[Int.fmod_eq_emod_of_nonneg i (by lia)];exact q)
theorem wG:sj X (binaryOp .RShift) (rI (fun _ j=>0≤j) fun i j=>.int (i / 2^j.toNat)):=MI fun i j _ _ _ _ _ hc q=>
 rshift_int hc (by rw[Int.fdiv_eq_ediv_of_nonneg i (Cb _)];exact q)
theorem wH:sj X (binaryOp .BitAnd) (bR fun i j=>.int (Builtin.bitAnd i j)):=JV fun _ _ _ _ _ _ _ q=>and_int q
theorem HF:sj X (binaryOp .BitXor) (bR fun i j=>.int (Builtin.bitXor i j)):=JV fun _ _ _ _ _ _ _ q=>xor_int q
theorem Oj{f:Value→Sem Value}{g:Int→Int}
  (rule:∀(i:Int) (t:Tok) (s:Shared) (Q:Value→Shared→Prop) (E:Value→Shared→Prop),Q (.int (g i) s.toks) {s with toks:=s.toks+1}→wpAny (model X.prog X.w) X.A (f (.int i t)) Q E s):
  N6 X f (rU fun i=>.int (g i)):=by
 intro pins s σ H x v Q I rx h
 obtain⟨i,rfl,q⟩:=h
 obtain⟨t,rfl⟩:=rx
 exact rule i t s _ _ ⟨.int (g i),H,I.tok _,⟨_,rfl⟩,q⟩
theorem jM:N6 X (unaryOp .USub) (rU fun i=>.int (-i)):=Oj fun _ _ _ _ _ q=>neg_int q
end
def aM:V→V→Bool
 |.gh,.gh=>true|.gh,.int _=>true|.int _,.gh=>true|.gh,.bl _=>true|.bl _,.gh=>true|.gh,.str _=>true|.str _,.gh=>true
 |.int _,.int _=>true|.bl _,.bl _=>true|.str _,.str _=>true|.yX _,.yX _=>true
 |.int _,.str _=>true|.str _,.int _=>true|.bl _,.str _=>true|.str _,.bl _=>true
 |_,_=>false
def bS:R2:=fun x y H Q=>aM x y=true∧Q (.bl (decide (x=y))) H
def cJ:R2:=fun x y H Q=>aM x y=true∧Q (.bl (!decide (x=y))) H
theorem Es{i j:Int}:decide (V.int i=V.int j)=(i==j):=by
 rw[Bool.eq_iff_iff]
 simp
theorem IL{i j:Bool}:decide (V.bl i=V.bl j)=(i==j):=by
 rw[Bool.eq_iff_iff]
 simp
theorem Er{i j:Str}:decide (V.str i=V.str j)=(i==j):=by
 rw[Bool.eq_iff_iff]
 simp
theorem Et{i j:Array UInt8}:decide (V.yX i=V.yX j)=(i.toList==j.toList):=by
 rw[Bool.eq_iff_iff]
 cases i
 cases j
 simp
section
variable{X:Cx}{a b c:Expr}{ta tb tc:TE}{pos:Pos}
theorem dI{pins:List (Addr×Obj)}{σ:St}{H:Hp}{s:Shared}{Q:VK}{k k':Bool}(I:Inv X pins σ H s)(q:Q (.bl k) H)(e:k=k'):EP X pins σ Q (.bool k') s:=by
 subst e
 exact⟨.bl k,H,I,rfl,q⟩
theorem je:sj X (compareOp .Eq) bS:=by
 intro pins s σ H x y v u Q I rx ry h
 obtain⟨hs,q⟩:=h
 cases x with
 |gh=>
  cases rx
  cases y with
  |gh=>cases ry;exact PySem.EqNone.eq_none_none (dI I q (by simp))
  |bl j=>cases ry;exact PySem.EqNone.eq_none_bool (dI I q (by simp))
  |int j=>obtain⟨t',rfl⟩:=ry;exact PySem.EqNone.eq_none_int (dI I q (by simp))
  |str j=>obtain⟨t',rfl⟩:=ry;exact PySem.EqNone.eq_none_str (dI I q (by simp))
  |_=>exact absurd (show false=true from hs) Bool.false_ne_true
 |bl i=>
  cases rx
  cases y with
  |gh=>cases ry;exact PySem.EqNone.eq_bool_none (dI I q (by simp))
  |bl j=>cases ry;exact eq_bool (dI I q IL)
  |str j=>obtain⟨t',rfl⟩:=ry;exact PySem.EqMixed.eq_bool_str (dI I q (by simp))
  |_=>exact absurd (show false=true from hs) Bool.false_ne_true
 |int i=>
  obtain⟨t,rfl⟩:=rx
  cases y with
  |gh=>cases ry;exact PySem.EqNone.eq_int_none (dI I q (by simp))
  |int j=>obtain⟨t',rfl⟩:=ry;exact eq_int (dI I q Es)
  |str j=>obtain⟨t',rfl⟩:=ry;exact PySem.EqMixed.eq_int_str (dI I q (by simp))
  |_=>exact absurd (show false=true from hs) Bool.false_ne_true
 |str i=>
  obtain⟨t,rfl⟩:=rx
  cases y with
  |gh=>cases ry;exact PySem.EqNone.eq_str_none (dI I q (by simp))
  |bl j=>cases ry;exact PySem.EqMixed.eq_str_bool (dI I q (by simp))
  |int j=>obtain⟨t',rfl⟩:=ry;exact PySem.EqMixed.eq_str_int (dI I q (by simp))
  |str j=>obtain⟨t',rfl⟩:=ry;exact eq_str (dI I q Er)
  |_=>exact absurd (show false=true from hs) Bool.false_ne_true
 |yX i=>
  obtain⟨t,rfl⟩:=rx
  cases y with
  |yX j=>obtain⟨t',rfl⟩:=ry;exact PySem.W.eq_bytes (dI I q Et)
  |_=>exact absurd (show false=true from hs) Bool.false_ne_true
 |_=>cases y<;>exact absurd (show false=true from hs) Bool.false_ne_true
theorem MH:sj X (compareOp .NotEq) cJ:=by
 intro pins s σ H x y v u Q I rx ry h
 obtain⟨hs,q⟩:=h
 cases x with
 |gh=>
  cases rx
  cases y with
  |gh=>cases ry;exact PySem.EqNone.ne_none_none (dI I q (by simp))
  |bl j=>cases ry;exact PySem.EqNone.ne_none_bool (dI I q (by simp))
  |int j=>obtain⟨t',rfl⟩:=ry;exact PySem.EqNone.ne_none_int (dI I q (by simp))
  |str j=>obtain⟨t',rfl⟩:=ry;exact PySem.EqNone.ne_none_str (dI I q (by simp))
  |_=>exact absurd (show false=true from hs) Bool.false_ne_true
 |bl i=>
  cases rx
  cases y with
  |gh=>cases ry;exact PySem.EqNone.ne_bool_none (dI I q (by simp))
  |bl j=>cases ry;exact ne_bool (dI I q (congrArg not IL))
  |str j=>obtain⟨t',rfl⟩:=ry;exact PySem.EqMixed.ne_bool_str (dI I q (by simp))
  |_=>exact absurd (show false=true from hs) Bool.false_ne_true
 |int i=>
  obtain⟨t,rfl⟩:=rx
  cases y with
  |gh=>cases ry;exact PySem.EqNone.ne_int_none (dI I q (by simp))
  |int j=>obtain⟨t',rfl⟩:=ry;exact ne_int (dI I q (congrArg not Es))
  |str j=>obtain⟨t',rfl⟩:=ry;exact PySem.EqMixed.ne_int_str (dI I q (by simp))
  |_=>exact absurd (show false=true from hs) Bool.false_ne_true
 |str i=>
  obtain⟨t,rfl⟩:=rx
  cases y with
  |gh=>cases ry;exact PySem.EqNone.ne_str_none (dI I q (by simp))
  |bl j=>cases ry;exact PySem.EqMixed.ne_str_bool (dI I q (by simp))
  |int j=>obtain⟨t',rfl⟩:=ry;exact PySem.EqMixed.ne_str_int (dI I q (by simp))
  |str j=>obtain⟨t',rfl⟩:=ry;exact ne_str (dI I q (congrArg not Er))
  |_=>exact absurd (show false=true from hs) Bool.false_ne_true
 |yX i=>
  obtain⟨t,rfl⟩:=rx
  cases y with
  |yX j=>obtain⟨t',rfl⟩:=ry;exact PySem.W.ne_bytes (dI I q (congrArg not Et))
  |_=>exact absurd (show false=true from hs) Bool.false_ne_true
 |_=>cases y<;>exact absurd (show false=true from hs) Bool.false_ne_true
theorem lM:sj X (compareOp .Lt) (bR fun i j=>.bl (decide (i<j))):=JW fun _ _ _ _ _ _ _ q=>lt_int q
theorem kC:sj X (compareOp .LtE) (bR fun i j=>.bl (decide (i≤j))):=JW fun _ _ _ _ _ _ _ q=>le_int q
theorem uf:sj X (compareOp .Gt) (bR fun i j=>.bl (decide (j<i))):=JW fun _ _ _ _ _ _ _ q=>gt_int q
theorem HG:sj X (compareOp .GtE) (bR fun i j=>.bl (decide (j≤i))):=JW fun _ _ _ _ _ _ _ q=>ge_int q
theorem JU:sj X (compareOp .IsNot) (fun x y H Q=>y=.gh∧Q (.bl (!decide (x=.gh))) H):=by
 intro pins s σ H x y v u Q I rx ry h
 obtain⟨rfl,q⟩:=h
 cases ry
 refine isnot_none_gen (dI I q ?_)
 cases x<;>first
  |(cases rx;rfl)
  |(obtain⟨t,rfl⟩:=rx;rfl)
theorem cK(b:Expr){op:CmpOp}(h:op≠.In:=by decide)(h2:op≠.NotIn:=by decide):behindInMarks op b=false:=by
 have e1:(op==CmpOp.In)=false:=by cases op<;>first|rfl|exact absurd rfl h
 have e2:(op==CmpOp.NotIn)=false:=by cases op<;>first|rfl|exact absurd rfl h2
 cases b<;>simp[behindInMarks,e1,e2]
theorem mq{op:CmpOp}{r:R2}(ho:sj X (compareOp op) r)(ha:PE X a ta)(hb:PE X b tb)(hm:behindInMarks op b=false):PE X (.Compare a [op] [b] pos) (bO r ta tb):=by
 intro pins s σ H Q I h
 exact wpAny_Compare1 (Mj ha hb I h fun v u s2 x y H2 I2 rx ry q=>ho pins s2 σ H2 x y v u Q I2 rx ry q) hm
def au(t:TE):TT:=fun σ H Q=>t σ H fun x H'=>∃k,x=.bl k∧Q k H'
theorem bZ{op:CmpOp}{r:R2}(ho:sj X (compareOp op) r)(ha:PE X a ta)(hb:PE X b tb)(hm:behindInMarks op b=false):PT X (.Compare a [op] [b] pos) (au (bO r ta tb)):=by
 intro pins s σ H Q I h
 refine wpAny_isTrue_Compare1 (fS (ha pins s σ H _ I h) fun v s1 ⟨x,H1,I1,r1,q1⟩=>fS (hb pins s1 σ H1 _ I1 q1) fun u s2 ⟨y,H2,I2,r2,q2⟩=>
  fS (ho pins s2 σ H2 x y v u _ I2 r1 r2 q2) fun c s3 ⟨z,H3,I3,r3,k,e,q3⟩=>?_) hm
 subst e
 cases r3
 exact wpAny_truthy_bool ⟨H3,I3,q3⟩
def aE(r r':R2)(ta tb tc:TE):TE:=fun σ H Q=>ta σ H fun x H1=>tb σ H1 fun y H2=>r x y H2 fun z H3=>∃k,z=.bl k∧
 (if k=true then tc σ H3 fun w' H4=>r' y w' H4 Q else Q (.bl false) H3)
theorem wz{op op':CmpOp}{r r':R2}(ho:sj X (compareOp op) r)(ho':sj X (compareOp op') r')(ha:PE X a ta)(hb:PE X b tb)(hc:PE X c tc)
  (hm:lastMarks [op,op'] [b,c]=false:=by with_unfolding_all rfl):PE X (.Compare a [op,op'] [b,c] pos) (aE r r' ta tb tc):=by
 intro pins s σ H Q I h
 refine Compare_chain (fS (ha pins s σ H _ I h) fun v s1 ⟨x,H1,I1,r1,q1⟩=>chain_link (fS (hb pins s1 σ H1 _ I1 q1) fun u s2 ⟨y,H2,I2,r2,q2⟩=>
  fS (ho pins s2 σ H2 x y v u _ I2 r1 r2 q2) fun d s3 ⟨z,H3,I3,r3,k,e,q3⟩=>?_)) hm
 subst e
 cases r3
 refine wpAny_truthy_bool ?_
 cases k with
 |false=>exact ite_ff ⟨.bl false,H3,I3,rfl,q3⟩
 |true=>exact ite_tt (chain_last (fS (hc pins s3 σ H3 _ I3 q3) fun w' s4 ⟨z',H4,I4,r4,q4⟩=>ho' pins s4 σ H4 y z' u w' Q I4 r2 r4 q4))
theorem we{op op':CmpOp}{r r':R2}(ho:sj X (compareOp op) r)(ho':sj X (compareOp op') r')(ha:PE X a ta)(hb:PE X b tb)(hc:PE X c tc)
  (hm:lastMarks [op,op'] [b,c]=false:=by with_unfolding_all rfl):PT X (.Compare a [op,op'] [b,c] pos) (au (aE r r' ta tb tc)):=by
 intro pins s σ H Q I h
 refine isTrue_chain (fS (ha pins s σ H _ I h) fun v s1 ⟨x,H1,I1,r1,q1⟩=>test_link (fS (hb pins s1 σ H1 _ I1 q1) fun u s2 ⟨y,H2,I2,r2,q2⟩=>
  fS (ho pins s2 σ H2 x y v u _ I2 r1 r2 q2) fun d s3 ⟨z,H3,I3,r3,k,e,q3⟩=>?_)) hm
 subst e
 cases r3
 refine wpAny_truthy_bool ?_
 cases k with
 |false=>
  obtain⟨k',e',q'⟩:=q3
  cases e'
  exact ite_ff ⟨H3,I3,q'⟩
 |true=>
  refine ite_tt (test_last (fS (hc pins s3 σ H3 _ I3 q3) fun w' s4 ⟨z',H4,I4,r4,q4⟩=>fS (ho' pins s4 σ H4 y z' u w' _ I4 r2 r4 q4) fun d' s5 ⟨z2,H5,I5,r5,k2,e2,q5⟩=>?_))
  subst e2
  cases r5
  exact wpAny_truthy_bool ⟨H5,I5,q5⟩
def eH(K:PySem.W.Frag)(x:V)(H:Hp)(k:Bool):Prop:=
 match x with
 |.gh=>k=false
 |.bl b=>k=b
 |.int i=>k=(i != 0)
 |.str y=>y.length≤sizeLine∧k=((y.length:Int) != 0)
 |.yX y=>y.size≤sizeLine∧k=((y.size:Int) != 0)
 |.ref p=>(∃xs,dY K H p xs∧k= !xs.isEmpty)∨(∃xs,jF K H p xs∧k= !xs.isEmpty)∨∃kvs,H p=some (.dK kvs)∧k= !kvs.isEmpty
 |_=>False
theorem C7{κ:Type}{kvs:List (κ×V)}{vs:List (κ×Value)}(r:KV kvs vs):(!vs.isEmpty)= !kvs.isEmpty:=by
 cases r<;>rfl
theorem xj{xs:List V}{its:List Value}(r:Vals xs its):(!its.toArray.isEmpty)= !xs.isEmpty:=by
 cases r<;>simp
theorem Ad:(sizeLine:Nat)<2^63:=by rw[sizeLine_eq];decide
theorem Lm:N7 X (fun x H Q=>∃k,eH X.K x H k∧Q k H):=by
 intro pins s σ H x v Q I rx h
 obtain⟨k,e,q⟩:=h
 have hl:=Ad
 have hs:sizeLine=16777216:=sizeLine_eq
 cases x with
 |gh=>
  cases rx
  have e':k=false:=e
  subst e'
  exact truthy_none ⟨H,I,q⟩
 |bl b=>
  cases rx
  have e':k=b:=e
  subst e'
  exact wpAny_truthy_bool ⟨H,I,q⟩
 |int i=>
  obtain⟨t,rfl⟩:=rx
  have e':k=(i != 0):=e
  subst e'
  exact PySem.P.truthy_int ⟨H,I,q⟩
 |str y=>
  obtain⟨t,rfl⟩:=rx
  obtain⟨hy,e'⟩:y.length≤sizeLine∧k=((y.length:Int) != 0):=e
  subst e'
  exact PySem.P.truthy_str (by lia) ⟨H,I.tok _,q⟩
 |yX y=>
  obtain⟨t,rfl⟩:=rx
  obtain⟨hy,e'⟩:y.size≤sizeLine∧k=((y.size:Int) != 0):=e
  subst e'
  exact PySem.W.truthy_bytes (by lia) ⟨H,I.tok _,q⟩
 |ref p=>
  cases rx
  have e':(∃xs,dY X.K H p xs∧k= !xs.isEmpty)∨(∃xs,jF X.K H p xs∧k= !xs.isEmpty)∨∃kvs,H p=some (.dK kvs)∧k= !kvs.isEmpty:=e
  rcases e' with⟨xs,hx,e'⟩|⟨xs,hx,e'⟩|⟨kvs,hx,e'⟩
  ·subst e'
   obtain⟨its,r,pl,hz⟩:=I.list hx
   have hlen:=r.length
   exact wpAny_truthy_list pl.isList (by simp only[List.size_toArray];lia) ⟨H,I.tok _,by rw[xj r];exact q⟩
  ·subst e'
   obtain⟨its,r,pl,hz⟩:=I.tuple hx
   have hlen:=r.length
   exact truthy_tuple pl (by simp only[List.size_toArray];lia) ⟨H,I.tok _,by rw[xj r];exact q⟩
  ·subst e'
   obtain⟨hz,hS,vs,r,m⟩:kvs.length≤sizeLine∧(p==sysModules)=false∧∃vs,KV kvs vs∧s.heap.DictOf (iV X.prog X.w) p vs:=I.hok p _ hx
   have hlen:kvs.length=vs.length:=Paired.length r
   exact wpAny_truthy_dict hS m (by lia) ⟨H,I.tok _,by rw[C7 r];exact q⟩
 |_=>exact(show False from e).elim
theorem Hs(ha:PE X a ta)(he:∀whole,isTrue a X.env whole=(do let v ←whole;standAt a.pos;holding [v] (truthy v))):
  PT X a (fun σ H Q=>ta σ H fun x H'=>∃k,eH X.K x H' k∧Q k H'):=by
 intro pins s σ H Q I h
 exact isTrue_plain (fS (ha pins s σ H _ I h) fun v s1 ⟨x,H1,I1,r1,q1⟩=>Lm pins s1 σ H1 x v Q I1 r1 q1) (he _)
theorem vals1{x:V}{us:List Value}(r:Vals [x] us):∃u,us=[u]∧RelV x u:=by
 cases r with
 |cons r1 r2=>cases r2;exact⟨_,rfl,r1⟩
theorem vals2{x y:V}{us:List Value}(r:Vals [x,y] us):∃u w',us=[u,w']∧RelV x u∧RelV y w':=by
 cases r with
 |cons r1 r2=>
  cases r2 with
  |cons r3 r4=>cases r4;exact⟨_,_,rfl,r1,r3⟩
theorem jh:p9 X (.builtin "abs") (fun xs H Q=>∃i,xs=[.int i]∧Q (.int (if i<0 then -i else i)) H):=by
 intro pins s σ H xs us Q I r h
 obtain⟨i,rfl,q⟩:=h
 obtain⟨u,rfl,t,rfl⟩:=vals1 r
 exact call_abs_int fun u tk=>⟨.int (if i<0 then -i else i),H,I.tok _,⟨_,rfl⟩,q⟩
theorem yW(hc:X.calm=true):p9 X (.builtin "max") (fun xs H Q=>∃i j,xs=[.int i,.int j]∧Q (.int (if j>i then j else i)) H):=by
 intro pins s σ H xs us Q I r h
 obtain⟨i,j,rfl,q⟩:=h
 obtain⟨u,w',rfl,⟨t,rfl⟩,⟨t',rfl⟩⟩:=vals2 r
 refine max_two_ints (I.ok.hd hc) fun h' tk k=>⟨_,H,I.kept k,?_,q⟩
 by_cases hj:j>i
 ·rw[if_pos hj,if_pos hj];exact⟨_,rfl⟩
 ·rw[if_neg hj,if_neg hj];exact⟨_,rfl⟩
theorem pM(hc:X.calm=true):p9 X (.builtin "min") (fun xs H Q=>∃i j,xs=[.int i,.int j]∧Q (.int (if j<i then j else i)) H):=by
 intro pins s σ H xs us Q I r h
 obtain⟨i,j,rfl,q⟩:=h
 obtain⟨u,w',rfl,⟨t,rfl⟩,⟨t',rfl⟩⟩:=vals2 r
 refine min_two_ints (I.ok.hd hc) fun h' tk k=>⟨_,H,I.kept k,?_,q⟩
 by_cases hj:j<i
 ·rw[if_pos hj,if_pos hj];exact⟨_,rfl⟩
 ·rw[if_neg hj,if_neg hj];exact⟨_,rfl⟩
theorem rY:p9 X (.type "str") (fun xs H Q=>∃i,xs=[.int i]∧i.natAbs.log2<1920∧Q (.str (toString i)) H):=by
 intro pins s σ H xs us Q I r h
 obtain⟨i,rfl,hz,q⟩:=h
 obtain⟨u,rfl,t,rfl⟩:=vals1 r
 exact PySem.P.str_of_int hz ⟨.str _,H,I.tok _,⟨_,rfl⟩,q⟩
theorem IT:p9 X (.builtin "ord") (fun xs H Q=>∃x,xs=[.str x]∧x.length=1∧Q (.int (x.cps.getD 0 0:Nat)) H):=by
 intro pins s σ H xs us Q I r h
 obtain⟨x,rfl,hz,q⟩:=h
 obtain⟨u,rfl,t,rfl⟩:=vals1 r
 exact ord_of_one hz ⟨.int _,H,I.tok _,⟨_,rfl⟩,q⟩
def Oc(K:PySem.W.Frag)(x:V)(H:Hp)(n:Nat):Prop:=
 match x with
 |.str y=>y.length≤sizeLine∧n=y.length
 |.yX y=>y.size≤sizeLine∧n=y.size
 |.ref p=>(∃xs,dY K H p xs∧n=xs.length)∨∃xs,jF K H p xs∧n=xs.length
 |_=>False
theorem fk:p9 X (.builtin "len") (fun xs H Q=>∃x n,xs=[x]∧Oc X.K x H n∧Q (.int n) H):=by
 intro pins s σ H xs us Q I r h
 obtain⟨x,n,rfl,e,q⟩:=h
 obtain⟨u,rfl,rx⟩:=vals1 r
 have hl:=Ad
 have hs:sizeLine=16777216:=sizeLine_eq
 cases x with
 |str y=>
  obtain⟨t,rfl⟩:=rx
  obtain⟨hy,e'⟩:y.length≤sizeLine∧n=y.length:=e
  subst e'
  exact len_str (by lia) ⟨.int _,H,I.tok _,⟨_,rfl⟩,q⟩
 |yX y=>
  obtain⟨t,rfl⟩:=rx
  obtain⟨hy,e'⟩:y.size≤sizeLine∧n=y.size:=e
  subst e'
  exact PySem.W.len_bytes (by lia) ⟨.int _,H,I.tok _,⟨_,rfl⟩,q⟩
 |ref p=>
  cases rx
  have e':(∃xs,dY X.K H p xs∧n=xs.length)∨∃xs,jF X.K H p xs∧n=xs.length:=e
  rcases e' with⟨xs,hx,e'⟩|⟨xs,hx,e'⟩
  ·subst e'
   obtain⟨its,r',pl,hz⟩:=I.list hx
   have hlen:=r'.length
   exact Calls.call_len_list pl.isList (by simp only[List.size_toArray];lia) ⟨.int xs.length,H,I.tok _,⟨_,by simp only[List.size_toArray];rw[hlen]⟩,q⟩
  ·subst e'
   obtain⟨its,r',pl,hz⟩:=I.tuple hx
   have hlen:=r'.length
   exact len_tuple pl (by simp only[List.size_toArray];lia) ⟨.int xs.length,H,I.tok _,⟨_,by simp only[List.size_toArray];rw[hlen]⟩,q⟩
 |_=>exact(show False from e).elim
end
end L2
namespace L2
open PySem PySem.Spec PyProof.Rows
structure Gj(h:Heap)(x dx C:Addr)(mA:Str→Option Value):Prop where
 obj:h.get? x=some (PySem.W.instObj C dx)
 ns:h.Ns1 dx mA
 ne:dx≠x
theorem FJ{h:Heap}{dx:Addr}{mA:Str→Option Value}(n:h.Ns1 dx mA):∃od,h.get? dx=some od∧∀name,PySem.W.lookIn name od=some (mA name):=by
 obtain⟨o,es,ep,ho,hd,hk,_,hm⟩:=n
 refine⟨o,ho,fun name=>?_⟩
 have e:=hm name
 unfold nsFind findBy at e
 rw[←Array.find?_toList]at e
 unfold PySem.W.lookIn
 rw[hd]
 dsimp only
 split
 ·rename_i y q
  rw[q]at e
  exact congrArg some e
 ·rename_i q
  rw[q]at e
  have a:es.toList.any (·.refKey)=false:=by
   rw[List.any_eq_false]
   intro y hy
   obtain⟨z,t,hkey⟩:=hk y (Array.mem_toList_iff.mp hy)
   simp[DictEntry.refKey,hkey]
  have a':¬es.toList.any (·.refKey)=true:=by rw[a];exact Bool.false_ne_true
  rw[if_neg a']
  exact congrArg some e
theorem Gj.look{h:Heap}{x dx C:Addr}{mA:Str→Option Value}(I:Gj h x dx C mA):∃od,PySem.W.InstAt h x (PySem.W.instObj C dx) C (some od)∧∀name,PySem.W.lookIn name od=some (mA name):=
 let⟨od,ho,hl⟩:=FJ I.ns
 ⟨od,⟨I.obj,rfl,rfl,ho⟩,hl⟩
section
variable{prog:Program}{w:World}{A:Around}{E:Value→Shared→Prop}{s:Shared}{K:PySem.W.Frag}{x dx C f:Addr}{mA:Str→Option Value}{name:Str}{v:Value}
theorem get_map{expr:Bool}{Q:Value→Shared→Prop}(X:K.In s.heap)(I:Gj s.heap x dx C mA)(hg:PySem.W.plainGet K C name=true)(hh:PySem.W.hasDictIn K C=true)
  (ha:PySem.W.findIn K (.ref C) name=some none)(hv:mA name=some v)(hv':PySem.W.handedIn v=true)(h:Q v {s with toks:=s.toks+1}):
  wpAny (model prog w) A (getAttr (.ref x) name expr) Q E s:=by
 obtain⟨od,J,hl⟩:=I.look
 exact PySem.W.get_value X J (PySem.W.plainGet_of hg).1 (PySem.W.findObj_own hh ha rfl (by rw[hl,hv])) hv' h
theorem Jz{ns:List Str}{Q:Unit→Shared→Prop}(X:K.In s.heap)(I:Gj s.heap x dx C mA)
  (hs:PySem.W.findIn K (.ref C) "__setattr__"=some (some (.builtin "object.__setattr__")))(hp:PySem.W.plainOver K C=true)(ht:PySem.W.takerIn K C name=some none)(hh:PySem.W.hasDictIn K C=true)
  (hw:PySem.Within mA ns)(hsz:ns.length≤sizeLine)
  (h:∀h',Gj h' x dx C (fun y=>if y=name then some v else mA y)→Heap.SameBut dx s.heap h'→Q () {s with heap:=h',toks:=s.toks+2}):
  wpAny (model prog w) A (setAttr (.ref x) name v) Q E s:=by
 obtain⟨od,J,hl⟩:=I.look
 refine PySem.W.set_plain X J hs (PySem.W.osa_open (s:={s with toks:=s.toks+1}) (r:=none) X J hp ht fun b=>?_)
 obtain⟨cd,hc,hd'⟩:=PySem.W.any_some hh
 have hx:s.heap.get? x=some ⟨.ref C,some dx,.plain,#[]⟩:=I.obj
 refine wpAny_bind (wpAny_pure (wpAny_bind (wpAny_bind (wpAny_loadPart hx (wpAny_bind (PySem.W.Looks.here (s:={s with toks:=s.toks+1}) (PySem.W.looks_clsIn X hc) ?_))))))
 rw[hd']
 refine wpAny_pure (a:=some dx) (wpAny_bind (wpAny_pure (wpAny_bind ?_)))
 refine wpAny_nsSet1 (s:={s with toks:=s.toks+1}) I.ns fun h' hn2 hs2=>?_
 obtain⟨oD,esD,epD,hoD,hdD,hcD⟩:=hn2.count (PySem.Within.cons name v hw)
 refine wpAny_bind (wpAny_lookBehind hoD (by rw[hdD];exact pastItsLine_dict (Nat.le_trans hcD (by rw[List.length_cons];lia))) ?_)
 exact wpAny_pure (h _ ⟨(hs2.2 _ (Ne.symm I.ne)).trans I.obj,hn2,I.ne⟩ hs2)
theorem Ia{R:Result→Shared→Prop}{vs:List Value}{kw:List (Str×Value)}(X:K.In s.heap)(hm:PySem.W.makesIn K C=true)
  (hi:PySem.W.findIn K (.ref C) "__init__"=some (some (.ref f)))(hf:PySem.W.typeIn K (.ref f)=some (.type "function"))
  (h:codeAny (model prog w) (A.under (.builtin "type.__call__" ⟨.ref C::vs,kw⟩)) (.call (.ref f) ⟨.ref (s.heap.objs.size+1)::vs,kw⟩) (PySem.W.InitBack (s.heap.objs.size+1) R)
   {s with heap:=(s.heap.push PySem.W.emptyDict).push (PySem.W.instObj C s.heap.objs.size)}):
  codeAny (model prog w) A (.call (.ref C) ⟨vs,kw⟩) R s:=by
 obtain⟨hh,g,d,t,os⟩:=s
 exact PySem.W.make_core (PySem.W.makes_of X hm) (PySem.W.looks_findIn X hi) (fun self=>PySem.W.bind_fn X self hf) (.inl rfl) h
end
def mU(f:Str)(v:V):List (Str×V)→List (Str×V)
 |[]=>[(f,v)]
 |(g,x)::r=>if g=f then(g,v)::r else(g,x)::mU f v r
theorem ug(f g:Str)(v:V):∀fs:List (Str×V),(mU f v fs).lookup g=if g=f then some v else fs.lookup g
 |[]=>by
  show List.lookup g [(f,v)]=_
  by_cases h:g=f
  ·have hb:(g==f)=true:=beq_iff_eq.mpr h
   simp only[List.lookup,hb,if_pos h]
  ·have hb:(g==f)=false:=beq_eq_false_iff_ne.mpr h
   simp only[List.lookup,hb,if_neg h]
 |(k,x)::r=>by
  have ih:=ug f g v r
  rw[show mU f v ((k,x)::r)=(if k=f then(k,v)::r else(k,x)::mU f v r)from rfl]
  by_cases hk:k=f
  ·rw[if_pos hk]
   by_cases h:g=k
   ·have hb:(g==k)=true:=beq_iff_eq.mpr h
    simp only[List.lookup,hb,if_pos (h.trans hk)]
   ·have hb:(g==k)=false:=beq_eq_false_iff_ne.mpr h
    simp only[List.lookup,hb,if_neg (fun e:g=f=>h (e.trans hk.symm))]
  ·rw[if_neg hk]
   by_cases h:g=k
   ·have hb:(g==k)=true:=beq_iff_eq.mpr h
    simp only[List.lookup,hb,if_neg (fun e:g=f=>hk (h.symm.trans e))]
   ·have hb:(g==k)=false:=beq_eq_false_iff_ne.mpr h
    simp only[List.lookup,hb]
    exact ih
theorem tH(f:Str)(v:V):∀fs:List (Str×V),f∈(mU f v fs).map (·.1)∧∀g,g∈fs.map (·.1)→g∈(mU f v fs).map (·.1)
 |[]=>⟨by simp[mU],fun g h=>by simp at h⟩
 |(k,x)::r=>by
  obtain⟨i1,i2⟩:=tH f v r
  rw[show mU f v ((k,x)::r)=(if k=f then(k,v)::r else(k,x)::mU f v r)from rfl]
  by_cases hk:k=f
  ·rw[if_pos hk]
   subst hk
   exact⟨by simp,fun g h=>by simpa using h⟩
  ·rw[if_neg hk]
   refine⟨?_,fun g h=>?_⟩
   ·rw[List.map_cons]
    exact List.mem_cons_of_mem _ i1
   ·rw[List.map_cons]at h⊢
    rcases List.mem_cons.mp h with e|e
    ·exact List.mem_cons.mpr (.inl e)
    ·exact List.mem_cons_of_mem _ (i2 g e)
theorem uh(f:Str)(v:V):∀fs:List (Str×V),(mU f v fs).length≤fs.length+1
 |[]=>by simp[mU]
 |(k,x)::r=>by
  have ih:=uh f v r
  rw[show mU f v ((k,x)::r)=(if k=f then(k,v)::r else(k,x)::mU f v r)from rfl]
  by_cases hk:k=f
  ·rw[if_pos hk,List.length_cons,List.length_cons];lia
  ·rw[if_neg hk,List.length_cons,List.length_cons];lia
theorem xO.some_of{v:V}{o:Option Value}(r:xO (some v) o):∃u,o=some u∧RelV v u:=by
 cases o with
 |none=>exact(show False from r).elim
 |some u=>exact⟨u,rfl,r⟩
theorem FZ{v:V}{u:Value}(r:RelV v u):PySem.W.handedIn u=true:=by
 cases v with
 |gh=>cases(show u=Value.none from r);rfl
 |bl b=>cases(show u=Value.bool b from r);rfl
 |int i=>obtain⟨t,e⟩:=(show ∃t,u=Value.int i t from r);cases e;rfl
 |str x=>obtain⟨t,e⟩:=(show ∃t,u=Value.str x t from r);cases e;rfl
 |yX b=>obtain⟨t,e⟩:=(show ∃t,u=Value.bytes b t from r);cases e;rfl
 |flt b=>obtain⟨t,e⟩:=(show ∃t,u=Value.float b t from r);cases e;rfl
 |ref a=>cases(show u=Value.ref a from r);rfl
 |ty n=>cases(show u=Value.type n from r);rfl
section
variable{P:Program}{w:World}{H H':Hp}{h h':Heap}{a C dx:Addr}{fs fs':List (Str×V)}
theorem Ek(hok:su P w H h)(e:H a=some (.ins C dx fs)):∃mA,Gj h a dx C mA∧(∀f,xO (fs.lookup f) (mA f))∧PySem.Within mA (fs.map (·.1))∧fs.length≤1000∧H dx=some (.own a):=by
 obtain⟨d,z,ne,ob,mA,n,r,q⟩:=(show j6 P w H h a (.ins C dx fs)from hok a _ e)
 exact⟨mA,⟨ob,n,ne⟩,r,q,z,d⟩
end
structure B4(K:PySem.W.Frag)(C:Addr):Prop where
 pg:PySem.W.plainGet K C Str.empty=true
 hd:PySem.W.hasDictIn K C=true
 po:PySem.W.plainOver K C=true
 sa:PySem.W.findIn K (.ref C) "__setattr__"=some (some (.builtin "object.__setattr__"))
theorem B4.get{K:PySem.W.Frag}{C:Addr}(c:B4 K C)(f:Str):PySem.W.plainGet K C f=true:=c.pg
def dm(K:PySem.W.Frag)(C:Addr)(f:Str):Prop:=PySem.W.findIn K (.ref C) f=some none
theorem dm.Mz{K:PySem.W.Frag}{C:Addr}{f:Str}(n:dm K C f):PySem.W.takerIn K C f=some none:=by
 unfold PySem.W.takerIn
 rw[show PySem.W.findIn K (.ref C) f=some none from n]
 rfl
section
variable{X:Cx}{pins:List (Addr×Obj)}{σ:St}{H:Hp}{s:Shared}{a C dx:Addr}{fs:List (Str×V)}{f:Str}{v:V}{A:Around}{E:Value→Shared→Prop}
theorem C8{b:Bool}{Q:Value→Shared→Prop}(I:Inv X pins σ H s)(e:H a=some (.ins C dx fs))(c:B4 X.K C)(n:dm X.K C f)(l:fs.lookup f=some v)
  (h:∀u s',Inv X pins σ H s'→RelV v u→Q u s'):wpAny (model X.prog X.w) A (getAttr (.ref a) f b) Q E s:=by
 obtain⟨mA,O,r,_,_,_⟩:=Ek I.hok e
 obtain⟨u,hu,ru⟩:=xO.some_of (v:=v) (o:=mA f) (by rw[←l];exact r f)
 exact get_map I.B6 O (c.get f) c.hd n hu (FZ ru) (h u _ (I.tok _) ru)
theorem Cp{y:V}{u:Value}{Q:Unit→Shared→Prop}(I:Inv X pins σ H s)(e:H a=some (.ins C dx fs))(c:B4 X.K C)(n:dm X.K C f)(hl:fs.length<1000)(ry:RelV y u)
  (h:∀s',Inv X pins σ (upd H a (.ins C dx (mU f y fs))) s'→Q () s'):wpAny (model X.prog X.w) A (setAttr (.ref a) f u) Q E s:=by
 obtain⟨mA,O,r,wi,_,ho⟩:=Ek I.hok e
 have hz:(fs.map (·.1)).length≤sizeLine:=by rw[List.length_map,sizeLine_eq];lia
 refine Jz I.B6 O c.sa c.po n.Mz c.hd wi hz fun h' O' sb=>h _ ?_
 have hd:∃o,h'.get? dx=some o:=let⟨o,_,_,e',_⟩:=O'.ns;⟨o,e'⟩
 refine I.write (x:=a) (e:=dx) (by rw[e];exact True.intro) (.inr ho) (fun b q hb z=>(sb.2 b hb).trans z) hd ?_
 refine⟨by rw[cQ O.ne];exact ho,?_,O.ne,O'.obj,_,O'.ns,fun g=>?_,fun g hg=>?_⟩
 ·have:=uh f y fs;lia
 ·show xO ((mU f y fs).lookup g) (if g=f then some u else mA g)
  rw[ug]
  by_cases q:g=f
  ·rw[if_pos q,if_pos q];exact ry
  ·rw[if_neg q,if_neg q];exact r g
 ·by_cases q:g=f
  ·rw[q];exact(tH f y fs).1
  ·refine(tH f y fs).2 g (wi g fun z=>hg ?_)
   show(if g=f then some u else mA g)=none
   rw[if_neg q];exact z
theorem Inv.made(I:Inv X pins σ H s):Inv X pins σ (upd (upd H s.heap.objs.size (.own (s.heap.objs.size+1))) (s.heap.objs.size+1) (.ins C s.heap.objs.size []))
  {s with heap:=(s.heap.push PySem.W.emptyDict).push (PySem.W.instObj C s.heap.objs.size)}:=by
 have e1:(s.heap.push PySem.W.emptyDict).get? s.heap.objs.size=some PySem.W.emptyDict:=Heap.get?_push_size s.heap rfl
 have e2:((s.heap.push PySem.W.emptyDict).push (PySem.W.instObj C s.heap.objs.size)).get? (s.heap.objs.size+1)=some (PySem.W.instObj C s.heap.objs.size):=by
  have:=Heap.get?_push_size (s.heap.push PySem.W.emptyDict) (o:=PySem.W.instObj C s.heap.objs.size) rfl
  rwa [Heap.size_push]at this
 have e3:(s.heap.push PySem.W.emptyDict).Ns s.heap.objs.size (fun _=>none):=⟨PySem.W.emptyDict,#[],_,e1,rfl,(fun e he=>absurd he (by simp)),fun _=>rfl⟩
 have I1:=I.laid (a:=s.heap.objs.size) (o:=.own (s.heap.objs.size+1)) (h':=s.heap.push PySem.W.emptyDict) (t':=s.toks) (fun b u q=>Heap.get?_push_of_some _ q) (Nat.le_refl _) ⟨_,e1⟩
 refine I1.laid (a:=s.heap.objs.size+1) (o:=.ins C s.heap.objs.size []) (t':=s.toks) (fun b u q=>Heap.get?_push_of_some _ q) (Nat.le_of_eq (Heap.size_push _ _)) ?_
 have ne:s.heap.objs.size≠s.heap.objs.size+1:=Nat.ne_of_lt (Nat.lt_succ_self _)
 refine⟨by rw[cQ ne,aF],Nat.zero_le _,ne,e2,fun _=>none,(Heap.Ns1.of_empty e3).at fun o q=>Heap.get?_push_of_some _ q,fun _=>True.intro,fun y hy=>absurd rfl hy⟩
theorem Kv{prog:Program}{w:World}{env:Env}{e:Expr}{f:Str}{pos:Pos}{s:Shared}{Q:Value→Shared→Prop}(hb:attributeBase e f env (eval e env)=eval e env)
  (h:wpAny (model prog w) A (eval e env) (fun o s₁=>wpAny (model prog w) A (getAttr o f true) Q E s₁) E s):wpAny (model prog w) A (eval (.Attribute e f pos) env) Q E s:=
 Attribute_any_ h (by rw[arm_eval_Attribute,hb])
end
def NF(K:PySem.W.Frag)(ta:TE)(f:Str):TE:=fun σ H Q=>ta σ H fun x H1=>∃a C dx fs v,x=.ref a∧H1 a=some (.ins C dx fs)∧B4 K C∧dm K C f∧fs.lookup f=some v∧Q v H1
def NH(K:PySem.W.Frag)(ta tv:TE)(f:Str):TS:=fun D σ H=>tv σ H fun y H1=>ta σ H1 fun x H2=>∃a C dx fs,x=.ref a∧H2 a=some (.ins C dx fs)∧B4 K C∧dm K C f∧fs.length<1000∧
 D.nx σ (upd H2 a (.ins C dx (mU f y fs)))
section
variable{X:Cx}{o e value:Expr}{f:Str}{pos pos' tpos:Pos}{ta tv:TE}
theorem LM(he:PE X e ta)(hb:attributeBase e f X.env (eval e X.env)=eval e X.env):PE X (.Attribute e f pos) (NF X.K ta f):=by
 intro pins s σ H Q I h
 refine Kv hb (fS (he pins s σ H _ I h) fun u s1 ⟨x,H1,I1,rx,a,C,dx,fs,v,ex,ea,c,n,l,q⟩=>?_)
 subst ex
 obtain rfl:u=Value.ref a:=rx
 exact C8 I1 ea c n l fun u' s2 I2 ru=>⟨v,H1,I2,ru,q⟩
theorem LI(ha:PE X o ta)(hv:PE X value tv)(hs:swapsWith value (some (.Attribute o f pos')) pos.line X.env=pure false):PS X (.Assign [.Attribute o f pos'] value pos) (NH X.K ta tv f):=by
 intro pins s σ H D I h
 refine plainObj_wpAny_Assign_Attribute (fS (hv pins s σ H _ I h) fun u s1 ⟨y,H1,I1,ry,q⟩=>fS (ha pins s1 σ H1 _ I1 q) fun ov s2 ⟨x,H2,I2,rx,a,C,dx,fs,ex,ea,c,n,l,q2⟩=>?_) hs
 subst ex
 obtain rfl:ov=Value.ref a:=rx
 exact Cp I2 ea c n l ry fun s3 I3=>⟨σ,_,I3,q2⟩
end
section
variable{X:Cx}{pins:List (Addr×Obj)}{σ:St}{H:Hp}{s:Shared}{A:Around}{E:Value→Shared→Prop}{Q:Value→Shared→Prop}{c:Value}{b:Bool}
end
end L2
namespace L2
open PySem PySem.Spec PyProof.Rows
structure iN(k:Nat)(A:Around):Prop where
 hd:A.handled=none
 dp:A.depth+3*k+5<recursionLimit
 un:A.units+16*k+200<cLine
theorem iN.mono{j k:Nat}{A:Around}(r:iN k A)(h:j≤k):iN j A:=⟨r.hd,by have:=r.dp;lia,by have:=r.un;lia⟩
theorem iN.deeper{k:Nat}{A:Around}(r:iN (k+1) A)(env:Env):iN k (A.deeper env):=
 ⟨r.hd,by have:=r.dp;show A.depth+1+3*k+5<_;lia,by have:=r.un;show A.units+3+16*k+200<_;lia⟩
theorem C4{A:Around}{C:Addr}{us:List Value}{kw:List (Str×Value)}:(A.under (.builtin "type.__call__" ⟨.ref C::us,kw⟩)).depth=A.depth+1:=by
 first|rfl|simp[Around.under,Code.weight,Code.isCreation,Code.isGuard,Code.isCaller,Code.frames,Code.isFrame,guardIds]
theorem C3{A:Around}{C:Addr}{us:List Value}{kw:List (Str×Value)}:(A.under (.builtin "type.__call__" ⟨.ref C::us,kw⟩)).units=A.units+1:=by
 first|rfl|simp[Around.under,Code.cUnits,Code.frames,Code.isFrame]
theorem iN.make{k:Nat}{A:Around}(r:iN (k+1) A)(C:Addr)(us:List Value)(kw:List (Str×Value)):iN k (A.under (.builtin "type.__call__" ⟨.ref C::us,kw⟩)):=
 ⟨r.hd,by have:=r.dp;rw[C4];lia,by have:=r.un;rw[C3];lia⟩
theorem iN.depth{k:Nat}{A:Around}(r:iN k A):A.depth<recursionLimit:=by have:=r.dp;lia
def aI:TA:=fun _ H Q=>Q [] H
def ak(ta:TE)(tr:TA):TA:=fun σ H Q=>ta σ H fun x H1=>tr σ H1 fun xs H2=>Q (x::xs) H2
section
variable{X:Cx}{e:Expr}{es:List Expr}{te:TE}{t:TA}{pos:Pos}
theorem af:PA X [] aI:=fun _ _ _ _ H Q I h=>Calls.spliced_nil ⟨[],H,I,.nil,h⟩
theorem aa(ha:PE X e te)(hr:PA X es t)(hs:starEach (e::es) X.env=(false,eval e X.env)::starEach es X.env:=by rfl):PA X (e::es) (ak te t):=by
 intro pos pins s σ H Q I h
 rw[hs]
 show wpAny _ _ (spliced ((false,eval e X.env)::backTo pos (starEach es X.env))) _ _ s
 refine Calls.spliced_cons (fS (ha pins s σ H _ I h) fun u s1 ⟨x,H1,I1,r1,q1⟩=>?_)
 exact fS (hr pos pins s1 σ H1 _ I1 q1) fun us s2 ⟨xs,H2,I2,r2,q2⟩=>⟨x::xs,H2,I2,.cons r1 r2,q2⟩
def aQ(t:TA):TE:=fun σ H Q=>t σ H fun xs H1=>xs.length≤sizeLine∧∀p,H1 p=none→Q (.ref p) (upd H1 p (.tup xs))
def aW(t:TA):TE:=fun σ H Q=>t σ H fun xs H1=>xs.length≤sizeLine∧∀p,H1 p=none→Q (.ref p) (upd H1 p (.lst xs))
theorem fL{x1}(h:PA X es t):PE X (.Tuple es x1 pos) (aQ t):=by
 intro pins s σ H Q I hq
 refine wpAny_Tuple_spliced (fS (h pos pins s σ H _ I hq) fun us s1 ⟨xs,H1,I1,r,z,q⟩=>⟨by rw[←r.length];exact z,?_⟩)
 have hf:H1 s1.heap.objs.size=none:=I1.hok.fresh (Nat.le_refl _)
 refine⟨.ref s1.heap.objs.size,upd H1 s1.heap.objs.size (.tup xs),I1.laid (t':=s1.toks) (fun b u e=>Heap.get?_push_of_some _ e) (Nat.le_refl _) ?_,rfl,q _ hf⟩
 exact⟨z,us,r,⟨_,Heap.get?_push_size _ rfl,rfl,_,rfl⟩⟩
theorem cC(h:PA X es t):PE X (.List es pos) (aW t):=by
 intro pins s σ H Q I hq
 refine wpAny_List_spliced (fS (h pos pins s σ H _ I hq) fun us s1 ⟨xs,H1,I1,r,z,q⟩=>⟨by rw[←r.length];exact z,?_⟩)
 have hf:H1 s1.heap.objs.size=none:=I1.hok.fresh (Nat.le_refl _)
 refine⟨.ref s1.heap.objs.size,upd H1 s1.heap.objs.size (.lst xs),I1.laid (t':=s1.toks) (fun b u e=>Heap.get?_push_of_some _ e) (Nat.le_refl _) ?_,rfl,q _ hf⟩
 exact⟨z,us,0,r,Heap.get?_push_size _ rfl⟩
end
abbrev Sp:=List V→Hp→VK→XK→Prop
abbrev Gm:=List Env→Hp→Shared→XK→Value→Shared→Prop
structure Dp(P:Program)(w:World)(K:PySem.W.Frag)(mg:Str→Option Value)(base:Heap)(A:Around)(outer:List Env)(s:Shared)(H:Hp):Prop where
 frames:A.frames=some outer
 mod:Mod K mg base
 bs:∀b o,base.get? b=some o→s.heap.get? b=some o∧H b=none
 Jf:base.objs.size≤s.heap.objs.size
 uJ:s.heap.FunFrames base outer
 L7:∀b∈frs outer,H b=none
 hok:su P w H s.heap
 bare:AllBare s.gens
def CE(outer:List Env)(P:Program)(w:World)(H:Hp)(s:Shared)(Q:VK)(u:Value)(s':Shared):Prop:=
 ∃v H',s'.os=s.os∧AllBare s'.gens∧Un (frs outer) [] H H' s.heap s'.heap∧su P w H' s'.heap∧RelV v u∧Q v H'
def CR(CX:Gm)(outer:List Env)(P:Program)(w:World)(H:Hp)(s:Shared)(Q:VK)(E:XK)(r:Result)(s':Shared):Prop:=
 match r with
 |.ok (.ret u)=>CE outer P w H s Q u s'
 |.ok _=>False
 |.error e=>CX outer H s E e s'
structure cA(P:Program)(w:World)(K:PySem.W.Frag)(mg:Str→Option Value)(base:Heap)(CX:Gm)(k:Nat)(f:Addr)(fd:FuncData)(ps:List Str)(sp:Sp):Prop where
 len:∀vs H Q E,sp vs H Q E→vs.length=ps.length
 run:∀(A:Around) (outer:List Env) (s:Shared) (H:Hp) (args:Args) (us:List Value) (vs:List V) (Q:VK) (E:XK),iN k A→Dp P w K mg base A outer s H→BindsTo s fd args (ps.zip us)→Vals vs us→sp vs H Q E→
  codeAny (model P w) A (.call (.ref f) args) (CR CX outer P w H s Q E) s
theorem Dp.make{P:Program}{w:World}{K:PySem.W.Frag}{mg:Str→Option Value}{base:Heap}{A:Around}{outer:List Env}{s:Shared}{H:Hp}(e:Dp P w K mg base A outer s H)(C:Addr)(us:List Value)(kw:List (Str×Value)):
  Dp P w K mg base (A.under (.builtin "type.__call__" ⟨.ref C::us,kw⟩)) outer s H:=⟨by first|exact e.frames|(simpa[Around.under,Code.envs,Code.isFrame,pushEnvs]using e.frames),e.mod,e.bs,e.Jf,e.uJ,e.L7,e.hok,e.bare⟩
section
variable{X:Cx}{pins:List (Addr×Obj)}{σ:St}{H:Hp}{s s':Shared}
theorem Inv.M3(I:Inv X pins σ H s):Dp X.prog X.w X.K X.mg X.base X.A X.stack s H:=
 ⟨I.ok.frames,I.ok.mod,I.bs,Nat.le_trans I.ok.Jf I.sz,I.stack,I.Du,I.hok,I.bare⟩
theorem Inv.after{Q:VK}{u:Value}(I:Inv X pins σ H s)(h:CE X.stack X.prog X.w H s Q u s'):EP X pins σ Q u s':=by
 obtain⟨v,H',os,bare,un,hok,r,q⟩:=h
 obtain⟨hh,g,d,t,os'⟩:=s'
 obtain rfl:os'=s.os:=os
 exact⟨v,H',I.call (h':=hh) (g':=g) (d':=d) (t':=t) (ch:=[]) un hok bare (fun b z=>absurd z (by simp)),r,q⟩
end
def aq(sp:Sp)(dvs:List V)(E:XK)(t:TA):TE:=fun σ H Q=>t σ H fun vs H1=>sp (vs++dvs) H1 Q E
def aX(C:Addr)(sp:Sp)(dvs:List V)(E:XK)(t:TA):TE:=fun σ H Q=>t σ H fun vs H1=>∀x dx,H1 x=none→H1 dx=none→dx≠x→
 sp (.ref x::(vs++dvs)) (upd (upd H1 dx (.own x)) x (.ins C dx [])) (fun v H2=>v=.gh∧Q (.ref x) H2) E
def Binds(K:PySem.W.Frag)(fd:FuncData)(ps:List Str)(ds:List Value):Prop:=
 ∀(s:Shared) (us:List Value),K.In s.heap→(us++ds).length=ps.length→BindsTo s fd ⟨us,[]⟩ (ps.zip (us++ds))
theorem Binds.all{K:PySem.W.Frag}{fd:FuncData}{ps:List Str}(h:∀us:List Value,us.length=ps.length→bindArgs fd ⟨us,[]⟩=pure (ps.zip us)):Binds K fd ps []:=fun s us _ hl=>by
 rw[List.append_nil]at hl⊢
 exact .of_eq (h us hl)
def Passes(CX:Gm)(X:Cx)(E:XK):Prop:=∀(pins:List (Addr×Obj)) (σ:St) (H:Hp) (s:Shared) (e:Value) (s':Shared),Inv X pins σ H s→CX X.stack H s E e s'→X.xe e s'
section
variable{X:Cx}{CX:Gm}{k:Nat}{f C:Addr}{fd:FuncData}{ps:List Str}{sp:Sp}{dvs:List V}{ds:List Value}{E:XK}{x m:Str}{p pos apos:Pos}{e o:Expr}{es:List Expr}{ta:TE}{t:TA}
theorem Hg{pins:List (Addr×Obj)}{σ:St}{H:Hp}{s:Shared}{Q:VK}{us:List Value}{vs:List V}(F:cA X.prog X.w X.K X.mg X.base CX k f fd ps sp)(hr:iN k X.A)(hb:Binds X.K fd ps ds)(hd:Vals dvs ds)(hx:Passes CX X E)
  (I:Inv X pins σ H s)(r:Vals vs us)(h:sp (vs++dvs) H Q E):wpAny (model X.prog X.w) X.A (call (.ref f) us) (EP X pins σ Q) X.xe s:=by
 have r2:Vals (vs++dvs) (us++ds):=r.append hd
 have hl:(us++ds).length=ps.length:=by rw[←r2.length];exact F.len _ _ _ _ h
 refine wpAny_call (codeAny_mono (F.run X.A X.stack s H ⟨us,[]⟩ (us++ds) (vs++dvs) Q E hr I.M3 (hb s us I.B6 hl) r2 h) fun r s' hq=>?_)
 cases r with
 |error e=>exact hx pins σ H s e s' I hq
 |ok fl=>
  cases fl with
  |ret u=>exact I.after hq
  |next=>exact False.elim hq
  |brk=>exact False.elim hq
  |cont=>exact False.elim hq
theorem JO(F:cA X.prog X.w X.K X.mg X.base CX k f fd ps sp)(hr:iN k X.A)(hg:Gl X x)(hm:X.mg x=some (.ref f))(hk:PySem.W.keepIn X.K (.ref f)=true)(hb:Binds X.K fd ps ds)(hd:Vals dvs ds)(hx:Passes CX X E)
  (ha:PA X (e::es) t)(hdb:(x==("__debug__":Str))=false:=by decide)(he:starEach (e::es) X.env=(false,eval e X.env)::starEach es X.env:=by rfl)(hpl:(backTo pos (starEach es X.env)).any (·.1)=false:=by rfl):
  PE X (.Call (.Name x p) (e::es) [] pos) (aq sp dvs E t):=by
 intro pins s σ H Q I h
 refine wpAny_Call_Name_kw (uX I hg hm ?_ hdb)
 refine PySem.W.callWith_K (h₀:=X.base) I.ok.mod.MW hk (fS (ha pos pins s σ H _ I h) fun us s1 ⟨vs,H1,I1,r,q⟩=>⟨I1.B6,?_⟩) he hpl
 exact Hg F hr hb hd hx I1 r q
structure Mk(K:PySem.W.Frag)(C f:Addr):Prop where
 makes:PySem.W.makesIn K C=true
 init:PySem.W.findIn K (.ref C) "__init__"=some (some (.ref f))
 fn:PySem.W.isFn K (.ref f)=true
 kp:PySem.W.keepIn K (.ref C)=true
theorem Be{pins:List (Addr×Obj)}{σ:St}{H:Hp}{s:Shared}{Q:VK}{us:List Value}{vs:List V}(M:Mk X.K C f)(F:cA X.prog X.w X.K X.mg X.base CX k f fd ps sp)(hr:iN (k+1) X.A)(hb:Binds X.K fd ps ds)(hd:Vals dvs ds)
  (hx:Passes CX X E)(I:Inv X pins σ H s)(r:Vals vs us)
  (h:∀x dx,H x=none→H dx=none→dx≠x→sp (.ref x::(vs++dvs)) (upd (upd H dx (.own x)) x (.ins C dx [])) (fun v H2=>v=.gh∧Q (.ref x) H2) E):
  wpAny (model X.prog X.w) X.A (call (.ref C) us) (EP X pins σ Q) X.xe s:=by
 have hq:=h (s.heap.objs.size+1) s.heap.objs.size (I.hok.fresh (Nat.le_succ _)) (I.hok.fresh (Nat.le_refl _)) (Nat.ne_of_lt (Nat.lt_succ_self _))
 have I2:=Inv.made (C:=C) I
 have r2:Vals (V.ref (s.heap.objs.size+1)::(vs++dvs)) (Value.ref (s.heap.objs.size+1)::(us++ds)):=.cons rfl (r.append hd)
 have hl:(Value.ref (s.heap.objs.size+1)::us++ds).length=ps.length:=by
  have e:=r2.length
  rw[F.len _ _ _ _ hq]at e
  exact e.symm
 refine wpAny_call (Ia (f:=f) I.B6 M.makes M.init (beq_iff_eq.mp M.fn) (codeAny_mono (F.run _ X.stack _ _ ⟨Value.ref (s.heap.objs.size+1)::us,[]⟩ (Value.ref (s.heap.objs.size+1)::(us++ds)) _ _ E (hr.make C us [])
  (I2.M3.make C us []) (hb _ (Value.ref (s.heap.objs.size+1)::us) I2.B6 hl) r2 hq) fun r s' hq'=>?_))
 cases r with
 |error e=>exact hx pins σ _ _ e s' I2 hq'
 |ok fl=>
  cases fl with
  |ret u=>
   obtain⟨v,H',I3,rv,ev,q3⟩:=I2.after hq'
   subst ev
   exact⟨rv,⟨V.ref (s.heap.objs.size+1),H',I3,rfl,q3⟩⟩
  |next=>exact False.elim hq'
  |brk=>exact False.elim hq'
  |cont=>exact False.elim hq'
theorem JM(M:Mk X.K C f)(F:cA X.prog X.w X.K X.mg X.base CX k f fd ps sp)(hr:iN (k+1) X.A)(hg:Gl X x)(hm:X.mg x=some (.ref C))(hb:Binds X.K fd ps ds)(hd:Vals dvs ds)(hx:Passes CX X E)
  (ha:PA X (e::es) t)(hdb:(x==("__debug__":Str))=false:=by decide)(he:starEach (e::es) X.env=(false,eval e X.env)::starEach es X.env:=by rfl)(hpl:(backTo pos (starEach es X.env)).any (·.1)=false:=by rfl):
  PE X (.Call (.Name x p) (e::es) [] pos) (aX C sp dvs E t):=by
 intro pins s σ H Q I h
 refine wpAny_Call_Name_kw (uX I hg hm ?_ hdb)
 refine PySem.W.callWith_K (h₀:=X.base) I.ok.mod.MW M.kp (fS (ha pos pins s σ H _ I h) fun us s1 ⟨vs,H1,I1,r,q⟩=>⟨I1.B6,?_⟩) he hpl
 exact Be M F hr hb hd hx I1 r q
theorem Hv(M:Mk X.K C f)(F:cA X.prog X.w X.K X.mg X.base CX k f fd ps sp)(hr:iN (k+1) X.A)(hg:Gl X x)(hm:X.mg x=some (.ref C))(hb:Binds X.K fd ps ds)(hd:Vals dvs ds)(hx:Passes CX X E)
  (hdb:(x==("__debug__":Str))=false:=by decide):PE X (.Call (.Name x p) [] [] pos) (aX C sp dvs E aI):=by
 intro pins s σ H Q I h
 refine wpAny_Call_Name_kw (uX I hg hm ?_ hdb)
 exact PySem.W.callWith_K0 I.B6 M.kp (Be (us:=[]) M F hr hb hd hx I .nil h)
end
section
variable{X:Cx}{CX:Gm}{k:Nat}{f C:Addr}{fd:FuncData}{ps ks:List Str}{sp:Sp}{E:XK}{x m:Str}{p pos apos kpos:Pos}{e o:Expr}{es:List Expr}{kws:List Keyword}{te ta:TE}{t tk:TA}{nm:Option Str}
variable{g:List Value→List Value→List Value}{gV:List V→List V→List V}
end
structure bz(N P:List Str)(sc:Scope):Prop where
 kind:sc.kind=.function
 co:sc.isCoroutine=false
 gen:sc.isGenerator=false
 nd:N.Nodup
 pre:N.take P.length=P
 par:∀x∈P,sc.names.lookup x=some .local∨sc.names.lookup x=some .cell
 LV:∀y∈sc.names,y.2≠.free
theorem yZ{kindOf:Str→Option NameKind}{x:Str}:∀{binds:List (Str×Value)} {m:Str→Option Value},(∀v,(x,v)∉binds)→bindL kindOf binds m x=m x
 |[],_,_=>rfl
 |(n,v)::r,m,h=>by
  unfold bindL
  rw[yZ fun w hw=>h w (List.mem_cons_of_mem _ hw)]
  split
  ·have:x≠n:=by rintro rfl;exact h v List.mem_cons_self
   simp[this]
  ·rfl
theorem zb{kindOf:Str→Option NameKind}{x:Str}:∀{binds:List (Str×Value)} {m:Str→Option Value},(∀v,(x,v)∉binds)→bindC kindOf binds m x=m x
 |[],_,_=>rfl
 |(n,v)::r,m,h=>by
  unfold bindC
  rw[zb fun w hw=>h w (List.mem_cons_of_mem _ hw)]
  split
  ·rfl
  ·have:x≠n:=by rintro rfl;exact h v List.mem_cons_self
   simp[this]
theorem za{kindOf:Str→Option NameKind}{x:Str}{v:Value}:∀{P:List Str} {vs:List Value} {i:Nat} {m:Str→Option Value},P.Nodup→P[i]?=some x→vs[i]?=some v→kindOf x=some .local→
  bindL kindOf (P.zip vs) m x=some v
 |[],_,_,_,_,h,_,_=>by simp at h
 |_::_,[],_,_,_,_,h,_=>by simp at h
 |p::P,w::vs,0,m,nd,h1,h2,hk=>by
  simp at h1 h2;subst h1;subst h2
  show bindL kindOf ((p,w)::P.zip vs) m p=_
  unfold bindL
  rw[yZ fun v hv=>(List.nodup_cons.mp nd).1 (List.of_mem_zip hv).1,if_pos hk]
  simp
 |p::P,w::vs,i+1,m,nd,h1,h2,hk=>by
  show bindL kindOf ((p,w)::P.zip vs) m x=_
  unfold bindL
  exact za (i:=i) (List.nodup_cons.mp nd).2 (by simpa using h1) (by simpa using h2) hk
theorem zc{kindOf:Str→Option NameKind}{x:Str}{v:Value}:∀{P:List Str} {vs:List Value} {i:Nat} {m:Str→Option Value},P.Nodup→P[i]?=some x→vs[i]?=some v→kindOf x≠some .local→
  bindC kindOf (P.zip vs) m x=some v
 |[],_,_,_,_,h,_,_=>by simp at h
 |_::_,[],_,_,_,_,h,_=>by simp at h
 |p::P,w::vs,0,m,nd,h1,h2,hk=>by
  simp at h1 h2;subst h1;subst h2
  show bindC kindOf ((p,w)::P.zip vs) m p=_
  unfold bindC
  rw[zb fun v hv=>(List.nodup_cons.mp nd).1 (List.of_mem_zip hv).1,if_neg hk]
  simp
 |p::P,w::vs,i+1,m,nd,h1,h2,hk=>by
  show bindC kindOf ((p,w)::P.zip vs) m x=_
  unfold bindC
  exact zc (i:=i) (List.nodup_cons.mp nd).2 (by simpa using h1) (by simpa using h2) hk
def start(N:List Str)(vs:List V):St:=vs.map some++List.replicate (N.length - vs.length) none
def F4(CX:Gm)(P:Program)(w:World)(K:PySem.W.Frag)(mg:Str→Option Value)(base:Heap)(N:List Str)(qual:Str)(scope:Scope)(f:Addr)(cd:Value)(A:Around)(outer:List Env)(s:Shared)(H:Hp)(E:XK):Cx where
 prog:=P
 w:=w
 K:=K
 mg:=mg
 base:=base
 A:=A.deeper (envOfC qual scope s.heap.objs.size f cd)
 N:=N
 yu:=s
 Ng:=H
 env:=envOfC qual scope s.heap.objs.size f cd
 outer:=outer
 stack:=envOfC qual scope s.heap.objs.size f cd::outer
 ex:=[]
 calm:=true
 fn:=fun _=>true
 pn:=[]
 xe:=fun e s'=>wpAny (model P w) (A.deeper (envOfC qual scope s.heap.objs.size f cd)) (leaving (envOfC qual scope s.heap.objs.size f cd) e) (fun _ s''=>CX outer H s E e s'') (fun e' s''=>CX outer H s E e' s'') s'
theorem BW{sc:Scope}{n:Nat}{x:Str}(h:sc.names.lookup x=some .cell):∃c,(cellsFrom n sc.names []).lookup x=some c:=by
 have q:=PySem.W.cellsFrom_some sc.names n [] (.inl h)
 exact Option.isSome_iff_exists.mp q
theorem FU{CX:Gm}{P:Program}{w:World}{K:PySem.W.Frag}{mg:Str→Option Value}{base:Heap}{N ps:List Str}{qual:Str}{scope:Scope}{f:Addr}{cd:Value}{A:Around}{outer:List Env}{s s1:Shared}{H:Hp}{E:XK}{us:List Value}{vs:List V}
  (S:bz N ps scope)(hd:A.handled=none)(e0:Dp P w K mg base A outer s H)(hl:vs.length=ps.length)(r:Vals vs us)
  (x:InCallC s s.heap.objs.size (bindL (envOfC qual scope s.heap.objs.size f cd).kindOf (ps.zip us) fun _=>none) (cellsFrom (s.heap.objs.size+1) scope.names []) (bindC (envOfC qual scope s.heap.objs.size f cd).kindOf (ps.zip us) fun _=>none) s1):
  Inv (F4 CX P w K mg base N qual scope f cd A outer s H E) [] (start N vs) H s1:=by
 have hpl:ps.length≤N.length:=by have:=congrArg List.length S.pre;rw[List.length_take]at this;lia
 obtain⟨h1,tk,rfl,hk⟩:=x.done
 have noA:∀b:Addr,b∉(F4 CX P w K mg base N qual scope f cd A outer s H E).ex:=fun b z=>absurd (show b∈([]:List Addr)from z) (by simp)
 refine⟨⟨e0.mod,S.kind,rfl,rfl,Nat.le_refl _,fun y z c h1 h2=>?_,fun y hy=>?_,fun y c _ h=>?_,fun _=>hd,Around.frames_deeper e0.frames,.inr ⟨rfl,rfl⟩,fun b z=>absurd z (noA b),e0.bs,e0.Jf,fun b _ _=>noA b,fun b z=>absurd z (noA b),e0.uJ,e0.L7⟩,
  rfl,e0.bare,Un.kept hk,⟨_,x.toInCall.ns,fun i y v h1 h2 h3=>?_⟩,fun y c h=>⟨_,x.cell y c h⟩,e0.hok.fresh (Nat.le_refl _),fun y c h=>?_,fun p hp=>absurd (show p∈([]:List (Addr×Obj))from hp) (by simp),e0.hok.kept hk,?_⟩
 ·exact name_of_addr x.apart (PySem.mem_of_lookup h1) (PySem.mem_of_lookup h2)
 ·have hy:scope.names.lookup y=some .cell∨scope.names.lookup y=some .free:=hy
  rcases hy with hy|hy
  ·exact BW hy
  ·exact absurd rfl (S.LV _ (PySem.mem_of_lookup hy))
 ·exact Nat.le_of_lt (x.above y c (PySem.mem_of_lookup h))
 ·have hi:i<vs.length:=by
   unfold start at h2
   by_cases hi:i<vs.length
   ·exact hi
   ·rw[List.getElem?_append_right (by simpa using hi)]at h2
    rw[List.getElem?_replicate]at h2
    split at h2<;>cases h2
  have ha:vs[i]?=some v:=by
   unfold start at h2
   rw[List.getElem?_append_left (by simpa using hi),List.getElem?_map]at h2
   cases e:vs[i]? with
   |none=>rw[e]at h2;cases h2
   |some a=>rw[e]at h2;cases h2;rfl
  obtain⟨u,hu,rv⟩:=r.get ha
  have hp:ps[i]?=some y:=by
   rw[←S.pre,List.getElem?_take_of_lt (by lia)];exact h1
  have ndP:ps.Nodup:=by rw[←S.pre];exact S.nd.sublist (List.take_sublist _ _)
  refine⟨u,rv,?_⟩
  rcases S.par y (List.mem_of_getElem? hp)with k|k
  ·exact .inl ⟨k,za ndP hp hu k⟩
  ·obtain⟨c,e⟩:=BW (n:=s.heap.objs.size+1) k
   refine .inr ⟨.inl k,c,e,?_⟩
   have q:=x.cell y c e
   rw[zc ndP hp hu (by show scope.names.lookup y≠_;rw[k];decide)]at q
   exact q
 ·exact e0.hok.fresh (Nat.le_of_lt (x.above y c (PySem.mem_of_lookup h)))
 ·unfold start
  show _=N.length
  rw[List.length_append,List.length_map,List.length_replicate]
  lia
theorem M1{CX:Gm}{P:Program}{w:World}{K:PySem.W.Frag}{mg:Str→Option Value}{base:Heap}{k:Nat}{f:Addr}{name qual:Str}{params:Arguments}{body:List Stmt}{scope:Scope}{dV kV doc pm cdv ct oc:Value}{an od:Option Addr}
  {osl:Array (Option Value)}{N ps:List Str}{sp:Sp}(lk:K.lookup f=some ⟨oc,od,.func (PySem.W.fnOf name qual params body scope dV kV doc pm an cdv ct),osl⟩)(hcd:PySem.W.codeIn K cdv qual=true)(S:bz N ps scope)
  (len:∀vs H Q E,sp vs H Q E→vs.length=ps.length)
  (hbody:∀(A:Around) (outer:List Env) (s:Shared) (H:Hp) (vs:List V) (Q:VK) (E:XK),iN k (A.deeper (envOfC qual scope s.heap.objs.size f cdv))→sp vs H Q E→
   ∃t,Gh (F4 CX P w K mg base N qual scope f cdv A outer s H E) body t∧t {nx:=fun _ H'=>Q .gh H',rt:=Q} (start N vs) H):
  cA P w K mg base CX (k+1) f (PySem.W.fnOf name qual params body scope dV kV doc pm an cdv ct) ps sp:=by
 refine⟨len,fun A outer s H args us vs Q E hr e0 hb r hsp=>?_⟩
 have hl:=len _ _ _ _ hsp
 have KX:K.In s.heap:=e0.mod.MW.keeps fun b o e=>(e0.bs b o e).1
 have lim:s.heap.NoLimit:=e0.mod.nolimit.keeps fun b o e=>(e0.bs b o e).1
 have hkind:∀y∈ps.zip us,scope.names.lookup y.1=some .local∨(scope.names.lookup y.1=some .cell∧((cellsFrom (s.heap.objs.size+1) scope.names []).lookup y.1).isSome=true):=fun⟨n,v⟩ hy=>by
  rcases S.par n (List.of_mem_zip hy).1 with q|q
  ·exact .inl q
  ·exact .inr ⟨q,PySem.W.cellsFrom_some _ _ _ (.inl q)⟩
 refine codeAny_call_function hr.depth (KX _ _ lk) rfl S.co S.gen rfl (PySem.W.codeRec_of KX hcd) (hb _ _ _ _ ?_)
 refine wpAny_newFunctionEnv_cells S.kind hkind fun env he s1 x=>?_
 subst he
 refine⟨lim.keeps x.toInCall.keep,codeAny_func ?_⟩
 obtain⟨t,ht,hq⟩:=hbody A outer s H vs Q E (hr.deeper _) hsp
 have I:Inv (F4 CX P w K mg base N qual scope f cdv A outer s H E) [] (start N vs) H s1:=FU S hr.hd e0 hl r x
 refine wpAny_mono (ht [] s1 (start N vs) H _ I hq) (fun fl s' hs=>?_) fun e s' hs=>hs
 have fin:∀{σ':St} {H':Hp} {v:V} {u:Value},Inv (F4 CX P w K mg base N qual scope f cdv A outer s H E) [] σ' H' s'→RelV v u→Q v H'→CE outer P w H s Q u s':=
  fun{σ' H' v u} J rv q=>⟨v,H',J.os,J.bare,J.base,J.hok,rv,q⟩
 cases fl with
 |ret u=>
  obtain⟨v,σ',H',J,rv,q⟩:=hs
  exact fin J rv q
 |next=>
  obtain⟨σ',H',J,q⟩:=hs
  exact fin (v:=V.gh) (u:=Value.none) J rfl q
 |brk=>
  obtain⟨_,_,_,q⟩:=hs
  exact False.elim q
 |cont=>
  obtain⟨_,_,_,q⟩:=hs
  exact False.elim q
end L2
namespace L2
open PySem PySem.Spec PyProof.Rows
section
variable{X:Cx}{x:Str}{p pos:Pos}{e:Expr}{es:List Expr}{t:TA}{id T:String}{r:List V→Hp→VK→Prop}
def bU(r:List V→Hp→VK→Prop)(t:TA):TE:=fun σ H Q=>t σ H fun vs H1=>r vs H1 Q
theorem cE(hc:p9 X (.builtin id) r)(hg:Gl X x)(hm:X.mg x=none)(hv:bootBuiltins x=some (.builtin id))(ha:PA X (e::es) t)(hn:x≠"__name__":=by decide)(hdb:(x==("__debug__":Str))=false:=by decide)
  (he:starEach (e::es) X.env=(false,eval e X.env)::starEach es X.env:=by rfl)(hpl:(backTo pos (starEach es X.env)).any (·.1)=false:=by rfl):PE X (.Call (.Name x p) (e::es) [] pos) (bU r t):=by
 intro pins s σ H Q I h
 refine wpAny_Call_Name_kw (tF I hg hm hv ?_ hn hdb)
 exact PyProof.Rows.callWith_builtin1 (fS (ha pos pins s σ H _ I h) fun us s1 ⟨vs,H1,I1,r1,q1⟩=>hc pins s1 σ H1 vs us Q I1 r1 q1) he hpl
theorem yH(hc:p9 X (.type T) r)(hg:Gl X x)(hm:X.mg x=none)(hv:bootBuiltins x=some (.type T))(ha:PA X (e::es) t)(hn:x≠"__name__":=by decide)(hdb:(x==("__debug__":Str))=false:=by decide)
  (he:starEach (e::es) X.env=(false,eval e X.env)::starEach es X.env:=by rfl)(hpl:(backTo pos (starEach es X.env)).any (·.1)=false:=by rfl):PE X (.Call (.Name x p) (e::es) [] pos) (bU r t):=by
 intro pins s σ H Q I h
 refine wpAny_Call_Name_kw (tF I hg hm hv ?_ hn hdb)
 exact PyProof.Rows.callWith_type1 (fS (ha pos pins s σ H _ I h) fun us s1 ⟨vs,H1,I1,r1,q1⟩=>hc pins s1 σ H1 vs us Q I1 r1 q1) he hpl
end
end L2
namespace HT
open PySem PyProof.Rows
section
open PySem.SeqAt
open PySem.AutoSeq1 (wpAny_loadPart')
open PySem.MeetsSeq PySem.MeetsSeq2 PySem.MeetsSeq3
end
section
variable{prog:Program}{w:World}{A:Around}{E:Value→Shared→Prop}{s:Shared}
def gC(n d:Nat):Option Int→Nat
 |none=>d
 |some v=>if v<0 then(v+(n:Int)).toNat else min v.toNat n
theorem LF(n d:Nat)(hd:d≤n)(o:Option Int):gC n d o≤n:=by
 cases o with
 |none=>exact hd
 |some v=>
  show(if v<0 then(v+(n:Int)).toNat else min v.toNat n)≤n
  by_cases hv:v<0
  ·rw[if_pos hv];lia
  ·rw[if_neg hv];exact Nat.min_le_right _ _
theorem Ew(v:Int)(n d:Nat):(if v<0 then max (v+(n:Int)) 0 else min v (n:Int))=((gC n d (some v):Nat):Int):=by
 show(if v<0 then max (v+(n:Int)) 0 else min v (n:Int))=(((if v<0 then(v+(n:Int)).toNat else min v.toNat n):Nat):Int)
 by_cases hv:v<0
 ·simp only[if_pos hv];lia
 ·simp only[if_neg hv];lia
theorem Dk(lo hi:Option Int)(n:Nat):Builtin.Slice.sliceAdjust lo hi 1 (n:Int)=(((gC n 0 lo:Nat):Int),((gC n n hi:Nat):Int)):=by
 have h1:¬((1:Int)<0):=by lia
 unfold Builtin.Slice.sliceAdjust
 simp only[h1,if_false]
 refine Prod.ext ?_ ?_
 ·cases lo with
  |none=>rfl
  |some v=>exact Ew v n 0
 ·cases hi with
  |none=>rfl
  |some v=>exact Ew v n n
theorem CG(i j:Nat):Builtin.Slice.slicePlaces (i:Int) (j:Int) 1=j - i:=by
 unfold Builtin.Slice.slicePlaces
 have h1:(1:Int)>0:=by lia
 simp only[h1,if_true,Int.ediv_one]
 split<;>lia
theorem vz{v:Value}{o:Option Int}{Q:Option Int→Shared→Prop}(p:IsPart v o)(h:Q o s):wpAny (model prog w) A (Builtin.Slice.slicePartIndex v) Q E s:=by
 cases p with
 |none=>exact slicePart_none h
 |int i t=>exact slicePart_int h
theorem sG{sl:Addr}{vl vu:Value}{lo hi:Option Int}{n:Nat}{Q:Int×Int×Nat→Shared→Prop}(hs:s.heap.IsSliceOf sl vl vu .none)(pl:IsPart vl lo)(pu:IsPart vu hi)
  (h:Q (((gC n 0 lo:Nat):Int),1,gC n n hi - gC n 0 lo) s):wpAny (model prog w) A (Builtin.Slice.sliceApplied (.ref sl) (pure (n:Int))) Q E s:=by
 obtain⟨os,hos,hcs,hds⟩:=id hs
 unfold Builtin.Slice.sliceApplied Builtin.Slice.sliceFields
 refine wpAny_bind (wpAny_bind (wpAny_field hos hds (x:=vl) rfl (wpAny_bind (wpAny_field hos hds (x:=vu) rfl (wpAny_bind (wpAny_field hos hds (x:=.none) rfl (wpAny_pure ?_)))))))
 refine wpAny_bind (slicePart_none ?_)
 show wpAny _ _ (if((1:Int)==0)=true then _ else _) _ _ s
 rw[if_neg (by decide)]
 refine wpAny_bind (vz pl (wpAny_bind (vz pu (wpAny_bind (wpAny_pure ?_)))))
 show wpAny _ _ (match Builtin.Slice.sliceAdjust lo hi 1 (n:Int)with|(lo,hi)=>pure (lo,(1:Int),Builtin.Slice.slicePlaces lo hi 1)) _ _ s
 rw[Dk lo hi n]
 show wpAny _ _ (pure (((gC n 0 lo:Nat):Int),(1:Int),Builtin.Slice.slicePlaces ((gC n 0 lo:Nat):Int) ((gC n n hi:Nat):Int) 1)) _ _ s
 rw[CG]
 exact wpAny_pure h
theorem Ht(xs:Array Value)(i k:Nat):((List.range k).filterMap fun(m:Nat)=>xs[((i:Int)+(m:Int)*1).toNat]?).toArray=((xs.toList.drop i).take k).toArray:=by
 have e:(fun(m:Nat)=>xs[((i:Int)+(m:Int)*1).toNat]?)=fun m=>xs[i+m]?:=by
  funext m
  have:((i:Int)+(m:Int)*1).toNat=i+m:=by lia
  rw[this]
 rw[e]
 have:=pick_run xs i k
 rw[List.filterMap_map]at this
 have e2:((fun x=>xs[x]?)∘fun x=>i+x)=fun m=>xs[i+m]?:=rfl
 rw[e2]at this
 rw[this]
theorem rT{t sl:Addr}{items:Array Value}{vl vu:Value}{lo hi:Option Int}{Q:Value→Shared→Prop}(ht:IsTup s.heap t items)(hs:s.heap.IsSliceOf sl vl vu .none)(pl:IsPart vl lo)(pu:IsPart vu hi)
  (hw:¬(gC items.size 0 lo=0∧gC items.size items.size hi=items.size))
  (h:Q (.ref s.heap.objs.size) {s with heap:=s.heap.push {cls:=.type "tuple",data:=.seq ((items.toList.drop (gC items.size 0 lo)).take (gC items.size items.size hi - gC items.size 0 lo)).toArray}})
  (hsz:items.size≤sizeLine):wpAny (model prog w) A (getItem (.ref t) (.ref sl)) Q E s:=by
 have htake:sizeOk (.seq ((items.toList.drop (gC items.size 0 lo)).take (gC items.size items.size hi - gC items.size 0 lo)).toArray):=by
  show((items.toList.drop (gC items.size 0 lo)).take (gC items.size items.size hi - gC items.size 0 lo)).toArray.size≤sizeLine
  rw[List.size_toArray,List.length_take,List.length_drop,Array.length_toList]
  lia
 have hj:gC items.size items.size hi≤items.size:=LF _ _ (Nat.le_refl _) hi
 obtain⟨os,hos,hcs,hds⟩:=id hs
 have hTs:s.TypeIs (.ref sl) "slice":=⟨os,hos,hcs⟩
 unfold getItem
 try with_reducible refine wpAny_holding ?_
 first|refine wpAny_bind (wpAny_pure ?_)|skip
 refine wpAny_bind (wpAny_sequenceKey ht.typeIs (by decide) ?_)
 refine wpAny_bind (wpAny_callSpecial?_slot (name:=Str.ofString "__getitem__") ht.typeIs PyProof.Rows.slot_tuple_getitem
  (wpAny_call_entry PyProof.Rows.slot_tuple_getitem ht.typeIs entry_tuple_getitem ?_ (args_tuple_getitem _ _)))
 show wpAny _ _ (Builtin.Tuple.tupleItemsOf (.ref t)>>= _) _ _ s
 refine wpAny_bind (tupleItemsOf_ ht ?_)
 refine wpAny_bind (wpAny_typeOf hTs ?_)
 rw[if_pos (by decide)]
 refine wpAny_bind (sG hs pl pu ?_)
 have hno:¬((((gC items.size 0 lo:Nat):Int)==0&&(1:Int)==1&&(gC items.size items.size hi - gC items.size 0 lo)==items.size)=true):=by
  intro q
  rw[Bool.and_eq_true,Bool.and_eq_true]at q
  have q1:((gC items.size 0 lo:Nat):Int)=0:=eq_of_beq q.1.1
  have q2:gC items.size items.size hi - gC items.size 0 lo=items.size:=eq_of_beq q.2
  exact hw ⟨by lia,by lia⟩
 show wpAny _ _ (if(((gC items.size 0 lo:Nat):Int)==0&&(1:Int)==1&&(gC items.size items.size hi - gC items.size 0 lo)==items.size)=true then _ else _) _ _ s
 rw[if_neg hno,Ht]
 first
  |exact wpAny_bind (m:=Builtin.Tuple.tupleExact _) (wpAny_newObj_type (wpAny_pure ⟨_,rfl,wpAny_pure h⟩) htake)
  |exact wpAny_bind (m:=Builtin.Tuple.tupleExact _) (wpAny_newObj_type (wpAny_bind (wpAny_pure (wpAny_pure ⟨_,rfl,wpAny_pure h⟩))) htake)
  |exact wpAny_bind (wpAny_bind (m:=Builtin.Tuple.tupleExact _) (wpAny_newObj_type (wpAny_pure (wpAny_pure ⟨_,rfl,wpAny_pure h⟩)) htake))
  |exact wpAny_bind (wpAny_bind (m:=Builtin.Tuple.tupleExact _) (wpAny_newObj_type (wpAny_pure ⟨_,rfl,wpAny_pure h⟩) htake))
end
end HT
namespace L2
open PySem PySem.Spec PyProof.Rows
abbrev TO:=St→Hp→(Option Int→Hp→Prop)→Prop
def PO(X:Cx)(e:Option Expr)(t:TO):Prop:=
 ∀(pins:List (Addr×Obj)) (s:Shared) (σ:St) (H:Hp) (Q:Option Int→Hp→Prop),Inv X pins σ H s→t σ H Q→
  wpAny (model X.prog X.w) X.A (evalPart e X.env) (fun u s'=>∃o H',Inv X pins σ H' s'∧IsPart u o∧Q o H') X.xe s
def Jm:TO:=fun _ H Q=>Q none H
def MA(t:TE):TO:=fun σ H Q=>t σ H fun x H1=>∃i,x=.int i∧Q (some i) H1
section
variable{X:Cx}{e:Expr}{te:TE}{lo hi:Option Expr}{tl th:TO}{pos p2:Pos}
theorem uS:PO X none Jm:=by
 intro pins s σ H Q I h
 rw[evalPart_none]
 exact wpAny_pure ⟨none,H,I,.none,h⟩
theorem oY(h:PE X e te):PO X (some e) (MA te):=by
 intro pins s σ H Q I hw
 rw[evalPart_some]
 refine fS (h pins s σ H _ I hw) fun u s1 ⟨x,H1,I1,r1,q1⟩=>?_
 obtain⟨i,rfl,q⟩:=q1
 obtain⟨t,rfl⟩:=r1
 exact⟨some i,H1,I1,.int i t,q⟩
def N9(X:Cx)(r:V→Option Int→Option Int→Hp→VK→Prop):Prop:=
 ∀(pins:List (Addr×Obj)) (s:Shared) (σ:St) (H:Hp) (x:V) (v vl vu:Value) (lo hi:Option Int) (sl:Addr) (Q:VK),Inv X pins σ H s→RelV x v→s.heap.IsSliceOf sl vl vu .none→IsPart vl lo→IsPart vu hi→r x lo hi H Q→
  ∃T id,typeLookup (.type T) "__getitem__"=pure (some (.builtin id))∧s.TypeIs v T∧wpAny (model X.prog X.w) X.A (getItem v (.ref sl)) (EP X pins σ Q) X.xe s
def Om(r:V→Option Int→Option Int→Hp→VK→Prop)(te:TE)(tl th:TO):TE:=fun σ H Q=>te σ H fun x H1=>tl σ H1 fun l H2=>th σ H2 fun u H3=>r x l u H3 Q
theorem nP{r:V→Option Int→Option Int→Hp→VK→Prop}(hr:N9 X r)(he:PE X e te)(hl:PO X lo tl)(hu:PO X hi th):PE X (.Subscript e (.Slice lo hi none p2) pos) (Om r te tl th):=by
 intro pins s σ H Q I h
 refine Subscript_ (fS (he pins s σ H _ I h) fun v s1 ⟨x,H1,I1,r1,q1⟩=>?_)
 refine wpAny_Slice (fS (hl pins s1 σ H1 _ I1 q1) fun vl s2 ⟨l,H2,I2,pl,q2⟩=>fS (hu pins s2 σ H2 _ I2 q2) fun vu s3 ⟨u,H3,I3,pu,q3⟩=>?_)
 rw[evalPart_none]
 refine wpAny_pure ?_
 have I4:Inv X pins σ H3 {s3 with heap:=s3.heap.push {cls:=.type "slice",data:=.fields #[vl,vu,.none]}}:=I3.kept (t':=s3.toks) fun b ob q=>Heap.get?_push_of_some _ q
 obtain⟨T,id,hT,ht,hg⟩:=hr pins {s3 with heap:=s3.heap.push {cls:=.type "slice",data:=.fields #[vl,vu,.none]}} σ H3 x v vl vu l u s3.heap.objs.size Q I4 r1 (Heap.IsSliceOf.new ..) pl pu q3
 show wpAny (model X.prog X.w) X.A (subscriptTail e (.Slice lo hi none p2) v (.ref s3.heap.objs.size)) (EP X pins σ Q) X.xe {s3 with heap:=s3.heap.push {cls:=.type "slice",data:=.fields #[vl,vu,.none]}}
 exact tail_any (ops:=[.ref s3.heap.objs.size,v]) ht hT hg (by with_unfolding_all rfl)
def pP(xs:List V)(lo hi:Option Int):List V:=(xs.drop (HT.gC xs.length 0 lo)).take (HT.gC xs.length xs.length hi - HT.gC xs.length 0 lo)
theorem ux(xs:List V)(lo hi:Option Int):(pP xs lo hi).length≤xs.length:=by
 unfold pP
 rw[List.length_take,List.length_drop]
 lia
def NN(K:PySem.W.Frag):V→Option Int→Option Int→Hp→VK→Prop:=fun x lo hi H Q=>∃a xs,x=.ref a∧jF K H a xs∧
 ¬(HT.gC xs.length 0 lo=0∧HT.gC xs.length xs.length hi=xs.length)∧∀p,H p=none→Q (.ref p) (upd H p (.tup (pP xs lo hi)))
theorem LB:N9 X (NN X.K):=by
 intro pins s σ H x v vl vu lo hi sl Q I rx hs pl pu h
 obtain⟨a,xs,rfl,hx,hw,q⟩:=h
 cases rx
 obtain⟨its,r,ht,hz⟩:=I.tuple hx
 have hlen:its.toArray.size=xs.length:=by rw[List.size_toArray];exact r.length.symm
 refine⟨"tuple",_,PyProof.Rows.slot_tuple_getitem.lookup,ht.typeIs,?_⟩
 refine HT.rT ht hs pl pu (by rw[hlen];exact hw) ?_ (by rw[hlen];exact hz)
 rw[hlen]
 refine⟨.ref s.heap.objs.size,_,I.laid (t':=s.toks) (o:=.tup (pP xs lo hi)) (fun b ob q=>Heap.get?_push_of_some _ q) (Nat.le_refl _) ?_,rfl,q _ (I.hok.fresh (Nat.le_refl _))⟩
 exact⟨Nat.le_trans (ux xs lo hi) hz,_,(r.drop (HT.gC xs.length 0 lo)).take (HT.gC xs.length xs.length hi - HT.gC xs.length 0 lo),IsTup.new _ _⟩
end
end L2
namespace L2
open PySem PySem.Spec PyProof.Rows
def K8(n:Nat)(i:Int):Option Nat:=if 0≤i then(if i<n then some i.toNat else none)else if -(n:Int)≤i then some (i+n).toNat else none
def zd{α:Type}(xs:List α)(i:Int):Option α:=(K8 xs.length i).bind fun j=>xs[j]?
theorem Kh{n:Nat}{i:Int}{j:Nat}(h:K8 n i=some j):seqIndex? i n=some j∧j<n∧ -(n:Int)≤i∧i<n:=by
 unfold K8 at h
 by_cases h0:0≤i
 ·rw[if_pos h0]at h
  by_cases h1:i<n
  ·rw[if_pos h1]at h
   have e:i.toNat=j:=Option.some.inj h
   exact⟨by rw[seqIndex_of h0 h1,e],by lia,by lia,h1⟩
  ·rw[if_neg h1]at h;cases h
 ·rw[if_neg h0]at h
  by_cases h1: -(n:Int)≤i
  ·rw[if_pos h1]at h
   have e:(i+n).toNat=j:=Option.some.inj h
   exact⟨by rw[seqIndex_neg (by lia) h1,e],by lia,h1,by lia⟩
  ·rw[if_neg h1]at h;cases h
theorem EC{α:Type}{xs:List α}{i:Int}{v:α}(h:zd xs i=some v):∃j,seqIndex? i xs.length=some j∧xs[j]?=some v∧j<xs.length∧ -(xs.length:Int)≤i∧i<xs.length:=by
 unfold zd at h
 cases e:K8 xs.length i with
 |none=>rw[e]at h;cases h
 |some j=>
  rw[e]at h
  obtain⟨h1,h2,h3,h4⟩:=Kh e
  exact⟨j,h1,h,h2,h3,h4⟩
theorem eV{α:Type}{xs:List α}{j:Nat}{v:α}(h:xs[j]?=some v):zd xs (j:Int)=some v:=by
 have hj:j<xs.length:=(List.getElem?_eq_some_iff.mp h).1
 have e:K8 xs.length (j:Int)=some j:=by
  unfold K8
  rw[if_pos (by lia),if_pos (by lia)];simp
 unfold zd;rw[e];exact h
def Kz(b:Expr):Prop:=∀o i,subscripted b false o i=operate [o,i] (getItem o i)
def Nb(X:Cx)(r:R2):Prop:=
 ∀(value slice:Expr) (pins:List (Addr×Obj)) (s:Shared) (σ:St) (H:Hp) (x y:V) (v u:Value) (Q:VK),Inv X pins σ H s→RelV x v→RelV y u→r x y H Q→
  subscripted slice false v u=operate [v,u] (getItem v u)→wpAny (model X.prog X.w) X.A (subscriptTail value slice v u) (EP X pins σ Q) X.xe s
def Nv(X:Cx)(id:String)(r:V→List V→Hp→VK→Prop):Prop:=
 ∀(pins:List (Addr×Obj)) (s:Shared) (σ:St) (H:Hp) (x:V) (xs:List V) (v:Value) (us:List Value) (Q:VK),Inv X pins σ H s→RelV x v→Vals xs us→r x xs H Q→
  wpAny (model X.prog X.w) X.A (call (.builtin id) (v::us)) (EP X pins σ Q) X.xe s
section
variable{X:Cx}{a b:Expr}{ta tb:TE}{pos:Pos}
theorem bq{r:R2}(hr:Nb X r)(ha:PE X a ta)(hb:PE X b tb)(hs:Kz b):PE X (.Subscript a b pos) (bO r ta tb):=by
 intro pins s σ H Q I h
 exact Subscript_ (Mj ha hb I h fun v u s2 x y H2 I2 rx ry q=>hr a b pins s2 σ H2 x y v u Q I2 rx ry q (hs _ _))
def LH(K:PySem.W.Frag):R2:=fun x y H Q=>∃p xs i v,x=.ref p∧y=.int i∧dY K H p xs∧zd xs i=some v∧Q v H
def JE(K:PySem.W.Frag):R2:=fun x y H Q=>∃p xs i v,x=.ref p∧y=.int i∧jF K H p xs∧zd xs i=some v∧Q v H
theorem bE:Nb X (LH X.K):=by
 intro value slice pins s σ H x y v u Q I rx ry h hs
 obtain⟨p,xs,i,z,rfl,rfl,hq,he,q⟩:=h
 cases rx
 obtain⟨t,rfl⟩:=ry
 obtain⟨its,r,pl,hz⟩:=I.list hq
 obtain⟨j,h1,h2,h3,h4,h5⟩:=EC he
 obtain⟨w,ew,rw'⟩:=r.get h2
 have hl:=r.length
 have hn:=Ad
 have fin:EP X pins σ Q w s:=⟨z,H,I,rw',q⟩
 by_cases h0:0≤i
 ·have hj:i.toNat=j:=by
   rw[seqIndex_of h0 h5]at h1
   exact Option.some.inj h1
  exact item_listR pl.isList h0 (by lia) (by rw[hj];simpa using ew) fin hs
 ·have hj:(i+(its.toArray.size:Int)).toNat=j:=by
   rw[seqIndex_neg (by lia) h4]at h1
   rw[List.size_toArray,←hl]
   exact Option.some.inj h1
  exact subscriptTail_builtinR (x:=w) pl.isList.typeIs slot_list_getitem.lookup
   (wpAny_getItem_list_neg (Q:=fun r s'=>r=w∧EP X pins σ Q r s') pl.isList (by lia) (by rw[List.size_toArray]<;>lia) (by lia) (by rw[hj];simpa using ew) ⟨rfl,fin⟩) hs
theorem bF:Nb X (JE X.K):=by
 intro value slice pins s σ H x y v u Q I rx ry h hs
 obtain⟨p,xs,i,z,rfl,rfl,hq,he,q⟩:=h
 cases rx
 obtain⟨t,rfl⟩:=ry
 obtain⟨its,r,pl,hz⟩:=I.tuple hq
 obtain⟨j,h1,h2,h3,h4,h5⟩:=EC he
 obtain⟨w,ew,rw'⟩:=r.get h2
 have hl:=r.length
 have hn:=Ad
 have fin:EP X pins σ Q w s:=⟨z,H,I,rw',q⟩
 exact subscriptTail_builtinR (x:=w) pl.typeIs slot_tuple_getitem.lookup
  (getItem_tuple (j:=j) (Q:=fun r s'=>r=w∧EP X pins σ Q r s') pl (by lia) (by lia) (by rw[List.size_toArray,←hl];exact h1) (by simpa using ew) ⟨rfl,fin⟩) hs
theorem zw(lo hi:Option Int)(n:Nat):(sliceBounds lo hi none n).1=((HT.gC n 0 lo:Nat):Int)∧(sliceBounds lo hi none n).2.1=((HT.gC n n hi:Nat):Int)∧(sliceBounds lo hi none n).2.2=1:=by
 refine⟨?_,?_,rfl⟩
 ·cases lo with
  |none=>simp[sliceBounds,HT.gC]
  |some i=>
   simp only[sliceBounds,HT.gC,Option.getD_none,show(1:Int)>0 by decide,if_true]
   by_cases h:i<0
   ·simp only[h,if_true]<;>lia
   ·simp only[h,if_false]<;>lia
 ·cases hi with
  |none=>simp[sliceBounds,HT.gC]
  |some i=>
   simp only[sliceBounds,HT.gC,Option.getD_none,show(1:Int)>0 by decide,if_true]
   by_cases h:i<0
   ·simp only[h,if_true]<;>lia
   ·simp only[h,if_false]<;>lia
theorem xV(its:List Value)(lo hi:Option Int):slicePick its.toArray lo hi none=((its.drop (HT.gC its.length 0 lo)).take (HT.gC its.length its.length hi - HT.gC its.length 0 lo)).toArray:=by
 obtain⟨h1,h2,h3⟩:=zw lo hi its.toArray.size
 unfold slicePick
 rw[h1,h2,h3]
 simp only[sliceRange_one,pick_run,List.size_toArray]<;>rfl
def NO(K:PySem.W.Frag):V→Option Int→Option Int→Hp→VK→Prop:=fun x lo hi H Q=>∃a xs,x=.ref a∧dY K H a xs∧∀p,H p=none→Q (.ref p) (upd H p (.lst (pP xs lo hi)))
theorem uL:N9 X (NO X.K):=by
 intro pins s σ H x v vl vu lo hi sl Q I rx hs pl pu h
 obtain⟨a,xs,rfl,hx,q⟩:=h
 cases rx
 obtain⟨its,r,ht,hz⟩:=I.list hx
 have hlen:=r.length
 refine⟨"list",_,slot_list_getitem.lookup,ht.isList.typeIs,?_⟩
 refine wpAny_getItem_list_slice ht.isList hs pl pu .none (by simp) ?_ (by rw[List.size_toArray]<;>lia)
 rw[xV,←hlen]
 refine⟨.ref s.heap.objs.size,_,I.laid (t':=s.toks) (o:=.lst (pP xs lo hi)) (fun b ob q=>Heap.get?_push_of_some _ q) (Nat.le_refl _) ?_,rfl,q _ (I.hok.fresh (Nat.le_refl _))⟩
 exact⟨Nat.le_trans (ux xs lo hi) hz,_,0,(r.drop (HT.gC xs.length 0 lo)).take (HT.gC xs.length xs.length hi - HT.gC xs.length 0 lo),Heap.get?_push_size _ rfl⟩
def uw:V→Bool
 |.gh=>true
 |.bl _=>true
 |.int _=>true
 |.str _=>true
 |_=>false
def Lb:V→V→Bool
 |.gh,.gh=>true
 |.bl a,.bl b=>a==b
 |.bl a,.int b=>(if a then 1 else 0)==b
 |.int a,.bl b=>a==(if b then 1 else 0)
 |.int a,.int b=>a==b
 |.str a,.str b=>a==b
 |_,_=>false
theorem Mb{A:Around}{s:Shared}{y x:V}{u v:Value}(ry:RelV y u)(rx:RelV x v)(fy:uw y=true)(fx:uw x=true):SeqAt.EqAt A s u v (Lb y x):=by
 cases y with
 |gh=>
  cases ry
  cases x with
  |gh=>cases rx;exact SeqAt.EqAt.same _
  |bl b=>cases rx;exact SeqAt.EqAt.none_bool b
  |int b=>obtain⟨t,rfl⟩:=rx;exact SeqAt.EqAt.none_int b t
  |str b=>obtain⟨t,rfl⟩:=rx;exact SeqAt.EqAt.none_str b t
  |_=>exact absurd (show false=true from fx) Bool.false_ne_true
 |bl a=>
  cases ry
  cases x with
  |gh=>cases rx;exact SeqAt.EqAt.bool_none a
  |bl b=>cases rx;exact SeqAt.EqAt.bool_bool a b
  |int b=>obtain⟨t,rfl⟩:=rx;exact SeqAt.EqAt.bool_int a b t
  |str b=>obtain⟨t,rfl⟩:=rx;exact SeqAt.EqAt.bool_str a b t
  |_=>exact absurd (show false=true from fx) Bool.false_ne_true
 |int a=>
  obtain⟨t',rfl⟩:=ry
  cases x with
  |gh=>cases rx;exact SeqAt.EqAt.int_none a t'
  |bl b=>cases rx;exact SeqAt.EqAt.int_bool a t' b
  |int b=>obtain⟨t,rfl⟩:=rx;exact SeqAt.EqAt.int_int a t' b t
  |str b=>obtain⟨t,rfl⟩:=rx;exact SeqAt.EqAt.int_str a t' b t
  |_=>exact absurd (show false=true from fx) Bool.false_ne_true
 |str a=>
  obtain⟨t',rfl⟩:=ry
  cases x with
  |gh=>cases rx;exact SeqAt.EqAt.str_none a t'
  |bl b=>cases rx;exact SeqAt.EqAt.str_bool a t' b
  |int b=>obtain⟨t,rfl⟩:=rx;exact SeqAt.EqAt.str_int a t' b t
  |str b=>obtain⟨t,rfl⟩:=rx;exact SeqAt.EqAt.str_str a t' b t
  |_=>exact absurd (show false=true from fx) Bool.false_ne_true
 |_=>exact absurd (show false=true from fy) Bool.false_ne_true
def De(x:V)(u:Value):Bool:=match u with
 |.none=>Lb .gh x
 |.bool b=>Lb (.bl b) x
 |.int i _=>Lb (.int i) x
 |.str z _=>Lb (.str z) x
 |_=>false
theorem II{x y:V}{u:Value}(r:RelV y u)(f:uw y=true):De x u=Lb y x:=by
 cases y with
 |gh=>cases r;rfl
 |bl b=>cases r;rfl
 |int i=>obtain⟨t,rfl⟩:=r;rfl
 |str z=>obtain⟨t,rfl⟩:=r;rfl
 |_=>exact absurd (show false=true from f) Bool.false_ne_true
theorem se{x:V}:∀{xs:List V} {us:List Value},Vals xs us→xs.all uw=true→us.any (De x)=xs.any fun y=>Lb y x
 |_,_,.nil,_=>rfl
 |y::xs,u::us,.cons r t,f=>by
  rw[List.all_cons,Bool.and_eq_true]at f
  rw[List.any_cons,List.any_cons,II r f.1,se t f.2]
theorem nW{A:Around}{s:Shared}{x:V}{v:Value}(rx:RelV x v)(fx:uw x=true):∀{xs:List V} {us:List Value},Vals xs us→xs.all uw=true→∀u∈us,SeqAt.EqAt A s u v (De x u)
 |_,_,.nil,_=>fun u hu=>by cases hu
 |y::xs,u::us,.cons r t,f=>fun u' hu=>by
  rw[List.all_cons,Bool.and_eq_true]at f
  rcases List.mem_cons.mp hu with rfl|hu
  ·rw[II r f.1];exact Mb r rx f.1 fx
  ·exact nW rx fx t f.2 u' hu
def El(x:V)(xs:List V):Bool:=xs.any fun y=>Lb y x
def NP(K:PySem.W.Frag)(neg:Bool):R2:=fun x y H Q=>∃p xs,y=.ref p∧(dY K H p xs∨jF K H p xs)∧uw x=true∧xs.all uw=true∧Q (.bl (if neg then !El x xs else El x xs)) H
theorem iJ:sj X (compareOp .In) (NP X.K false):=by
 intro pins s σ H x y v u Q I rx ry h
 obtain⟨p,xs,rfl,hq,fx,fs,q⟩:=h
 cases ry
 rcases hq with hq|hq
 ·obtain⟨its,r,pl,hz⟩:=I.list hq
  refine SeqAt.in_listAt (De x) pl.isList (fun w hw=>nW rx fx r fs w (by simpa using hw)) ⟨.bl _,H,I,rfl,?_⟩
  rw[show its.toArray.any (De x)=its.any (De x) by simp,se r fs]
  exact q
 ·obtain⟨its,r,pl,hz⟩:=I.tuple hq
  refine SeqAt.in_tupleAt (De x) pl (fun w hw=>nW rx fx r fs w (by simpa using hw)) ⟨.bl _,H,I,rfl,?_⟩
  rw[show its.toArray.any (De x)=its.any (De x) by simp,se r fs]
  exact q
theorem zS:sj X (compareOp .NotIn) (NP X.K true):=by
 intro pins s σ H x y v u Q I rx ry h
 obtain⟨p,xs,rfl,hq,fx,fs,q⟩:=h
 cases ry
 rcases hq with hq|hq
 ·obtain⟨its,r,pl,hz⟩:=I.list hq
  refine SeqAt.notIn_listAt (De x) pl.isList (fun w hw=>nW rx fx r fs w (by simpa using hw)) ⟨.bl _,H,I,rfl,?_⟩
  rw[show its.toArray.any (De x)=its.any (De x) by simp,se r fs]
  exact q
 ·obtain⟨its,r,pl,hz⟩:=I.tuple hq
  refine SeqAt.notIn_tupleAt (De x) pl (fun w hw=>nW rx fx r fs w (by simpa using hw)) ⟨.bl _,H,I,rfl,?_⟩
  rw[show its.toArray.any (De x)=its.any (De x) by simp,se r fs]
  exact q
def bW(K:PySem.W.Frag)(T:String)(x:V)(H:Hp):Prop:=match x with
 |.str _=>T="str"
 |.int _=>T="int"
 |.ref p=>(T="list"∧∃xs,dY K H p xs)∨(T="tuple"∧∃o,K.lookup p=some o∧o.cls=.type "tuple"∧o.dict=none)∨
   (T="dict"∧((∃kvs,H p=some (.dK kvs))∨∃kvs,H p=some (.dT kvs)))∨(T="set"∧∃S n,H p=some (.set S n))
 |_=>False
theorem Gr{pins:List (Addr×Obj)}{σ:St}{H:Hp}{s:Shared}{T:String}{x:V}{v:Value}(I:Inv X pins σ H s)(r:RelV x v)(ty:bW X.K T x H):
  s.TypeIs v T∧∀a,v=.ref a→∃ob,s.heap.get? a=some ob∧ob.dict=none:=by
 cases x with
 |str z=>
  obtain⟨t,rfl⟩:=r
  cases(show T="str" from ty)
  exact⟨typeIs_str s z t,fun _ e=>nomatch e⟩
 |int i=>
  obtain⟨t,rfl⟩:=r
  cases(show T="int" from ty)
  exact⟨typeIs_int s i t,fun _ e=>nomatch e⟩
 |ref p=>
  cases r
  rcases ty with⟨rfl,xs,hq⟩|⟨rfl,o,hk,hc,hd⟩|⟨rfl,hk⟩|⟨rfl,S,n,hk⟩
  ·obtain⟨its,_,pl,_⟩:=I.list hq
   refine⟨pl.isList.typeIs,fun a e=>?_⟩
   cases e
   obtain⟨o,n,e,c,hd,_⟩:=pl
   exact⟨o,e,hd⟩
  ·refine⟨⟨o,I.B6 p o hk,hc⟩,fun a e=>?_⟩
   cases e
   exact⟨o,I.B6 _ o hk,hd⟩
  ·have z:∃o,s.heap.get? p=some o∧o.ExactDict:=by
    rcases hk with⟨kvs,hk⟩|⟨kvs,hk⟩
    ·obtain⟨_,_,_,_,o,_,_,e,ex,_⟩:=I.hok p _ hk
     exact⟨o,e,ex⟩
    ·obtain⟨_,_,_,_,o,_,_,e,ex,_⟩:=I.hok p _ hk
     exact⟨o,e,ex⟩
   obtain⟨o,e,ex⟩:=z
   refine⟨⟨o,e,ex.1⟩,fun a e2=>?_⟩
   cases e2
   exact⟨o,e,ex.2.1⟩
  ·obtain⟨o,_,_,_,e,ex,_⟩:=I.hok p _ hk
   refine⟨⟨o,e,ex.1⟩,fun a e2=>?_⟩
   cases e2
   exact⟨o,e,ex.2.1⟩
 |_=>exact False.elim ty
def bf(K:PySem.W.Frag)(T:String)(r:V→List V→Hp→VK→Prop)(to:TE):TE:=fun σ H Q=>to σ H fun x H1=>bW K T x H1∧r x [] H1 Q
def cD(K:PySem.W.Frag)(T:String)(r:V→List V→Hp→VK→Prop)(to:TE)(t:TA):TE:=fun σ H Q=>to σ H fun x H1=>bW K T x H1∧t σ H1 fun xs H2=>r x xs H2 Q
variable{o e:Expr}{es:List Expr}{to:TE}{t:TA}{name:Str}{apos cpos:Pos}{T id:String}{r:V→List V→Hp→VK→Prop}
theorem LN(pa:PlainAttrs T)(slot:Slot T name id)(hty:typeOf (.builtin id)=pure (.type "method_descriptor"))(hm:Nv X id r)(ho:PE X o to)
  (hbase:attributeBase o name X.env (eval o X.env)=eval o X.env:=by rfl)(hline:(apos.endLine==cpos.line)=true:=by rfl):PE X (.Call (.Attribute o name apos) [] [] cpos) (bf X.K T r to):=by
 intro pins s σ H Q I h
 refine wpAny_Call_method0_late hbase hline (fS (ho pins s σ H _ I h) fun v s1 ⟨x,H1,I1,r1,ty,q1⟩=>?_)
 obtain⟨h1,h2⟩:=Gr I1 r1 ty
 exact⟨T,id,pa,slot,hty,h1,h2,Calls.callWith_builtin rfl (PySem.evalArgs_none (hm pins s1 σ H1 x [] v [] Q I1 r1 .nil q1))⟩
theorem nQ(pa:PlainAttrs T)(slot:Slot T name id)(hty:typeOf (.builtin id)=pure (.type "method_descriptor"))(hm:Nv X id r)(ho:PE X o to)(ha:PA X (e::es) t)
  (hbase:attributeBase o name X.env (eval o X.env)=eval o X.env:=by rfl)
  (hfew:((backTo cpos (starEach (e::es) X.env)).all (fun x=> !x.1)&&(backToKw cpos (keywordEach [] X.env)).all (fun x=>x.1.isSome)
   &&decide ((e::es).length+([]:List Keyword).length+(if([]:List Keyword).isEmpty then 0 else 1)<30))=true:=by rfl)
  (hline:(apos.endLine==cpos.line)=true:=by rfl)(hs:starEach (e::es) X.env=(false,eval e X.env)::starEach es X.env:=by rfl)(hplain:(backTo cpos (starEach es X.env)).any (·.1)=false:=by rfl):
  PE X (.Call (.Attribute o name apos) (e::es) [] cpos) (cD X.K T r to t):=by
 intro pins s σ H Q I h
 refine wpAny_Call_method_late hbase hfew hline rfl (fS (ho pins s σ H _ I h) fun v s1 ⟨x,H1,I1,r1,ty,q1⟩=>?_)
 obtain⟨h1,h2⟩:=Gr I1 r1 ty
 refine⟨T,id,pa,slot,hty,h1,h2,?_⟩
 have hA:=ha cpos pins s1 σ H1 _ I1 q1
 rw[hs]at hA⊢
 refine Calls.callWith_builtin (by show(false||(backTo cpos (starEach es X.env)).any (·.1))=false;rw[hplain]<;>rfl) (Calls.evalArgs_plain ?_)
 exact fS hA fun us s2 ⟨vs,H2,I2,r2,q2⟩=>hm pins s2 σ H2 x vs v us Q I2 r1 r2 q2
end
end L2
namespace L2
open PySem PySem.Spec PyProof.Rows
def Oi(X:Cx)(id:String)(r:V→List V→Hp→VK→Prop):Prop:=
 ∀(pins:List (Addr×Obj)) (s:Shared) (σ:St) (H:Hp) (x:V) (xs:List V) (v:Value) (us:List Value) (Q:VK),Inv X pins σ H s→RelV x v→Vals xs us→r x xs H Q→
  wpAny (model X.prog X.w) X.A (call (.builtin id) (v::us)) (EP X pins σ Q) X.xe s
theorem Vals.one:∀{x:V} {us:List Value},Vals [x] us→∃u,us=[u]∧RelV x u
 |_,_,.cons r .nil=>⟨_,rfl,r⟩
section
variable{X:Cx}{pins:List (Addr×Obj)}{σ:St}{H:Hp}{s:Shared}{l b:Addr}{xs ys zs:List V}
theorem Inv.MU{its its':List Value}{n:Nat}{f:Array Value→Array Value}{t':Nat}(I:Inv X pins σ H s)(hH:H l=some (.lst xs))
  (e:s.heap.get? l=some {cls:=.type "list",data:=.seq its.toArray n})(hf:f its.toArray=its'.toArray)(hv:Vals ys its')(hz:ys.length≤sizeLine):
  Inv X pins σ (upd H l (.lst ys)) {s with heap:=s.heap.update l (Obj.mapSeq f),toks:=t'}:=by
 have q:=PySem.IsL.update e f
 rw[hf]at q
 refine I.write (x:=l) (e:=l) (by rw[hH];exact trivial) (.inl rfl) (fun b' u hb hu=>(Heap.get?_update_other s.heap (Obj.mapSeq f) (Ne.symm hb)).trans hu) ⟨_,q⟩ ?_
 exact⟨hz,its',_,hv,q⟩
theorem Inv.NW{its:List Value}{t':Nat}(I:Inv X pins σ H s)(hv:Vals ys its)(hz:ys.length≤sizeLine):
  Inv X pins σ (upd H s.heap.objs.size (.lst ys)) {s with heap:=s.heap.push {cls:=.type "list",data:=.seq its.toArray},toks:=t'}:=
 I.laid (fun _ _ q=>Heap.get?_push_of_some _ q) (Nat.le_refl _) ⟨hz,its,0,hv,Heap.get?_push_size _ rfl⟩
theorem Inv.fresh(I:Inv X pins σ H s):H s.heap.objs.size=none:=I.hok.fresh (Nat.le_refl _)
theorem Inv.Ie(I:Inv X pins σ H s)(hH:H l=some (.lst xs)):xs.length≤sizeLine∧∃(its:List Value) (n:Nat),Vals xs its∧xs.length=its.length∧s.heap.get? l=some {cls:=.type "list",data:=.seq its.toArray n}:=by
 obtain⟨z,its,n,r,e⟩:=I.hok l _ hH
 exact⟨z,its,n,r,r.length,e⟩
theorem HS{n:Nat}(h:n≤sizeLine):Builtin.List.listTooLong n=false:=by
 unfold Builtin.List.listTooLong
 exact decide_eq_false (by lia)
end
section
variable{X:Cx}
def zH:V→List V→Hp→VK→Prop:=fun x vs H Q=>∃l xs y,x=.ref l∧vs=[y]∧H l=some (.lst xs)∧xs.length<sizeLine∧Q .gh (upd H l (.lst (xs++[y])))
theorem gn:Oi X "list.append" zH:=by
 intro pins s σ H x vs v us Q I rx rv h
 obtain⟨l,xs,y,rfl,rfl,hH,hz,q⟩:=h
 cases rx
 obtain⟨u,rfl,ru⟩:=rv.one
 obtain⟨z,its,n,r,hl,e⟩:=I.Ie hH
 refine call_meets F.slot_list_append ⟨_,e,rfl⟩ F.entry_list_append (F.args_list_append_2 _ _) (PySem.list_append l its.toArray n u (by rw[List.size_toArray];lia)) ⟨e,?_⟩
 refine⟨.gh,_,I.MU (its':=its++[u]) hH e (by simp) (r.append (.cons ru .nil)) ?_,rfl,q⟩
 rw[List.length_append,List.length_singleton]
 lia
def JG:V→List V→Hp→VK→Prop:=fun x vs H Q=>∃l b xs zs,x=.ref l∧vs=[.ref b]∧H l=some (.lst xs)∧H b=some (.lst zs)∧xs.length+zs.length≤sizeLine∧Q .gh (upd H l (.lst (xs++zs)))
theorem FE:Oi X "list.extend" JG:=by
 intro pins s σ H x vs v us Q I rx rv h
 obtain⟨l,b,xs,zs,rfl,rfl,hH,hB,hz,q⟩:=h
 cases rx
 obtain⟨u,rfl,ru⟩:=rv.one
 cases ru
 obtain⟨z,its,n,r,hl,e⟩:=I.Ie hH
 obtain⟨z2,its2,n2,r2,hl2,e2⟩:=I.Ie hB
 have hsz:its.toArray.size+its2.toArray.size≤sizeLine:=by rw[List.size_toArray,List.size_toArray];lia
 have hlong:¬(!its.toArray.isEmpty&&Builtin.List.listTooLong (its.toArray.size+its2.toArray.size))=true:=by
  rw[HS hsz,Bool.and_false]
  exact Bool.false_ne_true
 refine call_meets F.slot_list_extend ⟨_,e,rfl⟩ F.entry_list_extend (F.args_list_extend_2 _ _)
  (AutoSeq1.list_extend_list_list_0 l its.toArray n b its2.toArray n2 hlong (by rw[List.size_toArray];lia) (by lia)) ⟨e,e2,?_⟩
 refine⟨.gh,_,I.MU (its':=its++its2) hH e (by simp) (r.append r2) ?_,rfl,q⟩
 rw[List.length_append]
 lia
def NQ:R2:=fun x y H Q=>∃l b xs zs,x=.ref l∧y=.ref b∧H l=some (.lst xs)∧H b=some (.lst zs)∧xs.length+zs.length≤sizeLine∧∀p,H p=none→Q (.ref p) (upd H p (.lst (xs++zs)))
theorem nT:sj X (binaryOp .Add) NQ:=by
 intro pins s σ H x y v u Q I rx ry h
 obtain⟨l,b,xs,zs,rfl,rfl,hH,hB,hz,q⟩:=h
 cases rx
 cases ry
 obtain⟨z,its,n,r,hl,e⟩:=I.Ie hH
 obtain⟨z2,its2,n2,r2,hl2,e2⟩:=I.Ie hB
 refine PySem.P.add_list e e2 ?_ (by rw[List.size_toArray,List.size_toArray];lia)
 have ea:its.toArray++its2.toArray=(its++its2).toArray:=by simp
 rw[ea]
 exact⟨.ref _,_,I.NW (t':=s.toks) (r.append r2) (by rw[List.length_append];lia),rfl,q _ I.fresh⟩
end
section
variable{prog:Program}{w:World}{A:Around}{E:Value→Shared→Prop}{s:Shared}
set_option maxRecDepth 100000 in
end
section
variable{X:Cx}
end
end L2
namespace L2
open PySem PySem.Spec PyProof.Rows
theorem Vals.Oh:∀{bs:List Bool} {us:List Value},Vals (bs.map V.bl) us→us=bs.map Value.bool
 |[],us,h=>by
  rw[List.map_nil]at h
  cases h
  rfl
 |b::bs,us,h=>by
  rw[List.map_cons]at h
  cases h with
  |cons r t=>
   cases r
   rw[Vals.Oh t,List.map_cons]
theorem Vals.NL{a:Addr}{us:List Value}(r:Vals [V.ref a] us):us=[Value.ref a]:=by
 cases r with
 |cons r t=>
  cases t
  cases r
  rfl
section
variable{prog:Program}{w:World}{A:Around}{E:Value→Shared→Prop}{s:Shared}{l:Addr}{its:List Value}{ns:List Int}{Q:Value→Shared→Prop}
end
section
variable{X:Cx}
end
section
variable{X:Cx}
end
section
variable{X:Cx}
end
theorem Ir{prog:Program}{w:World}{A:Around}{E:Value→Shared→Prop}{s:Shared}{l:Addr}{items:Array Value}{Q:Value→Shared→Prop}(hl:s.heap.IsList l items)
  (h:∀s₂:Shared,s₂={s with heap:=s.heap.push {cls:=.type "list_iterator",data:=.fields #[.ref l,.int 0 0]}}→
   (s₂.heap.IsListIter s.heap.objs.size l 0∧s₂.heap.IsList l items)→l≠s.heap.objs.size→Q (.ref s.heap.objs.size) s₂):wpAny (model prog w) A (pyIter (.ref l)) Q E s:=by
 have hlt:l<s.heap.objs.size:=by obtain⟨_,e,_⟩:=hl;exact Heap.lt_size e
 exact wpAny_pyIter_list hl (h _ rfl ⟨⟨_,Heap.get?_push_size _ rfl,rfl,rfl⟩,hl.push _⟩ (Nat.ne_of_lt hlt))
theorem AJ{prog:Program}{w:World}{A:Around}{bs:List Bool}{its:List Value}(e:its=bs.map Value.bool):
  TruthOf prog w A (fun i v=>its.toArray[i]?=some v) (fun i=>bs.getD i false):=fun i v s Q E hv hq=>by
 have hv':its[i]?=some v:=by simpa using hv
 rw[e,List.getElem?_map]at hv'
 obtain⟨b,hb,rfl⟩:=Option.map_eq_some_iff.mp hv'
 have hg:bs.getD i false=b:=by rw[List.getD_eq_getElem?_getD,hb]<;>rfl
 have hq':Q (bs.getD i false) s:=hq
 rw[hg]at hq'
 exact wpAny_truthy_bool hq'
theorem any_range:∀bs:List Bool,(List.range bs.length).any (fun i=>bs.getD i false)=bs.any id
 |[]=>rfl
 |b::bs=>by
  rw[List.length_cons,List.range_succ_eq_map,List.any_cons,List.any_map,List.any_cons,←any_range bs]
  all_goals rfl
section
variable{X:Cx}
def NR(K:PySem.W.Frag):List V→Hp→VK→Prop:=fun vs H Q=>∃(a:Addr) (bs:List Bool),vs=[V.ref a]∧dY K H a (bs.map V.bl)∧Q (.bl (bs.any id)) H
theorem Mf(hc:X.calm=true):p9 X (.builtin "any") (NR X.K):=by
 intro pins s σ H vs us Q I r h
 obtain⟨a,bs,rfl,hs,q⟩:=h
 obtain⟨its,rv,hl,_⟩:=I.list hs
 rw[Vals.NL r]
 have hb:=rv.Oh
 refine call_any_walk (Ir hl.isList fun s₂ e2 st hne=>?_)
 subst e2
 refine⟨_,_,_,_,_,_,_,rfl,Walks.list (A:=X.A.in1) (I.ok.hd hc) _ a hne its.toArray,st,AJ hb,fun h' tk hk=>?_⟩
 refine⟨.bl _,H,I.kept fun b o eo=>hk b o (fun hmem=>?_) (Heap.get?_push_of_some _ eo),?_,q⟩
 ·rcases List.mem_cons.mp hmem with e1|hmem
  ·exact absurd (e1▸Heap.lt_size eo) (Nat.lt_irrefl _)
  ·cases hmem
 ·show Value.bool _=Value.bool _
  rw[←any_range,hb,List.size_toArray,List.length_map]
end
section
variable{X:Cx}{pins:List (Addr×Obj)}{σ:St}{H:Hp}{s:Shared}
end
section
variable{X:Cx}
end
end L2
namespace L2
open PySem PySem.Spec PyProof.Rows
abbrev Jd(h:Heap)(c:Addr)(v:Option Value):Prop:=h.IsCell c v
def NK(scope sc:Scope):Scope:=
 {scope with names:=scope.names.map fun(n,k)=>if(k==.free&&sc.kind==.function&&sc.names.lookup n==some .cell)then(n,.cell)else(n,k)}
def dX(cells:List (Str×Addr)):List (Str×NameKind)→List (Str×Addr)→List (Str×Addr)
 |[],acc=>acc
 |(n,k)::r,acc=>if k==.free then dX cells r ((n,(cells.lookup n).getD 0)::acc)else dX cells r acc
theorem rX(env:Env)(f:Str×NameKind→List (Str×Addr)→Sem (ForInStep (List (Str×Addr))))
  (hf:∀n k c,f (n,k) c=if k==.free then(do let a ←cellOf env n;pure (.yield ((n,a)::c)))else pure (.yield c)):
  ∀(names:List (Str×NameKind)) (acc:List (Str×Addr)),(∀y∈names,y.2=.free→∃c,env.cells.lookup y.1=some c)→forIn names acc f=pure (dX env.cells names acc)
 |[],acc,_=>by rw[List.forIn_nil];rfl
 |(n,k)::r,acc,h=>by
  rw[List.forIn_cons,hf]
  have ih:=fun acc=>rX env f hf r acc fun y hy=>h y (List.mem_cons_of_mem _ hy)
  unfold dX
  by_cases hk:(k==NameKind.free)=true
  ·rw[if_pos hk,if_pos hk]
   obtain⟨c,hc⟩:=h (n,k) List.mem_cons_self (by simpa using hk)
   have e:cellOf env n=pure c:=by unfold cellOf;rw[hc]
   rw[e]
   have e2:(env.cells.lookup n).getD 0=c:=by rw[hc];rfl
   rw[e2]
   exact ih _
  ·rw[if_neg hk,if_neg hk]
   exact ih _
theorem Dg{scope:Scope}{env:Env}(h:∀y∈scope.names,y.2=.free→∃c,env.cells.lookup y.1=some c):closureFor scope env=pure (dX env.cells scope.names []):=by
 simp only[closureFor]
 rw[rX env _ (fun n k c=>rfl) scope.names [] h]
 rfl
theorem mem_lookup{α:Type}:∀{l:List (Str×α)} {n:Str} {c:α},(n,c)∈l→∃c',l.lookup n=some c'
 |(k,v)::r,n,c,h=>by
  rw[List.lookup_cons]
  cases hb:n==k with
  |true=>exact⟨_,rfl⟩
  |false=>
   rcases List.mem_cons.mp h with e|h
   ·cases e;simp at hb
   ·exact mem_lookup h
theorem kJ{cells:List (Str×Addr)}:∀{names:List (Str×NameKind)} {acc:List (Str×Addr)} {n:Str} {c:Addr},(n,c)∈dX cells names acc→(n,c)∈acc∨((n,.free)∈names∧c=(cells.lookup n).getD 0)
 |[],_,_,_,h=>.inl h
 |(m,k)::r,acc,n,c,h=>by
  unfold dX at h
  split at h
  ·rename_i hk
   have hk:k=.free:=by simpa using hk
   rcases kJ h with h|⟨h1,h2⟩
   ·rcases List.mem_cons.mp h with e|h
    ·cases e;exact .inr ⟨hk▸List.mem_cons_self,rfl⟩
    ·exact .inl h
   ·exact .inr ⟨List.mem_cons_of_mem _ h1,h2⟩
  ·rcases kJ h with h|⟨h1,h2⟩
   ·exact .inl h
   ·exact .inr ⟨List.mem_cons_of_mem _ h1,h2⟩
theorem oB{cells:List (Str×Addr)}:∀{names:List (Str×NameKind)} {acc:List (Str×Addr)} {p:Str×Addr},p∈acc→p∈dX cells names acc
 |[],_,_,h=>h
 |(m,k)::r,acc,p,h=>by
  unfold dX
  split
  ·exact oB (List.mem_cons_of_mem _ h)
  ·exact oB h
theorem oA{cells:List (Str×Addr)}:∀{names:List (Str×NameKind)} {acc:List (Str×Addr)} {n:Str},(n,.free)∈names→(n,(cells.lookup n).getD 0)∈dX cells names acc
 |(m,k)::r,acc,n,h=>by
  unfold dX
  rcases List.mem_cons.mp h with e|h
  ·cases e
   exact oB List.mem_cons_self
  ·split
   ·exact oA h
   ·exact oA h
theorem lW:∀{names:List (Str×NameKind)} {h:Heap} {acc:List (Str×Addr)} {x:Str} {c:Addr},(x,c)∈cellsFrom h.objs.size names acc→
  (x,c)∈acc∨((x,.cell)∈names∧h.objs.size≤c∧Jd (pushCells h names) c none)
 |[],_,_,_,_,h=>.inl h
 |(n,k)::r,h,acc,x,c,hm=>by
  unfold cellsFrom at hm
  unfold pushCells
  split at hm
  ·rename_i hk
   rw[if_pos hk]
   have hk:k=.cell:=by simpa using hk
   rw[←Heap.size_push h {cls:=.type "cell",data:=.cell none}]at hm
   rcases lW hm with hm|⟨h1,h2,h3⟩
   ·rcases List.mem_cons.mp hm with e|hm
    ·cases e
     exact .inr ⟨hk▸List.mem_cons_self,Nat.le_refl _,_,pushCells_keeps r _ _ _ (Heap.get?_push_size _ rfl),rfl⟩
    ·exact .inl hm
   ·rw[Heap.size_push]at h2
    exact .inr ⟨List.mem_cons_of_mem _ h1,Nat.le_of_succ_le h2,h3⟩
  ·rename_i hk
   rw[if_neg hk]
   rcases lW hm with hm|⟨h1,h2,h3⟩
   ·exact .inl hm
   ·exact .inr ⟨List.mem_cons_of_mem _ h1,h2,h3⟩
theorem pL:∀{names:List (Str×NameKind)} {n:Nat} {acc:List (Str×Addr)} {p:Str×Addr},p∈acc→p∈cellsFrom n names acc
 |[],_,_,_,h=>h
 |(m,k)::r,n,acc,p,h=>by
  unfold cellsFrom
  split
  ·exact pL (List.mem_cons_of_mem _ h)
  ·exact pL h
theorem tN:∀{names:List (Str×NameKind)} {n:Nat} {acc:List (Str×Addr)} {x:Str},(x,.cell)∈names→∃c,(x,c)∈cellsFrom n names acc
 |(m,k)::r,n,acc,x,h=>by
  unfold cellsFrom
  rcases List.mem_cons.mp h with e|h
  ·cases e
   exact⟨n,pL List.mem_cons_self⟩
  ·split
   ·exact tN h
   ·exact tN h
theorem tM:∀{names:List (Str×NameKind)} {h:Heap} {acc:List (Str×Addr)} {x y:Str} {c:Addr},(∀p∈acc,p.2<h.objs.size)→(∀x y c,(x,c)∈acc→(y,c)∈acc→x=y)→
  (x,c)∈cellsFrom h.objs.size names acc→(y,c)∈cellsFrom h.objs.size names acc→x=y
 |[],_,_,_,_,_,_,hi,h1,h2=>hi _ _ _ h1 h2
 |(n,k)::r,h,acc,x,y,c,hl,hi,h1,h2=>by
  unfold cellsFrom at h1 h2
  split at h1
  ·rename_i hk
   rw[if_pos hk]at h2
   rw[←Heap.size_push h {cls:=.type "cell",data:=.cell none}]at h1 h2
   refine tM (h:=h.push _) (fun p hp=>?_) (fun x y c a b=>?_) h1 h2
   ·rw[Heap.size_push]
    rcases List.mem_cons.mp hp with rfl|hp
    ·exact Nat.lt_succ_self _
    ·exact Nat.lt_succ_of_lt (hl p hp)
   ·rcases List.mem_cons.mp a with e|a<;>rcases List.mem_cons.mp b with e'|b
    ·cases e;cases e';rfl
    ·cases e;exact absurd (hl _ b) (Nat.lt_irrefl _)
    ·cases e';exact absurd (hl _ a) (Nat.lt_irrefl _)
    ·exact hi _ _ _ a b
  ·rename_i hk
   rw[if_neg hk]at h2
   exact tM hl hi h1 h2
theorem BE{M:Model}{A:Around}{E:Value→Shared→Prop}{s:Shared}{scope:Scope}{globals:Addr}{closure:List (Str×Addr)}{qual:Str}{func:Option Addr}{code:Value}{around:Env}{builtins:Addr}{Q:Env→Shared→Prop}
  (h:Q (newEnv scope s.heap.objs.size globals (cellsFrom (s.heap.objs.size+1) scope.names closure) qual func code (some around) builtins)
   {s with heap:=pushCells (s.heap.push {cls:=.type "dict",data:=.dict #[]}) scope.names}):
  wpAny M A (newFunctionEnv scope globals closure [] qual func code (some around) builtins) Q E s:=by
 simp only[newFunctionEnv,Option.isSome_some,if_true]
 refine wpAny_bind (wpAny_alloc ?_)
 refine wpAny_bind (wpAny_layCells _ (fun n k c=>rfl) scope.names closure _ _ ?_)
 rw[show({s with heap:=s.heap.push {cls:=.type "dict",data:=.dict #[]}}:Shared).heap.objs.size=s.heap.objs.size+1 from Heap.size_push ..]
 rw[List.forIn_nil]
 exact wpAny_bind (wpAny_pure (wpAny_pure h))
theorem n8{sc:Scope}:∀{names:List (Str×NameKind)} {x:Str} {k:NameKind},
  (names.map fun(n,k)=>if(k==NameKind.free&&sc.kind==.function&&sc.names.lookup n==some .cell)then(n,NameKind.cell)else(n,k)).lookup x=some k→
  ∃k',names.lookup x=some k'∧(k=k'∨(k'=.free∧k=.cell))
 |[],_,_,h=>by simp at h
 |(n,k₀)::r,x,k,h=>by
  have ih:=@n8 sc r x k
  have h':List.lookup x ((if(k₀==NameKind.free&&sc.kind==.function&&sc.names.lookup n==some .cell)=true then(n,NameKind.cell)else(n,k₀))::(r.map _))=some k:=h
  cases hx:x==n with
  |true=>
   simp only[List.lookup_cons,hx]
   by_cases hc:(k₀==NameKind.free&&sc.kind==.function&&sc.names.lookup n==some .cell)=true
   ·rw[if_pos hc]at h'
    simp only[List.lookup_cons,hx]at h'
    cases h'
    simp only[Bool.and_eq_true,beq_iff_eq]at hc
    exact⟨k₀,rfl,.inr ⟨hc.1.1,rfl⟩⟩
   ·rw[if_neg hc]at h'
    simp only[List.lookup_cons,hx]at h'
    cases h'
    exact⟨_,rfl,.inl rfl⟩
  |false=>
   simp only[List.lookup_cons,hx]
   by_cases hc:(k₀==NameKind.free&&sc.kind==.function&&sc.names.lookup n==some .cell)=true
   ·rw[if_pos hc]at h'
    simp only[List.lookup_cons,hx]at h'
    exact ih h'
   ·rw[if_neg hc]at h'
    simp only[List.lookup_cons,hx]at h'
    exact ih h'
structure B5(N:List Str)(sc scope:Scope)(own:List (Str×Nat)):Prop where
 kind:scope.kind=.function
 uniq:∀y∈scope.names,scope.names.lookup y.1=some y.2
 ix:∀p∈own,N[p.2]?=some p.1
 free:∀y∈scope.names,y.2=.free→sc.names.lookup y.1=some .cell∨sc.names.lookup y.1=some .free
 own:∀y∈scope.names,y.2=.local∨y.2=.cell→y.1∈own.map (·.1)∨y.1∉N
def wipe(σ:St):List Nat→St
 |[]=>σ
 |v::vs=>(wipe σ vs).set v none
theorem mX(σ:St):∀vs:List Nat,(wipe σ vs).length=σ.length
 |[]=>rfl
 |v::vs=>by unfold wipe;rw[List.length_set,mX σ vs]
theorem sC{σ:St}{i:Nat}{x:V}:∀{vs:List Nat},(wipe σ vs)[i]?=some (some x)→σ[i]?=some (some x)∧i∉vs
 |[],h=>⟨h,by simp⟩
 |v::vs,h=>by
  unfold wipe at h
  by_cases hi:v=i
  ·subst hi
   by_cases hv:v<(wipe σ vs).length
   ·rw[List.getElem?_set_self hv]at h;cases h
   ·rw[List.getElem?_eq_none (by simpa using hv)]at h;cases h
  ·rw[List.getElem?_set_ne hi]at h
   obtain⟨h1,h2⟩:=sC h
   exact⟨h1,by simp only[List.mem_cons,not_or];exact⟨fun e=>hi e.symm,h2⟩⟩
abbrev Cx.Aq(X:Cx)(s:Shared)(H:Hp)(scope:Scope)(cenv:Env)(fp:List Addr):Cx:={X with yu:=s,Ng:=H,env:=cenv,outer:=X.stack,ex:=fp,fn:=fun x=>scope.names.lookup x==some .cell,pn:=[],xe:=fun _ _=>False}
section
variable{X:Cx}{pins:List (Addr×Obj)}{σ:St}{H:Hp}{s:Shared}
theorem BX{scope:Scope}{own:List (Str×Nat)}{fp:List Addr}(I:Inv X pins σ H s)(ok:B5 X.N X.env.scope scope own)(hN:X.N.Nodup)(hfp:∀b∈fp,xZ X pins H b∧b<s.heap.objs.size):
  Inv (X.Aq s H scope (compEnvC scope (cellsFrom (s.heap.objs.size+1) scope.names (dX X.env.cells scope.names [])) s.heap.objs.size X.env) fp) [] (wipe σ (own.map (·.2))) H {s with heap:=pushCells (s.heap.push {cls:=.type "dict",data:=.dict #[]}) scope.names}:=by
 have hfree:∀y∈scope.names,y.2=.free→∃c,X.env.cells.lookup y.1=some c:=fun y hy e=>by
  rcases ok.free y hy e with k|k
  ·exact I.ok.has _ (.inl k)
  ·exact I.ok.has _ (.inr k)
 generalize hcenv:compEnvC scope (cellsFrom (s.heap.objs.size+1) scope.names (dX X.env.cells scope.names [])) s.heap.objs.size X.env=cenv
 have kp:∀b o,s.heap.get? b=some o→(pushCells (s.heap.push {cls:=.type "dict",data:=.dict #[]}) scope.names).get? b=some o:=fun b o e=>pushCells_keeps _ _ _ _ (Heap.get?_push_of_some _ e)
 have hL:cenv.locals=s.heap.objs.size:=by rw[←hcenv];rfl
 have hcl:cenv.cells=cellsFrom (s.heap.objs.size+1) scope.names (dX X.env.cells scope.names []):=by rw[←hcenv];rfl
 have hsc:cenv.scope=NK scope X.env.scope:=by rw[←hcenv];rfl
 rw[←Heap.size_push s.heap {cls:=.type "dict",data:=.dict #[]}]at hcl
 have cm:∀{y c},(y,c)∈dX X.env.cells scope.names []→X.env.cells.lookup y=some c∧c<s.heap.objs.size:=fun{y c} hm=>by
  rcases kJ hm with hm|⟨h1,rfl⟩
  ·cases hm
  ·obtain⟨c,hc⟩:=hfree _ h1 rfl
   rw[hc]
   obtain⟨w,z⟩:=I.cell _ _ hc
   exact⟨rfl,z.lt⟩
 have mem:∀{y c},cenv.cells.lookup y=some c→(X.env.cells.lookup y=some c∧c<s.heap.objs.size)∨(s.heap.objs.size+1≤c∧Jd (pushCells (s.heap.push {cls:=.type "dict",data:=.dict #[]}) scope.names) c none):=fun{y c} e=>by
  rw[hcl]at e
  rcases lW (PySem.mem_of_lookup e)with hm|⟨_,h2,h3⟩
  ·exact .inl (cm hm)
  ·rw[Heap.size_push]at h2;exact .inr ⟨h2,h3⟩
 have look:∀{y},scope.names.lookup y=some .free→∃c,cenv.cells.lookup y=some c∧X.env.cells.lookup y=some c:=fun{y} hl=>by
  have hy:(y,NameKind.free)∈scope.names:=PySem.mem_of_lookup hl
  obtain⟨c',e'⟩:=mem_lookup (pL (names:=scope.names) (n:=(s.heap.push {cls:=.type "dict",data:=.dict #[]}).objs.size) (oA (cells:=X.env.cells) (acc:=[]) hy))
  rw[←hcl]at e'
  refine⟨c',e',?_⟩
  rw[hcl]at e'
  rcases lW (PySem.mem_of_lookup e')with hm|⟨h1,_,_⟩
  ·exact(cm hm).1
  ·have:=ok.uniq _ h1
   rw[hl]at this;cases this
 have Je:(X.Aq s H scope cenv fp).Ok:=by
  refine⟨I.ok.mod,by show cenv.scope.kind=_;rw[hsc];exact ok.kind,by show cenv.globals=_;rw[←hcenv];exact I.ok.glob,by show cenv.builtins=_;rw[←hcenv];exact I.ok.blt,by show s.heap.objs.size≤cenv.locals;rw[hL];exact Nat.le_refl _,
   fun y z c e1 e2=>?_,fun y hy=>?_,fun y c z e=>?_,I.ok.hd,I.ok.frames,.inl rfl,fun b hb=>⟨?_,fun y c e z=>?_⟩,I.bs,Nat.le_trans I.ok.Jf I.sz,fun b o e hb=>?_,fun b hb z=>?_,I.stack,I.Du⟩
  ·have e1:cenv.cells.lookup y=some c:=e1
   have e2:cenv.cells.lookup z=some c:=e2
   rw[hcl]at e1 e2
   refine tM (fun p hp=>?_) (fun y z c a b=>I.ok.inj y z c (cm a).1 (cm b).1) (PySem.mem_of_lookup e1) (PySem.mem_of_lookup e2)
   rw[Heap.size_push]
   exact Nat.lt_succ_of_lt (cm (y:=p.1) (c:=p.2) hp).2
  ·show ∃c,cenv.cells.lookup y=some c
   have key:∀k,cenv.kindOf y=some k→(k=.cell∨k=.free)→∃c,cenv.cells.lookup y=some c:=fun k hk hk'=>by
    unfold Env.kindOf at hk
    rw[hsc]at hk
    obtain⟨k',e,r⟩:=n8 hk
    have:k'=.cell∨k'=.free:=by
     rcases r with rfl|⟨rfl,_⟩
     ·exact hk'
     ·exact .inr rfl
    rcases this with rfl|rfl
    ·obtain⟨c,hm⟩:=tN (n:=(s.heap.push {cls:=.type "dict",data:=.dict #[]}).objs.size) (acc:=dX X.env.cells scope.names []) (PySem.mem_of_lookup e)
     obtain⟨c',e'⟩:=mem_lookup hm
     exact⟨c',by rw[hcl];exact e'⟩
    ·obtain⟨c,h1,_⟩:=look e
     exact⟨c,h1⟩
   rcases hy with hy|hy
   ·exact key _ hy (.inl rfl)
   ·exact key _ hy (.inr rfl)
  ·have z:(scope.names.lookup y==some NameKind.cell)=true:=z
   have z:scope.names.lookup y=some .cell:=by simpa using z
   have e:cenv.cells.lookup y=some c:=e
   rw[hcl]at e
   rcases lW (PySem.mem_of_lookup e)with hm|⟨_,h2,_⟩
   ·rcases kJ hm with hm|⟨h1,_⟩
    ·cases hm
    ·have q:=ok.uniq _ h1
     rw[z]at q;cases q
   ·rw[Heap.size_push]at h2
    exact Nat.le_of_succ_le h2
  ·show b≠cenv.locals
   rw[hL];exact Nat.ne_of_lt (hfp b hb).2
  ·have e:cenv.cells.lookup y=some c:=e
   rcases mem e with⟨h1,_⟩|⟨h1,_⟩
   ·exact(hfp b hb).1.2.2.2.2.1 y c h1 z
   ·have h2:s.heap.objs.size+1≤b:=by rw[←z];exact h1
    exact absurd (Nat.lt_of_lt_of_le (hfp b hb).2 (Nat.le_of_succ_le h2)) (Nat.lt_irrefl _)
  ·rcases(hfp b hb).1.2.2.2.1 with z|z
   ·exact I.ok.HU b o e z
   ·exact absurd (Nat.lt_of_lt_of_le (Heap.lt_size e) (Nat.le_trans I.ok.Jf z)) (Nat.lt_irrefl _)
  ·rcases List.mem_cons.mp (I.Cg b z)with z|z
   ·exact(hfp b hb).1.2.1 z
   ·exact(hfp b hb).1.2.2.1 z
 refine⟨Je,rfl,I.bare,Un.kept kp,⟨fun _=>none,?_,fun i y av e1 e2 e3=>?_⟩,fun y c e=>?_,?_,fun y c e=>?_,fun p hp=>?_,I.hok.kept kp,by rw[mX];exact I.len⟩
 ·show Heap.Ns _ cenv.locals _
  rw[hL]
  exact Heap.Ns.keeps (Heap.Ns.new ..) fun b o e=>pushCells_keeps _ _ _ _ e
 ·obtain⟨e2,hne⟩:=sC e2
  have hfr:scope.names.lookup y=some .free∧(cenv.kindOf y=some .cell∨cenv.kindOf y=some .free):=by
   have key:∀k,cenv.scope.names.lookup y=some k→k=.local∨k=.cell∨k=.free→scope.names.lookup y=some .free∧(cenv.kindOf y=some .cell∨cenv.kindOf y=some .free):=fun k hk hk'=>by
    have hk0:=hk
    rw[hsc]at hk
    obtain⟨k',e,r⟩:=n8 hk
    have no:¬(k'=.local∨k'=.cell):=fun hh=>by
     rcases ok.own _ (PySem.mem_of_lookup e) hh with e'|e'
     ·obtain⟨p,hp,hpy⟩:=List.mem_map.mp e'
      have e3:=ok.ix p hp
      have:p.1=y:=hpy
      rw[this]at e3
      exact hne (List.mem_map.mpr ⟨p,hp,wN hN e3 e1⟩)
     ·exact e' (List.mem_of_getElem? e1)
    rcases r with rfl|⟨rfl,rfl⟩
    ·rcases hk' with rfl|rfl|rfl
     ·exact absurd (.inl rfl) no
     ·exact absurd (.inr rfl) no
     ·exact⟨e,.inr hk0⟩
    ·exact⟨e,.inl hk0⟩
   have e3:M8 cenv.scope y:=e3
   rcases e3 with e3|e3|e3
   ·exact key _ e3 (.inl rfl)
   ·exact key _ e3 (.inr (.inl rfl))
   ·exact key _ e3 (.inr (.inr rfl))
  obtain⟨m,hn,hl⟩:=I.loc
  have hvis:M8 X.env.scope y:=(ok.free _ (PySem.mem_of_lookup hfr.1) rfl).elim (fun k=>.inr (.inl k)) (fun k=>.inr (.inr k))
  obtain⟨w,r,q⟩:=hl i y av e1 e2 hvis
  refine⟨w,r,.inr ⟨hfr.2,?_⟩⟩
  obtain⟨c,h1,h2⟩:=look hfr.1
  rcases q with⟨k,_⟩|⟨_,c',e',z⟩
  ·have k:X.env.scope.names.lookup y=some .local:=k
   rcases ok.free _ (PySem.mem_of_lookup hfr.1) rfl with k'|k'<;>rw[show X.env.scope.names.lookup y=_ from k']at k<;>cases k
  ·rw[h2]at e';cases e'
   exact⟨c,h1,z.keeps kp⟩
 ·have e:cenv.cells.lookup y=some c:=e
  rcases mem e with⟨h1,_⟩|⟨_,z⟩
  ·obtain⟨w,z⟩:=I.cell y c h1
   exact⟨w,z.keeps kp⟩
  ·exact⟨_,z⟩
 ·show H cenv.locals=none
  rw[hL];exact I.hok.fresh (Nat.le_refl _)
 ·have e:cenv.cells.lookup y=some c:=e
  rcases mem e with⟨h1,_⟩|⟨h1,_⟩
  ·exact I.oq y c h1
  ·exact I.hok.fresh (Nat.le_of_succ_le h1)
 ·exact absurd (show p∈([]:List (Addr×Obj))++[]from hp) (by simp)
theorem Ml{E:Value→Shared→Prop}{D:Addr}{xs:List V}{y:V}{v:Value}{Q:Value→Shared→Prop}(I:Inv X pins σ H s)(hD:H D=some (.lst xs))(hz:xs.length<sizeLine)(r:RelV y v)
  (h:∀s',Inv X pins σ (upd H D (.lst (xs++[y]))) s'→Q .none s'):wpAny (model X.prog X.w) X.A (call (.builtin "list.append") [.ref D,v]) Q E s:=by
 obtain⟨hz',its,n,ri,e⟩:=I.hok D _ hD
 have hl:=ri.length
 refine append_at (hsz:=by rw[List.size_toArray];lia) e fun h' sb ho'=>?_
 refine h {s with heap:=h'} (I.write (t':=s.toks) (by rw[hD];trivial) (.inl rfl) (fun b u hb q=>(sb.2 b hb).trans q) ⟨_,ho'⟩ ⟨by rw[List.length_append];exact hz,its++[v],n+1,ri.append (.cons r .nil),?_⟩)
 rw[ho']
 simp
def Nt(X:Cx)(ifs:List Expr)(t:TT):Prop:=
 ∀(pins:List (Addr×Obj)) (s:Shared) (σ:St) (H:Hp) (Q:Bool→Hp→Prop),Inv X pins σ H s→t σ H Q→
  wpAny (model X.prog X.w) X.A (forIn ifs true fun c r=>if r=true then do let ok ←isTrue c X.env (eval c X.env);pure (ForInStep.yield ok)else pure (ForInStep.yield r)) (TP X pins σ Q) X.xe s
def AR:TT:=fun _ H Q=>Q true H
theorem gJ:Nt X [] AR:=fun _ _ _ H _ I h=>wpAny_tests_nil ⟨H,I,h⟩
end
theorem EN{α:Type}{t:Sem α}{Q Q':α→Shared→Prop}{M:Model}{A:Around}{E:Value→Shared→Prop}{s:Shared}(h:wpAny M A t Q (fun _ _=>False) s)(hQ:∀a s,Q a s→Q' a s):wpAny M A t Q' E s:=wpAny_mono h hQ fun _ _ z=>False.elim z
theorem An{prog:Program}{w:World}{A:Around}{R:Result→Shared→Prop}{s:Shared}{elt target iter:Expr}{ifs:List Expr}{scope:Scope}{pos:Pos}{it acc:Value}{env:Env}(I:Nat→Shared→Prop)
  (turn:∀n s,I n s→wpAny (model prog w) A (pyNext it) (fun r s₁=>match r with
   |none=>R (.ok .next) s₁
   |some v=>wpAny (model prog w) A (letOwnedTupleGo target it v) (fun _ s₁'=>wpAny (model prog w) A (assign target env v) (fun _ s₂=>
     wpAny (model prog w) A (forIn ifs true fun c r=>if r=true then do let ok ←isTrue c env (eval c env);pure (ForInStep.yield ok)else pure (ForInStep.yield r)) (fun ok s₃=>
      if ok=true then wpAny (model prog w) A (eval elt env) (fun x s₄=>
       wpAny (model prog w) A (call (.builtin "list.append") [acc,x]) (fun _ s₅=>∃m,m<n∧I m s₅) (notedBy (model prog w) A env fun e s'=>R (.error e) s') s₄) (notedBy (model prog w) A env fun e s'=>R (.error e) s') s₃
      else ∃m,m<n∧I m s₃) (notedBy (model prog w) A env fun e s'=>R (.error e) s') s₂) (notedBy (model prog w) A env fun e s'=>R (.error e) s') s₁') (notedBy (model prog w) A env fun e s'=>R (.error e) s') s₁) (notedBy (model prog w) A env fun e s'=>R (.error e) s') s)
  (n:Nat)(h:I n s):
  codeAny (model prog w) A (.compLoop (.ListComp elt [⟨target,iter,ifs,0⟩] scope pos) 0 it acc env) R s:=by
 refine codeAny_loop rfl I (fun n s hI=>?_) n h
 show wpAny _ A ((compTurn (.ListComp elt [⟨target,iter,ifs,0⟩] scope pos) 0 it acc env).onRaise (fun x=>do noteFrame x env;theTreesLotGoes x)) _ _ s
 refine wpAny_noted ?_
 rw[compTurn_list]
 refine wpAny_bind (wpAny_standAt (wpAny_bind (wpAny_mono (turn n s hI) (fun r s₁ h₁=>?_) fun _ _ h'=>h')))
 cases r with
 |none=>exact wpAny_pure h₁
 |some v=>
  refine wpAny_bind (wpAny_mono h₁ (fun _ s₁' h₁'=>?_) fun _ _ h'=>h')
  refine wpAny_bind (wpAny_mono h₁' (fun _ s₂ h₂=>wpAny_bind (wpAny_mono h₂ (fun ok s₃ h₃=>?_) fun _ _ h'=>h')) fun _ _ h'=>h')
  cases ok with
  |false=>exact wpAny_pure ⟨rfl,h₃⟩
  |true=>
   exact wpAny_bind (wpAny_bind (wpAny_mono h₃ (fun x s₄ h₄=>wpAny_bind (wpAny_mono h₄ (fun _ s₅ h₅=>wpAny_pure (wpAny_pure ⟨rfl,h₅⟩)) fun _ _ h'=>h')) fun _ _ h'=>h'))
section
variable{X:Cx}
def MB(wi:TI)(g:TG)(tt:TT)(te:TE)(vs:List Nat):TE:=fun σ H Q=>wi σ H fun J H1=>∀D,H1 D=none→∃W:Nat→Nat→Hp→Prop,(∃m,W 0 m (upd H1 D (.lst [])))∧∀i m H,W i m H→
 (J.stop i H∧Q (.ref D) H)∨(J.go i H∧∃Nx:Hp→Prop,(∀H',Nx H'→∃m',m'<m∧W (i+1) m' H')∧∀x H',J.Az i H x H'→g x (wipe σ vs) H' fun σ2 H2=>wipe σ2 vs=wipe σ vs∧tt σ2 H2 fun b H3=>
  if b=true then te σ2 H3 fun y H4=>∃acc,H4 D=some (.lst acc)∧acc.length<sizeLine∧Nx (upd H4 D (.lst (acc++[y])))else Nx H3)
theorem Eg{pins:List (Addr×Obj)}{s:Shared}{σ:St}{H:Hp}{Q:VK}{elt tg iter:Expr}{ifs:List Expr}{scope:Scope}{own:List (Str×Nat)}{pos pos':Pos}{wi:TI}{g:TG}{tt:TT}{te:TE}{use:Option (Value→Sem Unit)}{Qf:Value→Shared→Prop}
  (hc:X.calm=true)(hN:X.N.Nodup)(I:Inv X pins σ H s)(hi:PI X tg iter wi)(ok:B5 X.N X.env.scope scope own)
  (hg:∀(s:Shared) (H:Hp) (C:Addr) (cl:List (Str×Addr)) (fp:List Addr),PG (X.Aq s H scope (compEnvC scope cl C X.env) fp) tg g)(ht:∀(s:Shared) (H:Hp) (C:Addr) (cl:List (Str×Addr)) (fp:List Addr),Nt (X.Aq s H scope (compEnvC scope cl C X.env) fp) ifs tt)
  (he:∀(s:Shared) (H:Hp) (C:Addr) (cl:List (Str×Addr)) (fp:List Addr),PE (X.Aq s H scope (compEnvC scope cl C X.env) fp) elt te)(hs:∀x,foldedSetIterable iter X.env x=pure x)
  (h:MB wi g tt te (own.map (·.2)) σ H Q)
  (hRR:∀D C s' m H',Inv X pins σ H' s'→Q (.ref D) H'→s'.heap.Ns C m→xZ X pins H' C→compPost (model X.prog X.w) X.A X.xe use Qf (.ref D) C (.ok .next) s'):
  wpAny (model X.prog X.w) X.A (comprehension (.ListComp elt [⟨tg,iter,ifs,0⟩] scope pos) scope X.env pos' (newList []) false (eval iter X.env) use) Qf X.xe s:=by
 have hfree:∀y∈scope.names,y.2=.free→∃c,X.env.cells.lookup y.1=some c:=fun y hy e=>by
  rcases ok.free y hy e with k|k
  ·exact I.ok.has _ (.inl k)
  ·exact I.ok.has _ (.inr k)
 refine wpAny_comprehension_free (use:=use) rfl hs (Dg hfree) ok.kind (fun y hy e=>by rw[ok.uniq y hy,e])
  (fS (hi pins s σ H _ I h) fun xv s1 hx=>fS hx fun itv s2 h2=>?_)
 obtain⟨it,fp,tn,J,H2,e,I2,T,st2,f2,q⟩:=h2
 subst e
 refine wpAny_newObj_type (BE ?_) (by show 0≤sizeLine;decide)
 generalize hD:s2.heap.objs.size=D
 have hDn:H2 D=none:=I2.hok.fresh (Nat.le_of_eq hD)
 obtain⟨W,⟨m0,w0⟩,turn⟩:=q D hDn
 generalize hs3:({s2 with heap:=s2.heap.push {cls:=.type "list",data:=.seq ([]:List Value).toArray}}:Shared)=s3
 have I3:Inv X pins σ (upd H2 D (.lst [])) s3:=by
  rw[←hs3]
  refine I2.laid (t':=s2.toks) (fun b o e=>Heap.get?_push_of_some _ e) (Nat.le_of_eq hD) ⟨Nat.zero_le _,[],0,.nil,?_⟩
  rw[←hD]
  exact Heap.get?_push_size _ rfl
 have h3:s3.heap=s2.heap.push {cls:=.type "list",data:=.seq ([]:List Value).toArray}:=by rw[←hs3]
 have sz:∀b∈fp,b<s2.heap.objs.size:=fun b hb=>by
  obtain⟨o,e,_⟩:=T.obj _ _ st2 b hb
  exact Heap.lt_size e
 have f3:∀b∈fp,xZ X pins (upd H2 D (.lst [])) b∧b<s3.heap.objs.size:=fun b hb=>by
  have hlt:=sz b hb
  refine⟨⟨?_,(f2 b hb).2⟩,by rw[h3,Heap.size_push];exact Nat.lt_succ_of_lt hlt⟩
  rw[cQ (by rw[←hD];exact Nat.ne_of_lt hlt)]
  exact(f2 b hb).1
 have st3:tn 0 s3.heap:=T.keep _ _ _ st2 fun b _ o e=>by rw[h3];exact Heap.get?_push_of_some _ e
 have I4:=BX I3 ok hN f3
 have pg:=hg s3 (upd H2 D (.lst [])) s3.heap.objs.size (cellsFrom (s3.heap.objs.size+1) scope.names (dX X.env.cells scope.names [])) fp
 have pt:=ht s3 (upd H2 D (.lst [])) s3.heap.objs.size (cellsFrom (s3.heap.objs.size+1) scope.names (dX X.env.cells scope.names [])) fp
 have pe:=he s3 (upd H2 D (.lst [])) s3.heap.objs.size (cellsFrom (s3.heap.objs.size+1) scope.names (dX X.env.cells scope.names [])) fp
 show codeAny _ _ (.compStart (.ListComp elt [⟨tg,iter,ifs,0⟩] scope pos) 0 (.ref it) (.ref D) (compEnvC scope (cellsFrom (s3.heap.objs.size+1) scope.names (dX X.env.cells scope.names [])) s3.heap.objs.size X.env)) (compPost (model X.prog X.w) X.A X.xe use Qf (.ref D) s3.heap.objs.size) {s3 with heap:=pushCells (s3.heap.push {cls:=.type "dict",data:=.dict #[]}) scope.names}
 have nfp:∀b∈fp,(upd H2 D (.lst [])) b=none:=fun b hb=>(f3 b hb).1.1
 generalize hce:compEnvC scope (cellsFrom (s3.heap.objs.size+1) scope.names (dX X.env.cells scope.names [])) s3.heap.objs.size X.env=ce at I4 pg pt pe⊢
 have cL:ce.locals=s3.heap.objs.size:=by subst hce;rfl
 generalize hH3:upd H2 D (.lst [])=H3 at I3 I4 pg pt pe w0 nfp f3
 generalize hs4:({s3 with heap:=pushCells (s3.heap.push {cls:=.type "dict",data:=.dict #[]}) scope.names}:Shared)=s4 at I4⊢
 have st4:tn 0 s4.heap:=T.keep _ _ _ st3 fun b _ o e=>by rw[←hs4];exact pushCells_keeps _ _ _ _ (Heap.get?_push_of_some _ e)
 have stat:∀{σ':St} {H':Hp} {s':Shared},Inv (X.Aq s3 H3 scope ce fp) [] σ' H' s'→(∀b∈fp,H' b=none)→∀b∈fp,xZ (X.Aq s3 H3 scope ce fp) [] H' b:=fun{σ' H' s'} I' hn b hb=>
  ⟨hn b hb,(I'.ok.Nq b hb).1,I'.ok.IG b hb,.inl hb,fun x c e=>(I'.ok.Nq b hb).2 x c e,fun p hp=>absurd (show p∈([]:List (Addr×Obj))++[]from hp) (by simp)⟩
 have loop:codeAny (model X.prog X.w) X.A (.compLoop (.ListComp elt [⟨tg,iter,ifs,0⟩] scope pos) 0 (.ref it) (.ref D) ce) (compPost (model X.prog X.w) X.A X.xe use Qf (.ref D) s3.heap.objs.size) s4:=by
  refine An (fun n s'=>∃i H',Inv (X.Aq s3 H3 scope ce fp) [] (wipe σ (own.map (·.2))) H' s'∧tn i s'.heap∧(∀b∈fp,H' b=none)∧W i n H') ?_ m0 ⟨0,H3,I4,st4,nfp,w0⟩
  rintro n s5 ⟨i,H5,I5,st5,n5,w5⟩
  rcases turn i n H5 w5 with⟨stop,qq⟩|⟨go,Nx,hNx,step⟩
  ·have td:=T.done (X.Aq s3 H3 scope ce fp) rfl rfl rfl hc i [] s5 _ H5 (fun _ _=>False) I5 (stat I5 n5) st5 stop
   refine EN td fun r s6 ⟨hr,I6⟩=>?_
   subst hr
   have I7:Inv X pins σ H5 s6:=I3.M5 (ch:=fp) I6.os I6.base I6.hok I6.bare fun b hb=>⟨(f3 b hb).1.2.2.2.1,(f3 b hb).1.2.1,(f3 b hb).1.2.2.2.2.1,(f3 b hb).1.2.2.2.2.2⟩
   have nC:H5 s3.heap.objs.size=none:=by
    have z:H5 ce.locals=none:=I6.free
    rw[cL]at z
    exact z
   obtain⟨m,hn,_⟩:=I6.loc
   have hn:s6.heap.Ns ce.locals m:=hn
   rw[cL]at hn
   exact hRR D s3.heap.objs.size s6 m H5 I7 qq hn (I3.IA (Nat.le_refl _) nC)
  ·have ti:=T.item (X.Aq s3 H3 scope ce fp) rfl rfl rfl hc i [] s5 _ H5 (fun _ _=>False) I5 (stat I5 n5) st5 go
   refine EN ti fun r s6 ⟨u,hr,h6⟩=>?_
   subst hr
   refine EN h6 fun _ s7 ⟨x,H7,I7,r7,y7,st7,n7⟩=>?_
   have I7':=I7.pinned (stat I7 n7) (T.obj _ _ st7)
   refine EN (pg _ s7 _ H7 x u _ I7' r7 (step x H7 y7)) fun _ s8 ⟨σ8,H8,I8,hw8,q8⟩=>?_
   refine EN (pt _ s8 σ8 H8 _ I8 q8) fun b s9 ⟨H9,I9,q9⟩=>?_
   have fin:∀{s':Shared} {H':Hp},Inv (X.Aq s3 H3 scope ce fp) ([]++wm fp s7.heap) σ8 H' s'→Nx H'→∃m,m<n∧∃i H',Inv (X.Aq s3 H3 scope ce fp) [] (wipe σ (own.map (·.2))) H' s'∧tn i s'.heap∧(∀b∈fp,H' b=none)∧W i m H':=fun{s' H'} I' nx=>by
    obtain⟨m',hm,w'⟩:=hNx H' nx
    have pin':∀b∈fp,∀o,s7.heap.get? b=some o→s'.heap.get? b=some o∧H' b=none:=fun b hb o e=>
     let z:=I'.pin (b,o) (List.mem_append_right _ (List.mem_append_right _ (qz hb e)))
     ⟨z.1,z.2.1⟩
    have hl:(wipe σ (own.map (·.2))).length=σ8.length:=by rw[←hw8,mX]
    refine⟨m',hm,i+1,H',(I'.qH (pins:=[])).weak hl (fun j v e=>?_),T.keep _ _ _ st7 fun b hb o e=>(pin' b hb o e).1,fun b hb=>?_,w'⟩
    ·rw[←hw8]at e
     exact(sC e).1
    ·obtain⟨o,e,_⟩:=T.obj _ _ st7 b hb
     exact(pin' b hb o e).2
   cases b with
   |false=>
    simp only[Bool.false_eq_true,if_false]at q9⊢
    exact fin I9 q9
   |true=>
    simp only[if_true]at q9⊢
    refine EN (pe _ s9 σ8 H9 _ I9 q9) fun z s10 ⟨yv,H10,I10,r10,acc,hD10,hz10,nx⟩=>?_
    exact Ml (X:=X.Aq s3 H3 scope ce fp) I10 hD10 hz10 r10 fun s11 I11=>fin I11 nx
 exact codeAny_compStart_list loop (T.self X.A 0 _ _ _ st4 loop)
theorem yG{elt tg iter:Expr}{ifs:List Expr}{scope:Scope}{own:List (Str×Nat)}{pos:Pos}{wi:TI}{g:TG}{tt:TT}{te:TE}(hc:X.calm=true)(hN:X.N.Nodup)(hi:PI X tg iter wi)(ok:B5 X.N X.env.scope scope own)
  (hg:∀(s:Shared) (H:Hp) (C:Addr) (cl:List (Str×Addr)) (fp:List Addr),PG (X.Aq s H scope (compEnvC scope cl C X.env) fp) tg g)(ht:∀(s:Shared) (H:Hp) (C:Addr) (cl:List (Str×Addr)) (fp:List Addr),Nt (X.Aq s H scope (compEnvC scope cl C X.env) fp) ifs tt)
  (he:∀(s:Shared) (H:Hp) (C:Addr) (cl:List (Str×Addr)) (fp:List Addr),PE (X.Aq s H scope (compEnvC scope cl C X.env) fp) elt te)(hs:∀x,foldedSetIterable iter X.env x=pure x:=by intro _;rfl):
  PE X (.ListComp elt [⟨tg,iter,ifs,0⟩] scope pos) (MB wi g tt te (own.map (·.2))):=by
 intro pins s σ H Q I h
 rw[eval_ListComp]
 refine Eg hc hN I hi ok hg ht he hs h fun D C s' m H' I' q hn f=>⟨m,hn,fun h'' sb=>?_⟩
 obtain⟨f0,f1,f2,f3,f4,f5⟩:=f
 exact⟨.ref D,H',I'.turned (t':=s'.toks) (fun b o hb e=>(sb.2 b hb).trans e) f0 f1 f3 f4 f5,rfl,q⟩
theorem lH{i:Nat}{y:Str}{py:Pos}{elt tg iter:Expr}{ifs:List Expr}{scope:Scope}{own:List (Str×Nat)}{pos spos:Pos}{wi:TI}{g:TG}{tt:TT}{te:TE}(hc:X.calm=true)(hN:X.N.Nodup)(hy:X.N[i]?=some y)(hyl:X.env.scope.names.lookup y=some .local)
  (hsw:swapsWith (.ListComp elt [⟨tg,iter,ifs,0⟩] scope pos) (some (.Name y py)) spos.line X.env=pure true)(hi:PI X tg iter wi)(ok:B5 X.N X.env.scope scope own)
  (hg:∀(s:Shared) (H:Hp) (C:Addr) (cl:List (Str×Addr)) (fp:List Addr),PG (X.Aq s H scope (compEnvC scope cl C X.env) fp) tg g)(ht:∀(s:Shared) (H:Hp) (C:Addr) (cl:List (Str×Addr)) (fp:List Addr),Nt (X.Aq s H scope (compEnvC scope cl C X.env) fp) ifs tt)
  (he:∀(s:Shared) (H:Hp) (C:Addr) (cl:List (Str×Addr)) (fp:List Addr),PE (X.Aq s H scope (compEnvC scope cl C X.env) fp) elt te)(hs:∀x,foldedSetIterable iter X.env x=pure x:=by intro _;rfl):
  PS X (.Assign [.Name y py] (.ListComp elt [⟨tg,iter,ifs,0⟩] scope pos) spos) (aL (MB wi g tt te (own.map (·.2))) (ao i)):=by
 intro pins s σ H D I h
 rw[exec_Assign_Name_used _ _ _ _ hsw]
 refine wpAny_bind (wpAny_standAt (wpAny_bind ?_))
 show wpAny _ X.A (do let _ ←comprehension (.ListComp elt [⟨tg,iter,ifs,0⟩] scope pos) scope X.env (firstIterPos [⟨tg,iter,ifs,0⟩] pos) (newList []) false (eval iter X.env) (some (assign (.Name y py) X.env))) _ _ s
 have h:MB wi g tt te (own.map (·.2)) σ H (fun x H1=>ao i x σ H1 D.nx):=h
 refine wpAny_bind (fS (Eg (Qf:=fun _ s'=>SP X pins D .next s') hc hN I hi ok hg ht he hs h fun L C s' m H' I' q hn f=>?_) fun _ s' hq=>wpAny_pure (wpAny_pure hq))
 show wpAny _ _ (assign (.Name y py) X.env (.ref L)) _ _ _
 refine wpAny_assign_Name (yc (v:=V.ref L) I' hN hy (.inl hyl) rfl (fun s2 I2 ⟨a,sb,ha⟩=>?_) (.inr hyl))
 obtain⟨f0,f1,f2,f3,f4,f5⟩:=f
 have haC:C≠a:=by
  rcases ha with z|z
  ·rw[z];exact f1
  ·exact fun e=>f4 y a z e.symm
 refine⟨m,hn.sameBut sb haC,fun h3 sb3=>?_⟩
 exact⟨_,H',I2.turned (t':=s2.toks) (fun b o hb e=>(sb3.2 b hb).trans e) f0 f1 f3 f4 f5,q⟩
end
theorem Il{lo:Int}{n:Nat}{g:TG}{tt:TT}{te:TE}{vs:List Nat}{σ:St}{H1:Hp}{D:Addr}{Qd:Hp→Prop}(Pv:Nat→Hp→Prop)(h0:Pv 0 (upd H1 D (.lst [])))
  (hs:∀i H,i<n→Pv i H→g (.int (lo+i)) (wipe σ vs) H fun σ2 H2=>wipe σ2 vs=wipe σ vs∧tt σ2 H2 fun b H3=>
   if b=true then te σ2 H3 fun y H4=>∃acc,H4 D=some (.lst acc)∧acc.length<sizeLine∧Pv (i+1) (upd H4 D (.lst (acc++[y])))else Pv (i+1) H3)(hd:∀H,Pv n H→Qd H):
  ∃W:Nat→Nat→Hp→Prop,(∃m,W 0 m (upd H1 D (.lst [])))∧∀i m H,W i m H→
   ((Gk lo n).stop i H∧Qd H)∨((Gk lo n).go i H∧∃Nx:Hp→Prop,(∀H',Nx H'→∃m',m'<m∧W (i+1) m' H')∧∀x H',(Gk lo n).Az i H x H'→g x (wipe σ vs) H' fun σ2 H2=>wipe σ2 vs=wipe σ vs∧tt σ2 H2 fun b H3=>
    if b=true then te σ2 H3 fun y H4=>∃acc,H4 D=some (.lst acc)∧acc.length<sizeLine∧Nx (upd H4 D (.lst (acc++[y])))else Nx H3):=by
 refine⟨fun i m H=>m=n - i∧i≤n∧Pv i H,⟨n,by simp,Nat.zero_le _,h0⟩,?_⟩
 rintro i m H ⟨rfl,hi,p⟩
 by_cases hlt:i<n
 ·refine .inr ⟨hlt,Pv (i+1),fun H' p'=>⟨n - (i+1),by lia,rfl,hlt,p'⟩,fun x H' y=>?_⟩
  obtain⟨e,y⟩:=y
  subst e y
  exact hs i _ hlt p
 ·have e:i=n:=by lia
  subst e
  exact .inl ⟨Nat.le_refl _,hd H p⟩
theorem Ef{K:PySem.W.Frag}{a:Addr}{xs:List V}{g:TG}{tt:TT}{te:TE}{vs:List Nat}{σ:St}{H1:Hp}{D:Addr}{Qd:Hp→Prop}(Pv:Nat→Hp→Prop)(h0:Pv 0 (upd H1 D (.lst [])))(hl:∀i H,i≤xs.length→Pv i H→dY K H a xs)
  (hs:∀i x H,xs[i]?=some x→Pv i H→g x (wipe σ vs) H fun σ2 H2=>wipe σ2 vs=wipe σ vs∧tt σ2 H2 fun b H3=>
   if b=true then te σ2 H3 fun y H4=>∃acc,H4 D=some (.lst acc)∧acc.length<sizeLine∧Pv (i+1) (upd H4 D (.lst (acc++[y])))else Pv (i+1) H3)(hd:∀H,Pv xs.length H→Qd H):
  ∃W:Nat→Nat→Hp→Prop,(∃m,W 0 m (upd H1 D (.lst [])))∧∀i m H,W i m H→
   ((EE K a).stop i H∧Qd H)∨((EE K a).go i H∧∃Nx:Hp→Prop,(∀H',Nx H'→∃m',m'<m∧W (i+1) m' H')∧∀x H',(EE K a).Az i H x H'→g x (wipe σ vs) H' fun σ2 H2=>wipe σ2 vs=wipe σ vs∧tt σ2 H2 fun b H3=>
    if b=true then te σ2 H3 fun y H4=>∃acc,H4 D=some (.lst acc)∧acc.length<sizeLine∧Nx (upd H4 D (.lst (acc++[y])))else Nx H3):=by
 refine⟨fun i m H=>m=xs.length - i∧i≤xs.length∧Pv i H,⟨xs.length,by simp,Nat.zero_le _,h0⟩,?_⟩
 rintro i m H ⟨rfl,hi,p⟩
 have q:=hl i H hi p
 by_cases hlt:i<xs.length
 ·refine .inr ⟨⟨xs,xs[i],q,by simp[hlt]⟩,Pv (i+1),fun H' p'=>⟨xs.length - (i+1),by lia,rfl,hlt,p'⟩,fun x H' y=>?_⟩
  obtain⟨e,y⟩:=y
  subst e
  exact hs i x _ (y xs q) p
 ·have e:i=xs.length:=by lia
  subst e
  exact .inl ⟨⟨xs,q,Nat.le_refl _⟩,hd H p⟩
theorem L1{K:PySem.W.Frag}{a:Addr}{xs:List V}{g:TG}{tt:TT}{te:TE}{vs:List Nat}{σ:St}{H1:Hp}{D:Addr}{Qd:Hp→Prop}(Pv:Nat→Hp→Prop)(h0:Pv 0 (upd H1 D (.lst [])))(hl:∀i H,i≤xs.length→Pv i H→jF K H a xs)
  (hs:∀i x H,xs[i]?=some x→Pv i H→g x (wipe σ vs) H fun σ2 H2=>wipe σ2 vs=wipe σ vs∧tt σ2 H2 fun b H3=>
   if b=true then te σ2 H3 fun y H4=>∃acc,H4 D=some (.lst acc)∧acc.length<sizeLine∧Pv (i+1) (upd H4 D (.lst (acc++[y])))else Pv (i+1) H3)(hd:∀H,Pv xs.length H→Qd H):
  ∃W:Nat→Nat→Hp→Prop,(∃m,W 0 m (upd H1 D (.lst [])))∧∀i m H,W i m H→
   ((ED K a).stop i H∧Qd H)∨((ED K a).go i H∧∃Nx:Hp→Prop,(∀H',Nx H'→∃m',m'<m∧W (i+1) m' H')∧∀x H',(ED K a).Az i H x H'→g x (wipe σ vs) H' fun σ2 H2=>wipe σ2 vs=wipe σ vs∧tt σ2 H2 fun b H3=>
    if b=true then te σ2 H3 fun y H4=>∃acc,H4 D=some (.lst acc)∧acc.length<sizeLine∧Nx (upd H4 D (.lst (acc++[y])))else Nx H3):=by
 refine⟨fun i m H=>m=xs.length - i∧i≤xs.length∧Pv i H,⟨xs.length,by simp,Nat.zero_le _,h0⟩,?_⟩
 rintro i m H ⟨rfl,hi,p⟩
 have q:=hl i H hi p
 by_cases hlt:i<xs.length
 ·refine .inr ⟨⟨xs,xs[i],q,by simp[hlt]⟩,Pv (i+1),fun H' p'=>⟨xs.length - (i+1),by lia,rfl,hlt,p'⟩,fun x H' y=>?_⟩
  obtain⟨e,y⟩:=y
  subst e
  exact hs i x _ (y xs q) p
 ·have e:i=xs.length:=by lia
  subst e
  exact .inl ⟨⟨xs,q,Nat.le_refl _⟩,hd H p⟩
def M7(N:List Str)(sc scope:Scope)(own:List (Str×Nat)):Bool:=
 (match scope.kind with|.function=>true|_=>false)&&(scope.names.all fun y=>decide (scope.names.lookup y.1=some y.2))&&(own.all fun p=>decide (N[p.2]?=some p.1))&&
  (scope.names.all fun y=>match y.2 with
   |.free=>(match sc.names.lookup y.1 with|some .cell=>true|some .free=>true|_=>false)
   |.local=>decide (y.1∈own.map (·.1))||decide (y.1∉N)
   |.cell=>decide (y.1∈own.map (·.1))||decide (y.1∉N)
   |_=>true)
theorem fR{N:List Str}{sc scope:Scope}{own:List (Str×Nat)}(h:M7 N sc scope own=true):B5 N sc scope own:=by
 unfold M7 at h
 simp only[Bool.and_eq_true,List.all_eq_true,decide_eq_true_eq]at h
 obtain⟨⟨⟨h1,h2⟩,h3⟩,h4⟩:=h
 refine⟨?_,h2,h3,fun y hy e=>?_,fun y hy e=>?_⟩
 ·split at h1
  ·assumption
  ·cases h1
 ·have q:=h4 y hy
  simp only[e]at q
  split at q<;>first|exact .inl (by assumption)|exact .inr (by assumption)|cases q
 ·have q:=h4 y hy
  rcases e with e|e<;>(simp only[e,Bool.or_eq_true,decide_eq_true_eq]at q;exact q)
end L2
namespace L2
open PySem PySem.Spec PyProof.Rows
section
variable{prog:Program}{w:World}{A:Around}{R:Result→Shared→Prop}{s:Shared}{elt t0 i0 t1 i1:Expr}{ifs0 ifs1:List Expr}{scope:Scope}{pos:Pos}{it acc:Value}{env:Env}
end
section
variable{X:Cx}
end
end L2
namespace L2
open PySem PySem.Spec PyProof.Rows
section
variable{κ:Type}[DecidableEq κ]
def uA(kvs:List (κ×V))(k:κ):Option V:=(kvs.find? fun kv=>decide (kv.1=k)).map (·.2)
theorem Gp{p:κ×V}{r:List (κ×V)}{k:κ}(e:p.1=k):uA (p::r) k=some p.2:=by simp[uA,List.find?_cons,e]
theorem Gq{p:κ×V}{r:List (κ×V)}{k:κ}(e:¬p.1=k):uA (p::r) k=uA r k:=by simp[uA,List.find?_cons,e]
theorem xO.getD{o:Option V}{u:Option Value}{d:V}{d':Value}(r:xO o u)(rd:RelV d d'):RelV (o.getD d) (u.getD d'):=by
 cases o with
 |none=>cases u with
  |none=>exact rd
  |some _=>exact(show False from r).elim
 |some _=>cases u with
  |none=>exact(show False from r).elim
  |some _=>exact r
theorem KV.val{kvs:List (κ×V)}{vs:List (κ×Value)}(r:KV kvs vs)(k:κ):xO (uA kvs k) (valueAt vs k):=by
 unfold KV at r
 induction r with
 |nil=>exact True.intro
 |@cons p q ps qs h t ih=>
  obtain⟨h1,h2⟩:=h
  by_cases e:p.1=k
  ·have e':q.1=k:=h1.symm.trans e
   have b:valueAt (q::qs) k=some q.2:=by simp[valueAt,List.find?_cons,e']
   rw[Gp e,b];exact h2
  ·have e':¬q.1=k:=fun z=>e (h1.trans z)
   have b:valueAt (q::qs) k=valueAt qs k:=by simp[valueAt,List.find?_cons,e']
   rw[Gq e,b];exact ih
end
theorem K7{P:Program}{w:World}{k:Key}{u:Value}(r:RelV (kV k) u):(iV P w).is k u=true:=by
 cases k with
 |inl i=>obtain⟨t,e⟩:=(show ∃t,u=Value.int i t from r);subst e;exact nV P w i t
 |inr x=>obtain⟨t,e⟩:=(show ∃t,u=Value.str x t from r);subst e;exact BI P w x t
section
variable{P:Program}{w:World}{H:Hp}{h:Heap}{a:Addr}
end
section
variable{X:Cx}{pins:List (Addr×Obj)}{σ:St}{H:Hp}{s:Shared}{a:Addr}{y v:V}{u r:Value}{o:Option V}{A:Around}{E:Value→Shared→Prop}
end
section
variable{X:Cx}{pins:List (Addr×Obj)}{σ:St}{H:Hp}{s:Shared}{a:Addr}{kvs:List (Key×V)}{k:Key}{u:Value}{A:Around}{E:Value→Shared→Prop}
end
def M9(i:Expr):Prop:=∀ov iv,subscripted i false ov iv=operate [ov,iv] (getItem ov iv)
theorem Jp{prog:Program}{w:World}{A:Around}{E:Value→Shared→Prop}{s:Shared}{env:Env}{value slice:Expr}{pos:Pos}{T id:String}{Q:Value→Shared→Prop}
  (hl:typeLookup (.type T) "__getitem__"=pure (some (.builtin id)))(hs:M9 slice)
  (h:wpAny (model prog w) A (eval value env) (fun o s₁=>wpAny (model prog w) A (eval slice env) (fun i s₂=>s₂.TypeIs o T∧wpAny (model prog w) A (getItem o i) Q E s₂) E s₁) E s):
  wpAny (model prog w) A (eval (.Subscript value slice pos) env) Q E s:=by
 refine Subscript_ (wpAny_mono h (fun o s₁ h₁=>wpAny_mono h₁ (fun i s₂ h₂=>?_) fun _ _ x=>x) fun _ _ x=>x)
 obtain⟨hT,h₂⟩:=h₂
 unfold subscriptTail
 refine wpAny_bind ?_
 rw[getitemInPython_of_ne hT.not_modules]
 refine wpAny_bind (wpAny_specialOf hT hl ?_)
 have fin:wpAny (model prog w) A (subscripted slice false o i) (fun r s₃=>wpAny (model prog w) A (letTemporaryGo value o r>>= fun _=>pure r) Q E s₃) E s₂:=by
  rw[hs o i]
  exact wpAny_operating (wpAny_mono h₂ (fun r s₃ h₃=>wpAny_bind (wpAny_letTemporaryGo (wpAny_pure h₃))) fun _ _ x=>x)
 first
  |exact wpAny_pure (wpAny_bind fin)
  |exact wpAny_bind (wpAny_pure (wpAny_bind fin))
  |exact wpAny_bind fin
section
variable{X:Cx}{o i e value:Expr}{pos pos' tpos:Pos}{td ty tv:TE}
end
section
variable{X:Cx}{pos:Pos}
end
structure M2(X:Cx)(o:Expr)(m:Str)(apos:Pos)(e f:Expr)(cpos:Pos):Prop where
 base:attributeBase o m X.env (eval o X.env)=eval o X.env
 few:((backTo cpos (starEach [e,f] X.env)).all (fun x=> !x.1)&&(backToKw cpos (keywordEach [] X.env)).all (fun x=>x.1.isSome)
  &&decide (([e,f]:List Expr).length+([]:List Keyword).length+(if([]:List Keyword).isEmpty then 0 else 1)<30))=true
 line:(apos.endLine==cpos.line)=true
 trees:backTo cpos (starEach [e,f] X.env)=[(false,eval e X.env),(false,eval f X.env)]
section
variable{X:Cx}{pins:List (Addr×Obj)}{σ:St}{H:Hp}{s:Shared}{a:Addr}{y d:V}{u r:Value}{o:Option V}{A:Around}{E:Value→Shared→Prop}
end
section
variable{X:Cx}{o e f:Expr}{apos cpos:Pos}{td ty tx:TE}
end
section
variable{X:Cx}{pins:List (Addr×Obj)}{σ:St}{H:Hp}{s:Shared}{a:Addr}{kvs:List (Key×V)}{A:Around}{E:Value→Shared→Prop}
end
section
variable{X:Cx}{pins:List (Addr×Obj)}{σ:St}{H:Hp}{s:Shared}{a:Addr}{y:V}{u:Value}{A:Around}{E:Value→Shared→Prop}
end
end L2
namespace L2
open PySem PySem.Spec PyProof.Rows
section
variable{prog:Program}{w:World}{A:Around}{E:Value→Shared→Prop}
end
section
variable{X:Cx}
end
end L2
namespace L2
open PySem PySem.Spec PyProof.Rows
theorem xD:bootBuiltins "reversed"=some (.type "reversed"):=by decide+kernel
section
variable{X:Cx}{pins:List (Addr×Obj)}{σ:St}{H:Hp}{s:Shared}{h':Heap}
end
section
variable{X:Cx}
theorem zN{tg:Expr}{pins:List (Addr×Obj)}{σ:St}{H:Hp}{s:Shared}{R:It→Hp→Prop}{J:It}{tn:Nat→Heap→Prop}{tk:Nat}(I:Inv X pins σ H s)(o:Obj)
  (T:Turn X.prog X.w X.K tg J [s.heap.objs.size] s.heap.objs.size tn)(st:tn 0 (s.heap.push o))(q:R J H):Ob X pins σ tg R (.ref s.heap.objs.size) {s with heap:=s.heap.push o,toks:=tk}:=by
 refine⟨s.heap.objs.size,[s.heap.objs.size],tn,J,H,rfl,I.kept fun b ob e=>Heap.get?_push_of_some _ e,T,st,fun b hb=>?_,q⟩
 have e:b=s.heap.objs.size:=by simpa using hb
 subst e
 exact I.IA (Nat.le_refl _) (I.hok.fresh (Nat.le_refl _))
end
def Nf(lo c:Int)(n:Nat):It:=⟨fun i _=>i<n,fun i H x H'=>H'=H∧x=.int (lo+(i:Nat)*c),fun i _=>n≤i⟩
theorem AG{P:Program}{w:World}{K:PySem.W.Frag}{tg:Expr}(it:Addr)(lo c:Int)(n:Nat):Turn P w K tg (Nf lo c n) [it] it (fun i h=>IsRangeIter h it (lo+(i:Nat)*c) ((n:Int) - (i:Nat)) c)where
 mem:=by simp
 obj:=fun i h st b hb=>by
  have e:b=it:=by simpa using hb
  subst e
  exact⟨_,st,fun v z=>nomatch z⟩
 keep:=fun i h h' st k=>k it (by simp) _ st
 item:=by
  intro X hP hw hK hc i pins s σ H E I hf st hg
  subst hP hw hK
  obtain⟨f0,f1,f2,f3,f4,f5⟩:=hf it (by simp)
  have W:=Walks.range (prog:=X.prog) (w:=X.w) (I.ok.hd hc) it lo c n
  refine W.item i s _ _ hg st fun v h' tk hv st' kk=>?_
  obtain⟨t,rfl⟩:=hv
  have I1:Inv X pins σ H {s with heap:=h',toks:=tk}:=I.turned (fun b o hb e=>kk b o (by simpa using hb) e) f0 f1 f3 f4 f5
  exact⟨_,rfl,yS (s:={s with heap:=h',toks:=tk}) (n:="range_iterator") st' rfl rfl (by decide) ⟨.int (lo+(i:Nat)*c),H,I1,⟨t,rfl⟩,⟨rfl,rfl⟩,st',fun b hb=>(hf b hb).1⟩⟩
 done:=by
  intro X hP hw hK hc i pins s σ H E I hf st hg
  subst hP hw hK
  obtain⟨f0,f1,f2,f3,f4,f5⟩:=hf it (by simp)
  exact wpAny_pyNext_range_end (I.ok.hd hc) st (by have:n≤i:=hg;lia) fun h' eb=>⟨rfl,I.turned (t':=s.toks) (fun b o hb e=>eb b o hb e) f0 f1 f3 f4 f5⟩
 self:=fun A i s Q E st h=>wpAny_pyIter_rangeiter st h
def Oa(i j c:Int)(n:Nat):Prop:=c≠0∧c.natAbs<1073741824∧Builtin.Range.small i j c=true∧Builtin.Range.rangeSize i j c=n
def MX(ta:TA):TI:=fun σ H R=>ta σ H fun vs H1=>∃(i j c:Int) (n:Nat),vs=[.int i,.int j,.int c]∧Oa i j c n∧R (Nf i c n) H1
section
variable{X:Cx}{tg:Expr}
theorem E8{a b c:Expr}{ta:TA}{p pos:Pos}(hg:Gl X "range")(hm:X.mg "range"=none)(ha:PA X [a,b,c] ta)
  (hs:starEach [a,b,c] X.env=(false,eval a X.env)::starEach [b,c] X.env:=by rfl)(hpl:(backTo pos (starEach [b,c] X.env)).any (·.1)=false:=by rfl):
  PI X tg (.Call (.Name "range" p) [a,b,c] [] pos) (MX ta):=by
 intro pins s σ H R I h
 refine Call_ (tF I hg hm boot_range (PyProof.Rows.callWith_type1 (fS (ha pos pins s σ H _ I h) fun us s1 ⟨vs,H1,I1,r1,q1⟩=>?_) hs hpl))
 obtain⟨i,j,k,n,e,⟨c0,c1,c2,c3⟩,q⟩:=q1
 subst e
 cases r1 with
 |cons r rr=>
  cases rr with
  |cons r' rr=>
   cases rr with
   |cons r'' rr=>
    cases rr
    obtain⟨t,rfl⟩:=r
    obtain⟨t',rfl⟩:=r'
    obtain⟨t'',rfl⟩:=r''
    refine call_range_3 c0 ?_ (.inl (PyProof.noPylong_small c1))
    refine wpAny_pyIter_range (IsRange.new ..) c2 ?_
    have I2:Inv X pins σ H1 {s1 with heap:=s1.heap.push {cls:=.type "range",data:=.fields #[.int i t,.int j t',.int k t'']}}:=I1.kept (t':=s1.toks) fun b o e=>Heap.get?_push_of_some _ e
    refine zN (tk:=s1.toks) I2 _ (AG _ i k n) ?_ q
    have e1:i+((0:Nat):Int)*k=i:=by simp
    have e2:(n:Int) - ((0:Nat):Int)=Builtin.Range.rangeSize i j k:=by rw[c3];simp
    show IsRangeIter _ _ (i+((0:Nat):Int)*k) ((n:Int) - ((0:Nat):Int)) k
    rw[e1,e2]
    exact Heap.get?_push_size _ rfl
end
theorem C9{lo c:Int}{n:Nat}{g:TG}{tb:TS}{D:Ends}{σ:St}{H:Hp}(Pv:Nat→St→Hp→Prop)(h0:Pv 0 σ H)
  (hs:∀i σ H,i<n→Pv i σ H→g (.int (lo+(i:Nat)*c)) σ H fun σ2 H2=>tb {D with nx:=Pv (i+1),ct:=Pv (i+1),bk:=D.nx} σ2 H2)(hd:∀σ H,Pv n σ H→D.nx σ H):
  ∃W:Nat→Nat→St→Hp→Prop,(∃m,W 0 m σ H)∧∀i m σ H,W i m σ H→
   ((Nf lo c n).stop i H∧D.nx σ H)∨((Nf lo c n).go i H∧∃N:St→Hp→Prop,(∀σ' H',N σ' H'→∃m',m'<m∧W (i+1) m' σ' H')∧∀x H',(Nf lo c n).Az i H x H'→g x σ H' fun σ2 H2=>tb {D with nx:=N,ct:=N,bk:=D.nx} σ2 H2):=by
 refine⟨fun i m σ H=>m=n - i∧i≤n∧Pv i σ H,⟨n,by simp,Nat.zero_le _,h0⟩,?_⟩
 rintro i m σ H ⟨rfl,hi,p⟩
 by_cases hlt:i<n
 ·refine .inr ⟨hlt,Pv (i+1),fun σ' H' p'=>⟨n - (i+1),by lia,rfl,hlt,p'⟩,fun x H' y=>?_⟩
  obtain⟨e,y⟩:=y
  subst e y
  exact hs i σ _ hlt p
 ·have e:i=n:=by lia
  subst e
  exact .inl ⟨Nat.le_refl _,hd σ H p⟩
def Nc(K:PySem.W.Frag)(a:Addr)(n:Nat):It:=
 ⟨fun i H=>i<n∧∃(xs:List V) (x:V),dY K H a xs∧xs[n - 1 - i]?=some x,fun i H x H'=>H'=H∧∀xs,dY K H a xs→xs[n - 1 - i]?=some x,fun i _=>n≤i⟩
theorem Gu{P:Program}{w:World}{K:PySem.W.Frag}{tg:Expr}(a it:Addr)(n:Nat):Turn P w K tg (Nc K a n) [it] it (fun i h=>i≤n∧h.IsRevIter it a ((n:Int) - 1 - (i:Nat)))where
 mem:=by simp
 obj:=fun i h st b hb=>by
  have e:b=it:=by simpa using hb
  subst e
  obtain⟨_,o,e,c,d⟩:=st
  exact⟨o,e,fun v z=>by rw[d]at z;cases z⟩
 keep:=fun i h h' st k=>⟨st.1,st.2.at fun o e=>k it (by simp) o e⟩
 item:=by
  intro X hP hw hK hc i pins s σ H E I hf st hg
  subst hP hw hK
  obtain⟨hin,xs,x,hq,hx⟩:=hg
  obtain⟨its,rv,p,hz⟩:=I.list hq
  obtain⟨u,hu,ru⟩:=rv.get hx
  obtain⟨f0,f1,f2,f3,f4,f5⟩:=hf it (by simp)
  obtain⟨_,hit⟩:=st
  have e1:(n:Int) - 1 - ((i:Nat):Int)=((n - 1 - i:Nat):Int):=by lia
  rw[e1]at hit
  refine wpAny_pyNext_rev_item hit p.isList (x:=u) (by simpa using hu) fun h' st' sb=>?_
  have e2:((n - 1 - i:Nat):Int) - 1=(n:Int) - 1 - ((i+1:Nat):Int):=by lia
  rw[e2]at st'
  have I1:Inv X pins σ H {s with heap:=h'}:=I.turned (t':=s.toks) (fun b o hb e=>(sb.2 b hb).trans e) f0 f1 f3 f4 f5
  obtain⟨o,e,c,d⟩:=id st'
  exact⟨u,rfl,yS (s:={s with heap:=h'}) e c d (by decide) ⟨x,H,I1,ru,⟨rfl,fun ys hy=>by rw[I.BK hy hq];exact hx⟩,⟨hin,st'⟩,fun b hb=>(hf b hb).1⟩⟩
 done:=by
  intro X hP hw hK hc i pins s σ H E I hf st hg
  subst hP hw hK
  obtain⟨f0,f1,f2,f3,f4,f5⟩:=hf it (by simp)
  obtain⟨hin,hit⟩:=st
  have hge:n≤i:=hg
  have e1:(n:Int) - 1 - ((i:Nat):Int)=-1:=by lia
  rw[e1]at hit
  exact wpAny_pyNext_rev_end (I.ok.hd hc) hit fun h' eb=>⟨rfl,I.turned (t':=s.toks) (fun b o hb e=>eb b o hb e) f0 f1 f3 f4 f5⟩
 self:=fun A i s Q E st h=>wpAny_pyIter_revIter st.2 h
def N2(K:PySem.W.Frag)(ta:TA):TI:=fun σ H R=>ta σ H fun vs H1=>∃(a:Addr) (xs:List V),vs=[.ref a]∧dY K H1 a xs∧R (Nc K a xs.length) H1
section
variable{X:Cx}{tg:Expr}
theorem Br{e:Expr}{ta:TA}{p pos:Pos}(hg:Gl X "reversed")(hm:X.mg "reversed"=none)(ha:PA X [e] ta)(hs:starEach [e] X.env=[(false,eval e X.env)]:=by rfl):PI X tg (.Call (.Name "reversed" p) [e] [] pos) (N2 X.K ta):=by
 intro pins s σ H R I h
 refine Call_ (tF I hg hm xD (PyProof.Rows.callWith_type1 (fS (ha pos pins s σ H _ I h) fun us s1 ⟨vs,H1,I1,r1,q1⟩=>?_) hs rfl))
 obtain⟨a,xs,e,hq,q⟩:=q1
 subst e
 cases r1 with
 |cons r rr=>
  cases rr
  cases r
  obtain⟨its,rv,p',hz⟩:=I1.list hq
  have hl:=rv.length
  have e1:((its.toArray.size:Nat):Int) - 1=(xs.length:Int) - 1 - ((0:Nat):Int):=by simp only[List.size_toArray];lia
  refine call_reversed_list p'.isList (wpAny_pyIter_revIter (l:=a) (i:=((its.toArray.size:Nat):Int) - 1) ⟨_,Heap.get?_push_size _ rfl,rfl,rfl⟩ ?_)
  refine zN (tk:=s1.toks) I1 _ (Gu a _ xs.length) ⟨Nat.zero_le _,?_⟩ q
  rw[←e1]
  exact⟨_,Heap.get?_push_size _ rfl,rfl,rfl⟩
end
def Nd(x:Str):It:=⟨fun i _=>i<x.cps.size,fun i H v H'=>H'=H∧∃c,x.cps[i]?=some c∧v=.str ⟨#[c]⟩,fun i _=>x.cps.size≤i⟩
theorem AE{P:Program}{w:World}{K:PySem.W.Frag}{tg:Expr}(it:Addr)(x:Str)(t:Tok)(ty:String)(hty:ty="str_ascii_iterator"∨ty="str_iterator"):
  Turn P w K tg (Nd x) [it] it (fun i h=>h.IsStrIter it ty x t i)where
 mem:=by simp
 obj:=fun i h st b hb=>by
  have e:b=it:=by simpa using hb
  subst e
  obtain⟨o,e,c,d⟩:=st
  exact⟨o,e,fun v z=>by rw[d]at z;cases z⟩
 keep:=fun i h h' st k=>let⟨o,ho,r⟩:=st;⟨o,k it (by simp) o ho,r⟩
 item:=by
  intro X hP hw hK hc i pins s σ H E I hf st hg
  subst hP hw hK
  obtain⟨f0,f1,f2,f3,f4,f5⟩:=hf it (by simp)
  have W:Walks X.prog X.w X.A it [it] [it] x.cps.size (SignAt x) (fun i h=>h.IsStrIter it ty x t i):=by
   rcases hty with e|e
   ·rw[e];exact Walks.strAscii (I.ok.hd hc) it x t
   ·rw[e];exact Walks.strWide (I.ok.hd hc) it x t
  have hno:["enumerate","zip","dict_itemiterator","dict_reverseitemiterator","odict_iterator","itertools.zip_longest","itertools.pairwise"].contains ty=false:=by
   rcases hty with e|e
   ·rw[e];decide
   ·rw[e];decide
  refine W.item i s _ _ hg st fun v h' tk hv st' kk=>?_
  obtain⟨c,u,hcx,rfl⟩:=hv
  have I1:Inv X pins σ H {s with heap:=h',toks:=tk}:=I.turned (fun b o hb e=>kk b o (by simpa using hb) e) f0 f1 f3 f4 f5
  obtain⟨oi,e,cc,dd⟩:=id st'
  exact⟨_,rfl,yS (s:={s with heap:=h',toks:=tk}) e cc dd hno ⟨.str ⟨#[c]⟩,H,I1,⟨u,rfl⟩,⟨rfl,c,hcx,rfl⟩,st',fun b hb=>(hf b hb).1⟩⟩
 done:=by
  intro X hP hw hK hc i pins s σ H E I hf st hg
  subst hP hw hK
  obtain⟨f0,f1,f2,f3,f4,f5⟩:=hf it (by simp)
  have hx:x.cps[i]?=none:=Array.getElem?_eq_none hg
  rcases hty with e|e
  ·rw[e]at st
   exact wpAny_pyNext_ascii_end (I.ok.hd hc) st hx fun h' eb=>⟨rfl,I.turned (t':=s.toks) (fun b o hb e=>eb b o hb e) f0 f1 f3 f4 f5⟩
  ·rw[e]at st
   exact wpAny_pyNext_wide_end (I.ok.hd hc) st hx fun h' eb=>⟨rfl,I.turned (t':=s.toks) (fun b o hb e=>eb b o hb e) f0 f1 f3 f4 f5⟩
 self:=fun A i s Q E st h=>by
  rcases hty with e|e
  ·rw[e]at st;exact wpAny_pyIter_striter_ascii st h
  ·rw[e]at st;exact wpAny_pyIter_striter_wide st h
def N1(te:TE):TI:=fun σ H R=>te σ H fun v H1=>∃x,v=.str x∧R (Nd x) H1
theorem LK{X:Cx}{tg e:Expr}{te:TE}(he:PE X e te):PI X tg e (N1 te):=by
 intro pins s σ H R I h
 refine fS (he pins s σ H _ I h) fun v s1 ⟨y,H1,I1,r1,x,ex,q⟩=>?_
 subst ex
 obtain⟨t,rfl⟩:=r1
 cases ha:x.cps.all (· <128)
 ·exact wpAny_pyIter_wide ha (zN (tk:=s1.toks) I1 _ (AE _ x t "str_iterator" (.inr rfl)) ⟨_,Heap.get?_push_size _ rfl,rfl,rfl⟩ q)
 ·exact wpAny_pyIter_ascii ha (zN (tk:=s1.toks) I1 _ (AE _ x t "str_ascii_iterator" (.inl rfl)) ⟨_,Heap.get?_push_size _ rfl,rfl,rfl⟩ q)
section
variable{prog:Program}{w:World}{A:Around}{E:Value→Shared→Prop}{s:Shared}
end
section
variable{X:Cx}{pins:List (Addr×Obj)}{σ:St}{H:Hp}{s:Shared}{d:Addr}{o:Obj}
end
section
variable{P:Program}{w:World}{K:PySem.W.Frag}{tg:Expr}{d:Addr}{o:Obj}{es:Array DictEntry}{ep:Nat}
end
section
variable{X:Cx}{tg e:Expr}{td:TE}{apos cpos:Pos}
end
end L2
section
namespace Bits
open PySem PyProof.Rows
end Bits
end
section
namespace TL
open PySem PySem.Builtin PySem.Builtin.Str PySem.StrLaws
end TL
end
namespace L2
open PySem PySem.Spec PyProof.Rows
section
variable{X:Cx}{pins:List (Addr×Obj)}{σ:St}{H:Hp}{s:Shared}{Q:VK}
end
section
variable{X:Cx}
end
section
variable{X:Cx}{o e:Expr}{to te:TE}
end
end L2
namespace L2
open PySem PySem.Spec PyProof.Rows
section
variable{X:Cx}
end
end L2
namespace Att
open PySem PySem.W PySem.Calls PyProof.Rows
section
variable{prog:Program}{w:World}{A:Around}{E:Value→Shared→Prop}{s:Shared}{K:Frag}
end
end Att
namespace L2
open PySem PySem.Spec PyProof.Rows
end L2
namespace L2
open PySem PySem.Spec PyProof.Rows
end L2
namespace L2
open PySem PySem.Spec PyProof.Rows
def inClass(s:Stmt)(j:Nat):Stmt:=match s with
 |.ClassDef _ _ _ body _ _ _ _ _ _ _=>body.getD j (.Pass ⟨0,0,0,0⟩)
 |_=>.Pass ⟨0,0,0,0⟩
def mC(s:Stmt):Arguments:=match s with
 |.FunctionDef _ a _ _ _ _ _ _ _ _=>a
 |_=>{posonlyargs:=[],args:=[],vararg:=none,kwonlyargs:=[],kw_defaults:=[],kwarg:=none,defaults:=[]}
def kI(s:Stmt):List Stmt:=match s with
 |.FunctionDef _ _ b _ _ _ _ _ _ _=>b
 |_=>[]
def aR(s:Stmt):Scope:=match s with
 |.FunctionDef _ _ _ _ _ _ sc _ _ _=>sc
 |_=>{kind:=.function,names:=[],isGenerator:=false,isCoroutine:=false}
abbrev eS:Gm:=fun _ _ _ _ _ _=>False
abbrev E0:XK:=fun _ _ _=>False
theorem D4{X:Cx}:Passes eS X E0:=fun _ _ _ _ _ _ _ h=>h.elim
structure eX(K:PySem.W.Frag)(x qual:Str)(st:Stmt)(f:Addr)(fd:FuncData):Prop where
 ex:∃(oc:Value) (od:Option Addr) (kV doc pm:Value) (an:Option Addr) (cdv ct:Value) (osl:Array (Option Value)),
  fd=PySem.W.fnOf x qual (mC st) (kI st) (aR st) .none kV doc pm an cdv ct∧K.lookup f=some ⟨oc,od,.func fd,osl⟩∧PySem.W.codeIn K cdv qual=true
 kp:PySem.W.keepIn K (.ref f)=true
section
variable{P:Program}{w:World}{K:PySem.W.Frag}{mg:Str→Option Value}{base:Heap}
theorem eX.ok{x qual:Str}{st:Stmt}{f:Addr}{fd:FuncData}{N ps:List Str}{k:Nat}{sp:Sp}(F:eX K x qual st f fd)(S:bz N ps (aR st))(len:∀vs H Q E,sp vs H Q E→vs.length=ps.length)
  (hbody:∀(cdv:Value) (A:Around) (outer:List Env) (s:Shared) (H:Hp) (vs:List V) (Q:VK) (E:XK),iN k (A.deeper (envOfC qual (aR st) s.heap.objs.size f cdv))→sp vs H Q E→
   ∃t,Gh (F4 eS P w K mg base N qual (aR st) f cdv A outer s H E).Nl (kI st) t∧t {nx:=fun _ H'=>Q .gh H',rt:=Q} (start N vs) H):cA P w K mg base eS (k+1) f fd ps sp:=by
 obtain⟨oc,od,kV,doc,pm,an,cdv,ct,osl,rfl,lk,hcd⟩:=F.ex
 refine M1 lk hcd S len fun A outer s H vs Q E hr hsp=>?_
 obtain⟨t,h,q⟩:=hbody cdv A outer s H vs Q E hr hsp
 exact⟨t,h.Nl,q⟩
theorem eX.binds{x qual:Str}{st:Stmt}{f:Addr}{fd:FuncData}{ps:List Str}(F:eX K x qual st f fd)
  (h:∀(kV doc pm:Value) (an:Option Addr) (cdv ct:Value) (us:List Value),us.length=ps.length→bindArgs (PySem.W.fnOf x qual (mC st) (kI st) (aR st) .none kV doc pm an cdv ct) ⟨us,[]⟩=pure (ps.zip us)):Binds K fd ps []:=by
 obtain⟨oc,od,kV,doc,pm,an,cdv,ct,osl,rfl,lk,hcd⟩:=F.ex
 exact .all (h kV doc pm an cdv ct)
theorem Iw{x qual:Str}{st:Stmt}{f:Addr}{oc:Value}{od an:Option Addr}{osl:Array (Option Value)}{kV doc pm cdv ct:Value}(l:K.lookup f=some ⟨oc,od,.func (PySem.W.fnOf x qual (mC st) (kI st) (aR st) .none kV doc pm an cdv ct),osl⟩)
  (c:PySem.W.codeIn K cdv qual=true)(k:PySem.W.keepIn K (.ref f)=true):eX K x qual st f (PySem.W.fnOf x qual (mC st) (kI st) (aR st) .none kV doc pm an cdv ct):=⟨⟨oc,od,kV,doc,pm,an,cdv,ct,osl,rfl,l,c⟩,k⟩
end
section
variable{X:Cx}
theorem pv(i:Nat){x:Str}{pos:Pos}(hN:X.N[i]?=some x:=by rfl)(hv:M8 X.env.scope x:=by first|exact Or.inl rfl|exact Or.inr (Or.inl rfl)|exact Or.inr (Or.inr rfl))(hd:(x==("__debug__":Str))=false:=by decide)
  (hcd:(x==("__classdict__":Str))=false:=by decide):PE X (.Name x pos) (aG i):=LL hN hv hd hcd
end
def aH(H H':Hp):Prop:=∀b o,H b=some o→H' b=some o
theorem aH.refl(H:Hp):aH H H:=fun _ _ h=>h
theorem aH.trans{H H1 H2:Hp}(a:aH H H1)(b:aH H1 H2):aH H H2:=fun c o h=>b c o (a c o h)
theorem aH.free{H H':Hp}(e:aH H H'){l:Addr}(h:H' l=Option.none):H l=Option.none:=by
 cases q:H l with
 |none=>rfl
 |some o=>
  rw[e l o q]at h
  cases h
theorem aH.seq{K:PySem.W.Frag}{H H':Hp}{a:Addr}{xs:List V}(e:aH H H')(h:dY K H a xs):dY K H' a xs:=by
 rcases h with(h|⟨o,h⟩)|h
 ·exact .inl (.inl (e _ _ h))
 ·exact .inl (.inr ⟨o,e _ _ h⟩)
 ·exact .inr h
section
variable{κ:Type}[DecidableEq κ]
end
end L2
end
noncomputable section
namespace L2
open PySem PySem.Spec PyProof.Rows
open PySem.W (WData Codec OpenSpec Well WellAll ReadsW ReadsAllW)
mutual
inductive Dw(K:PySem.W.Frag)(H:Hp):V→WData→Prop
 |gh:Dw K H .gh .none
 |bl (b:Bool):Dw K H (.bl b) (.bool b)
 |int (i:Int):Dw K H (.int i) (.int i)
 |str (x:Str):Dw K H (.str x) (.str x)
 |yX (b:Array UInt8):Dw K H (.yX b) (.bytes b.toList)
 |lst {a:Addr} {xs:List V} {ds:List WData}:dY K H a xs→mS K H xs ds→Dw K H (.ref a) (.list ds)
 |tup {a:Addr} {xs:List V} {ds:List WData}:jF K H a xs→mS K H xs ds→Dw K H (.ref a) (.tuple ds)
inductive mS(K:PySem.W.Frag)(H:Hp):List V→List WData→Prop
 |nil:mS K H [] []
 |cons {v:V} {vs:List V} {d:WData} {ds:List WData}:Dw K H v d→mS K H vs ds→mS K H (v::vs) (d::ds)
end
theorem Ep{K:PySem.W.Frag}{H:Hp}:∀ns:List Int,mS K H (ns.map V.int) (ns.map WData.int)
 |[]=>.nil
 |n::r=>.cons (.int n) (Ep r)
theorem Ej{K:PySem.W.Frag}{H:Hp}:∀(ns:List Int) (xs:List V),mS K H xs (ns.map WData.int)→xs=ns.map V.int
 |[],xs,h=>by
  cases h
  rfl
 |n::r,xs,h=>by
  cases h with
  |cons h1 h2=>
   cases h1
   rw[Ej r _ h2]<;>rfl
section
variable{P:Program}{w:World}{K:PySem.W.Frag}{H:Hp}{h:Heap}{R:PySem.W.WRecords}{cl:Str→Option Addr}
theorem LA{a:Addr}{xs:List V}(hok:su P w H h)(KX:K.In h)(q:dY K H a xs):∃(its:List Value) (o:Obj) (n:Nat),Vals xs its∧h.get? a=some o∧o.cls=.type "list"∧o.data=.seq its.toArray n:=by
 rcases q with q|⟨o,its,n,e,hc,_,hd,_,hv⟩
 ·obtain⟨_,its,n,hv,e⟩:=(show j6 P w H h a (.lst xs)from q.ok hok)
  exact⟨its,_,n,hv,e,rfl,rfl⟩
 ·exact⟨its.toList,o,n,hv,KX _ _ e,hc,by simp[hd]⟩
theorem Lz{a:Addr}{xs:List V}(hok:su P w H h)(KX:K.In h)(q:jF K H a xs):∃(its:List Value) (o:Obj) (n:Nat),Vals xs its∧h.get? a=some o∧o.cls=.type "tuple"∧o.data=.seq its.toArray n:=by
 rcases q with q|⟨o,its,n,e,hc,hd,_,hv⟩
 ·obtain⟨_,its,hv,o,e,hc,n,hd⟩:=(show j6 P w H h a (.tup xs)from q.ok hok)
  exact⟨its,o,n,hv,e,hc,hd⟩
 ·exact⟨its.toList,o,n,hv,KX _ _ e,hc,by simp[hd]⟩
mutual
theorem Dw.reads(hok:su P w H h)(KX:K.In h):∀(d:WData) (v:V) (u:Value),Dw K H v d→RelV v u→∃as,ReadsW R cl h u d as
 |.none,_,_,x,r=>by
  cases x
  cases r
  exact⟨_,ReadsW.none⟩
 |.bool b,_,_,x,r=>by
  cases x
  cases r
  exact⟨_,ReadsW.bool b⟩
 |.int i,_,_,x,r=>by
  cases x
  obtain⟨t,rfl⟩:=r
  exact⟨_,ReadsW.int i t⟩
 |.str s,_,_,x,r=>by
  cases x
  obtain⟨t,rfl⟩:=r
  exact⟨_,ReadsW.str s t⟩
 |.bytes b,_,_,x,r=>by
  cases x
  obtain⟨t,rfl⟩:=r
  exact⟨_,ReadsW.bytes _ t⟩
 |.list ds,_,_,x,r=>by
  cases x with
  |lst hs ha=>
   cases r
   obtain⟨its,o,n,rv,ho,hc,hd⟩:=LA hok KX hs
   obtain⟨as,hr⟩:=Dw.readsAll hok KX ds _ its ha rv
   exact⟨_,ReadsW.list ho hc hd hr⟩
 |.tuple ds,_,_,x,r=>by
  cases x with
  |tup hs ha=>
   cases r
   obtain⟨its,o,n,rv,ho,hc,hd⟩:=Lz hok KX hs
   obtain⟨as,hr⟩:=Dw.readsAll hok KX ds _ its ha rv
   exact⟨_,ReadsW.tuple ho hc hd hr⟩
 |.float _,_,_,x,_=>by cases x
 |.dict _,_,_,x,_=>by cases x
 |.bytearray _,_,_,x,_=>by cases x
 |.set _,_,_,x,_=>by cases x
 |.frozenset _,_,_,x,_=>by cases x
 |.obj _ _,_,_,x,_=>by cases x
theorem Dw.readsAll(hok:su P w H h)(KX:K.In h):∀(ds:List WData) (vs:List V) (us:List Value),mS K H vs ds→Vals vs us→∃as,ReadsAllW R cl h us ds as
 |[],_,_,x,r=>by
  cases x
  cases r
  exact⟨_,ReadsAllW.nil⟩
 |d::ds,_,_,x,r=>by
  cases x with
  |cons h1 h2=>
   cases r with
   |cons r1 r2=>
    obtain⟨as,q1⟩:=Dw.reads hok KX d _ _ h1 r1
    obtain⟨bs,q2⟩:=Dw.readsAll hok KX ds _ _ h2 r2
    exact⟨_,ReadsAllW.cons q1 q2⟩
end
end
mutual
def DX:WData→Bool
 |.none=>true
 |.bool _=>true
 |.int _=>true
 |.str _=>true
 |.bytes _=>true
 |.list xs=>uB xs
 |.tuple xs=>uB xs
 |_=>false
def uB:List WData→Bool
 |[]=>true
 |x::r=>DX x&&uB r
end
theorem Bq{α:Type}{f:α→WData}(h:∀a,DX (f a)=true):∀l:List α,uB (l.map f)=true
 |[]=>rfl
 |x::r=>by
  show(DX (f x)&&uB (r.map f))=true
  rw[h x,Bq h r]<;>rfl
theorem nM:∀(c:Codec) (a:c.denote),DX (c.enc a)=true
 |.unit,_=>rfl
 |.bool,_=>rfl
 |.int _ _,_=>rfl
 |.nat _ _,_=>rfl
 |.u8,_=>rfl
 |.bytes _ _,_=>rfl
 |.text _ _ _ _,_=>rfl
 |.list _ _ c,a=>Bq (fun x=>nM c x) a
 |.pair c d,a=>by
  show(DX (c.enc a.1)&&(DX (d.enc a.2)&&true))=true
  rw[nM c a.1,nM d a.2]<;>rfl
 |.triple c d e,a=>by
  show(DX (c.enc a.1)&&(DX (d.enc a.2.1)&&(DX (e.enc a.2.2)&&true)))=true
  rw[nM c a.1,nM d a.2.1,nM e a.2.2]<;>rfl
 |.option c,none=>rfl
 |.option c,some x=>nM c x
theorem yD:∀(cs:List Codec) (a:Codec.denoteAll cs),uB (Codec.encAll cs a)=true
 |[],_=>rfl
 |c::cs,a=>by
  show(DX (c.enc a.1)&&uB (Codec.encAll cs a.2))=true
  rw[nM c a.1,yD cs a.2]<;>rfl
theorem qd:∀{xs:List WData} {d:WData},d∈xs→d.weight≤WData.weightAll xs
 |[],d,h=>absurd h (by simp)
 |x::r,d,h=>by
  show d.weight≤x.weight+1+WData.weightAll r
  rcases List.mem_cons.mp h with e|m
  ·rw[e]
   lia
  ·have z:=qd m
   lia
def toV:Value→V
 |.none=>.gh
 |.bool b=>.bl b
 |.int i _=>.int i
 |.str x _=>.str x
 |.bytes b _=>.yX b
 |.ref a=>.ref a
 |_=>.gh
def Gi(A:List Addr):Value→Prop
 |.none=>True
 |.bool _=>True
 |.int _ _=>True
 |.str _ _=>True
 |.bytes _ _=>True
 |.ref a=>a∈A
 |_=>False
theorem Gi.mono{A B:List Addr}(h:∀a∈A,a∈B):∀{u:Value},Gi A u→Gi B u:=fun{u} x=>by
 cases u with
 |ref a=>exact h a x
 |none=>trivial
 |bool b=>trivial
 |int i t=>trivial
 |str s t=>trivial
 |bytes b t=>trivial
 |_=>exact False.elim x
theorem Hl{A:List Addr}{u:Value}(x:Gi A u):RelV (toV u) u:=by
 cases u with
 |ref a=>rfl
 |none=>rfl
 |bool b=>rfl
 |int i t=>exact⟨t,rfl⟩
 |str s t=>exact⟨t,rfl⟩
 |bytes b t=>exact⟨t,rfl⟩
 |_=>exact False.elim x
theorem kW{A:List Addr}:∀{vs:List Value},(∀u∈vs,Gi A u)→Vals (vs.map toV) vs
 |[],_=>.nil
 |u::r,h=>.cons (Hl (h u (List.mem_cons_self ..))) (kW fun x hx=>h x (List.mem_cons_of_mem _ hx))
def mT(h:Heap)(A:List Addr)(a:Addr):Prop:=∃vs:List Value,vs.length≤sizeLine∧(∀u∈vs,Gi A u)∧
 (h.get? a=some {cls:=.type "list",data:=.seq vs.toArray}∨h.get? a=some {cls:=.type "tuple",data:=.seq vs.toArray})
theorem mT.mono{h:Heap}{A B:List Addr}{a:Addr}(k:∀a∈A,a∈B)(x:mT h A a):mT h B a:=by
 obtain⟨vs,h1,h2,h3⟩:=x
 exact⟨vs,h1,fun u hu=>(h2 u hu).mono k,h3⟩
theorem j9{P:Params}{h:Heap}:∀{vs:List Value} {ds:List WData},WellAll P h vs ds→vs.length=ds.length
 |_,_,.nil=>rfl
 |_,_,.cons _ b=>by
  show _+1=_+1
  rw[j9 b]
theorem ya{P:Params}{h:Heap}{v:Value}{ds:List WData}(x:Well P h v (.list ds)):∃(a:Addr) (vs:List Value),v=.ref a∧h.get? a=some {cls:=.type "list",data:=.seq vs.toArray}∧WellAll P h vs ds:=by
 cases x with
 |list ho hall=>exact⟨_,_,rfl,ho,hall⟩
theorem vf{P:Params}{h:Heap}{v:Value}{ds:List WData}(x:Well P h v (.tuple ds)):∃(a:Addr) (vs:List Value),v=.ref a∧h.get? a=some {cls:=.type "tuple",data:=.seq vs.toArray}∧WellAll P h vs ds:=by
 cases x with
 |tuple ho hall=>exact⟨_,_,rfl,ho,hall⟩
theorem yb{P:Params}{h:Heap}{us:List Value}{d:WData}{ds:List WData}(x:WellAll P h us (d::ds)):∃(v:Value) (vs:List Value),us=v::vs∧Well P h v d∧WellAll P h vs ds:=by
 cases x with
 |cons a b=>exact⟨_,_,rfl,a,b⟩
theorem uW{n:Nat}(h:n≤1048576):n≤sizeLine:=Nat.le_trans h (by decide)
section
variable{P:Params}{h:Heap}
mutual
theorem IY:∀(d:WData) (v:Value),Well P h v d→DX d=true→d.weight≤1048576→∃A:List Addr,Gi A v∧∀a∈A,mT h A a
 |.none,_,x,_,_=>by
  cases x
  exact⟨[],trivial,fun a m=>absurd m (by simp)⟩
 |.bool b,_,x,_,_=>by
  cases x
  exact⟨[],trivial,fun a m=>absurd m (by simp)⟩
 |.int i,_,x,_,_=>by
  cases x
  exact⟨[],trivial,fun a m=>absurd m (by simp)⟩
 |.str s,_,x,_,_=>by
  cases x
  exact⟨[],trivial,fun a m=>absurd m (by simp)⟩
 |.bytes b,_,x,_,_=>by
  cases x
  exact⟨[],trivial,fun a m=>absurd m (by simp)⟩
 |.list ds,_,x,p,z=>by
  obtain⟨a,vs,rfl,ho,hall⟩:=ya x
  have z2:WData.weightAll ds≤1048576:=z
  obtain⟨A,h1,h2⟩:=r9 ds _ hall p fun d hd=>Nat.le_trans (qd hd) z2
  have k:∀b∈A,b∈a::A:=fun b hb=>List.mem_cons_of_mem _ hb
  refine⟨a::A,List.mem_cons_self ..,fun b hb=>?_⟩
  rcases List.mem_cons.mp hb with e|m
  ·rw[e]
   exact⟨vs,uW (by rw[j9 hall];exact Nat.le_trans (PySem.W.length_le_weightAllW ds) z2),fun u hu=>(h1 u hu).mono k,.inl ho⟩
  ·exact(h2 b m).mono k
 |.tuple ds,_,x,p,z=>by
  obtain⟨a,vs,rfl,ho,hall⟩:=vf x
  have z2:WData.weightAll ds≤1048576:=z
  obtain⟨A,h1,h2⟩:=r9 ds _ hall p fun d hd=>Nat.le_trans (qd hd) z2
  have k:∀b∈A,b∈a::A:=fun b hb=>List.mem_cons_of_mem _ hb
  refine⟨a::A,List.mem_cons_self ..,fun b hb=>?_⟩
  rcases List.mem_cons.mp hb with e|m
  ·rw[e]
   exact⟨vs,uW (by rw[j9 hall];exact Nat.le_trans (PySem.W.length_le_weightAllW ds) z2),fun u hu=>(h1 u hu).mono k,.inr ho⟩
  ·exact(h2 b m).mono k
 |.float _,_,_,p,_=>Bool.noConfusion (show false=true from p)
 |.dict _,_,_,p,_=>Bool.noConfusion (show false=true from p)
 |.bytearray _,_,_,p,_=>Bool.noConfusion (show false=true from p)
 |.set _,_,_,p,_=>Bool.noConfusion (show false=true from p)
 |.frozenset _,_,_,p,_=>Bool.noConfusion (show false=true from p)
 |.obj _ _,_,_,p,_=>Bool.noConfusion (show false=true from p)
theorem r9:∀(ds:List WData) (vs:List Value),WellAll P h vs ds→uB ds=true→(∀d∈ds,d.weight≤1048576)→∃A:List Addr,(∀u∈vs,Gi A u)∧∀a∈A,mT h A a
 |[],_,x,_,_=>by
  cases x
  exact⟨[],fun u m=>absurd m (by simp),fun a m=>absurd m (by simp)⟩
 |d::ds,_,x,p,z=>by
  obtain⟨v,vs,rfl,x1,x2⟩:=yb x
  have q:DX d=true∧uB ds=true:=Bool.and_eq_true_iff.mp p
  obtain⟨A,a1,a2⟩:=IY d v x1 q.1 (z d (List.mem_cons_self ..))
  obtain⟨B,b1,b2⟩:=r9 ds vs x2 q.2 fun e he=>z e (List.mem_cons_of_mem _ he)
  have kA:∀b∈A,b∈A++B:=fun b hb=>List.mem_append.mpr (.inl hb)
  have kB:∀b∈B,b∈A++B:=fun b hb=>List.mem_append.mpr (.inr hb)
  refine⟨A++B,fun u hu=>?_,fun b hb=>?_⟩
  ·rcases List.mem_cons.mp hu with e|m
   ·rw[e]
    exact a1.mono kA
   ·exact(b1 u m).mono kB
  ·rcases List.mem_append.mp hb with m|m
   ·exact(a2 b m).mono kA
   ·exact(b2 b m).mono kB
end
end
def Kl(o:Obj):Option HO:=match o.data with
 |.seq vs _=>if(o.cls==Value.type "list")=true then some (.Al o (.lst (vs.toList.map toV)))else some (.Al o (.tup (vs.toList.map toV)))
 |_=>none
def mE(K:PySem.W.Frag)(h:Heap)(A:List Addr):Hp:=fun b=>if b∈A then(if(K.lookup b).isNone=true then(h.get? b).bind Kl else none)else none
def B3(H:Hp):Prop:=∀b,H b=none∨∃o u,H b=some (.Al o u)
theorem BN(vs:List Value):Kl {cls:=.type "list",data:=.seq vs.toArray}=some (.Al {cls:=.type "list",data:=.seq vs.toArray} (.lst (vs.map toV))):=by
 show(if(Value.type "list"==Value.type "list")=true then some (HO.Al {cls:=.type "list",data:=.seq vs.toArray} (.lst (vs.toArray.toList.map toV)))else some (HO.Al {cls:=.type "list",data:=.seq vs.toArray} (.tup (vs.toArray.toList.map toV))))=_
 rw[if_pos (beq_self_eq_true _)]
theorem BL(vs:List Value):Kl {cls:=.type "tuple",data:=.seq vs.toArray}=some (.Al {cls:=.type "tuple",data:=.seq vs.toArray} (.tup (vs.map toV))):=by
 show(if(Value.type "tuple"==Value.type "list")=true then some (HO.Al {cls:=.type "tuple",data:=.seq vs.toArray} (.lst (vs.toArray.toList.map toV)))else some (HO.Al {cls:=.type "tuple",data:=.seq vs.toArray} (.tup (vs.toArray.toList.map toV))))=_
 rw[if_neg (by decide)]
section
variable{P:Program}{w:World}{K:PySem.W.Frag}{h:Heap}{A:List Addr}
theorem u6{b:Addr}{o:Obj}(hb:b∈A)(hk:K.lookup b=none)(e:h.get? b=some o):mE K h A b=Kl o:=by
 unfold mE
 rw[if_pos hb,hk,if_pos (show(none:Option Obj).isNone=true from rfl),e]<;>rfl
theorem J8{b:Addr}{u:HO}(q:mE K h A b=some u):b∈A∧K.lookup b=none:=by
 unfold mE at q
 by_cases hb:b∈A
 ·rw[if_pos hb]at q
  cases hk:K.lookup b with
  |none=>exact⟨hb,rfl⟩
  |some o=>
   rw[hk,if_neg (by simp)]at q
   cases q
 ·rw[if_neg hb]at q
  cases q
theorem uZ(ar:∀a∈A,mT h A a){b:Addr}{u:HO}(q:mE K h A b=some u):K.lookup b=none∧∃vs:List Value,vs.length≤sizeLine∧(∀u∈vs,Gi A u)∧
  ((h.get? b=some {cls:=.type "list",data:=.seq vs.toArray}∧u=.Al {cls:=.type "list",data:=.seq vs.toArray} (.lst (vs.map toV)))∨
   (h.get? b=some {cls:=.type "tuple",data:=.seq vs.toArray}∧u=.Al {cls:=.type "tuple",data:=.seq vs.toArray} (.tup (vs.map toV)))):=by
 obtain⟨hb,hk⟩:=J8 q
 obtain⟨vs,h1,h2,h3⟩:=ar b hb
 refine⟨hk,vs,h1,h2,?_⟩
 rcases h3 with e|e
 ·rw[u6 hb hk e,BN]at q
  exact .inl ⟨e,(Option.some.inj q).symm⟩
 ·rw[u6 hb hk e,BL]at q
  exact .inr ⟨e,(Option.some.inj q).symm⟩
theorem Ge(ar:∀a∈A,mT h A a):B3 (mE K h A):=fun b=>by
 cases q:mE K h A b with
 |none=>exact .inl rfl
 |some u=>
  obtain⟨_,vs,_,_,⟨_,e⟩|⟨_,e⟩⟩:=uZ ar q
  ·exact .inr ⟨_,_,by rw[e]⟩
  ·exact .inr ⟨_,_,by rw[e]⟩
theorem Kw(ar:∀a∈A,mT h A a):su P w (mE K h A) h:=fun b u q=>by
 obtain⟨_,vs,h1,h2,⟨e,rfl⟩|⟨e,rfl⟩⟩:=uZ ar q
 ·exact⟨e,by rw[List.length_map];exact h1,vs,_,kW h2,e⟩
 ·exact⟨e,by rw[List.length_map];exact h1,vs,kW h2,_,e,rfl,_,rfl⟩
theorem uM{c c':Value}{vs us:List Value}(e:(some {cls:=c,data:=.seq vs.toArray}:Option Obj)=some {cls:=c',data:=.seq us.toArray}):c=c'∧vs=us:=by
 have e1:=Option.some.inj e
 have e2:c=c':=congrArg Obj.cls e1
 have e3:Data.seq vs.toArray=Data.seq us.toArray:=congrArg Obj.data e1
 injection e3 with e4
 refine⟨e2,?_⟩
 have e5:=congrArg Array.toList e4
 simpa using e5
theorem N4(KX:K.In h)(ar:∀a∈A,mT h A a){a:Addr}{vs:List Value}(ha:a∈A)(e:h.get? a=some {cls:=.type "list",data:=.seq vs.toArray}):(∀u∈vs,Gi A u)∧dY K (mE K h A) a (vs.map toV):=by
 obtain⟨us,h1,h2,h3⟩:=ar a ha
 have hu:us=vs:=by
  rcases h3 with q|q
  ·rw[e]at q
   exact(uM q).2.symm
  ·rw[e]at q
   exact absurd (Value.type.inj (uM q).1) (by decide)
 subst hu
 refine⟨h2,?_⟩
 cases hk:K.lookup a with
 |none=>exact .inl (.inr ⟨_,by rw[u6 ha hk e,BN]⟩)
 |some o=>
  have e2:=KX a o hk
  rw[e]at e2
  obtain rfl:=Option.some.inj e2
  exact .inr ⟨_,us.toArray,_,hk,rfl,rfl,rfl,by rw[List.size_toArray];exact h1,by simpa using kW h2⟩
theorem N3(KX:K.In h)(ar:∀a∈A,mT h A a){a:Addr}{vs:List Value}(ha:a∈A)(e:h.get? a=some {cls:=.type "tuple",data:=.seq vs.toArray}):(∀u∈vs,Gi A u)∧jF K (mE K h A) a (vs.map toV):=by
 obtain⟨us,h1,h2,h3⟩:=ar a ha
 have hu:us=vs:=by
  rcases h3 with q|q
  ·rw[e]at q
   exact absurd (Value.type.inj (uM q).1) (by decide)
  ·rw[e]at q
   exact(uM q).2.symm
 subst hu
 refine⟨h2,?_⟩
 cases hk:K.lookup a with
 |none=>exact .inl (.inr ⟨_,by rw[u6 ha hk e,BL]⟩)
 |some o=>
  have e2:=KX a o hk
  rw[e]at e2
  obtain rfl:=Option.some.inj e2
  exact .inr ⟨_,us.toArray,_,hk,rfl,rfl,by rw[List.size_toArray];exact h1,by simpa using kW h2⟩
mutual
theorem Mc{Pm:Params}(KX:K.In h)(ar:∀a∈A,mT h A a):∀(d:WData) (v:Value),Well Pm h v d→DX d=true→Gi A v→Dw K (mE K h A) (toV v) d
 |.none,_,x,_,_=>by
  cases x
  exact .gh
 |.bool b,_,x,_,_=>by
  cases x
  exact .bl b
 |.int i,_,x,_,_=>by
  cases x
  exact .int i
 |.str s,_,x,_,_=>by
  cases x
  exact .str s
 |.bytes b,_,x,_,_=>by
  cases x
  have z:=Dw.yX (K:=K) (H:=mE K h A) b.toArray
  exact z
 |.list ds,_,x,p,hu=>by
  obtain⟨a,vs,rfl,ho,hall⟩:=ya x
  obtain⟨h2,hs⟩:=N4 KX ar hu ho
  exact .lst hs (Am KX ar ds _ hall p h2)
 |.tuple ds,_,x,p,hu=>by
  obtain⟨a,vs,rfl,ho,hall⟩:=vf x
  obtain⟨h2,hs⟩:=N3 KX ar hu ho
  exact .tup hs (Am KX ar ds _ hall p h2)
 |.float _,_,_,p,_=>Bool.noConfusion (show false=true from p)
 |.dict _,_,_,p,_=>Bool.noConfusion (show false=true from p)
 |.bytearray _,_,_,p,_=>Bool.noConfusion (show false=true from p)
 |.set _,_,_,p,_=>Bool.noConfusion (show false=true from p)
 |.frozenset _,_,_,p,_=>Bool.noConfusion (show false=true from p)
 |.obj _ _,_,_,p,_=>Bool.noConfusion (show false=true from p)
theorem Am{Pm:Params}(KX:K.In h)(ar:∀a∈A,mT h A a):∀(ds:List WData) (vs:List Value),WellAll Pm h vs ds→uB ds=true→(∀u∈vs,Gi A u)→mS K (mE K h A) (vs.map toV) ds
 |[],_,x,_,_=>by
  cases x
  exact .nil
 |d::ds,_,x,p,hu=>by
  obtain⟨v,vs,rfl,x1,x2⟩:=yb x
  have q:DX d=true∧uB ds=true:=Bool.and_eq_true_iff.mp p
  exact .cons (Mc KX ar d v x1 q.1 (hu _ (List.mem_cons_self ..))) (Am KX ar ds vs x2 q.2 fun u m=>hu u (List.mem_cons_of_mem _ m))
end
end
theorem EW{P:Program}{w:World}{K:PySem.W.Frag}{mg mb:Str→Option Value}{CX:Gm}{k:Nat}{fa:Addr}{fd:FuncData}{ps:List Str}{sp:Sp}{s₁:Shared}{vals:List Value}{ds:List WData}{R:PySem.W.WRecords}{cl:Str→Option Addr}{d0:WData}
  (KX:K.In s₁.heap)(hns:s₁.heap.Ns mainGlobals mg)(hb:s₁.heap.Ns builtinsNs mb)(hbb:∀x:Str,x≠"__name__"→mb x=bootBuiltins x)(hlim:s₁.heap.NoLimit)(hg:s₁.gens=#[])
  (hwl:WellAll w.params s₁.heap vals ds)(hpl:uB ds=true)(hwt:∀d∈ds,d.weight≤1048576)(hr:iN k callerA)
  (F:∀base:Heap,K.In base→base.Ns mainGlobals mg→cA P w K mg base CX k fa fd ps sp)(hbind:∀(s:Shared) (us:List Value),us.length=ps.length→BindsTo s fd ⟨us,[]⟩ (ps.zip us))(hlen:ds.length=ps.length)
  (hsp:∀(H:Hp) (xs:List V),B3 H→mS K H xs ds→sp xs H (fun v H'=>Dw K H' v d0) fun _ _ _=>False)
  (hCX:∀H e s',CX [] H s₁ (fun _ _ _=>False) e s'→False):
  codeAny (model P w) callerA (.call (.ref fa) ⟨vals,[]⟩) (fun r s'=>∃u as,r=.ok (.ret u)∧ReadsW R cl s'.heap u d0 as∧OldK s₁.heap s'.heap∧s'.os=s₁.os∧AllBare s'.gens) s₁:=by
 obtain⟨A,ho,ar⟩:=r9 ds vals hwl hpl hwt
 have hO:B3 (mE K s₁.heap A):=Ge ar
 have hok:su P w (mE K s₁.heap A) s₁.heap:=Kw ar
 have hS:=Am KX ar ds vals hwl hpl ho
 have hV:=kW ho
 have hK:∀b u,mE K s₁.heap A b=some u→K.lookup b=none:=fun b u q=>(uZ ar q).1
 have noA:∀{b:Addr} {o:Obj} {es:Array DictEntry} {ep:Nat},s₁.heap.get? b=some o→o.data=.dict es ep→mE K s₁.heap A b=none:=fun{b o es ep} e d=>by
  cases q:mE K s₁.heap A b with
  |none=>rfl
  |some u=>
   obtain⟨_,vs,_,_,⟨e2,_⟩|⟨e2,_⟩⟩:=uZ ar q
   ·rw[e2]at e
    cases e
    have d':Data.seq vs.toArray _=Data.dict es ep:=d
    cases d'
   ·rw[e2]at e
    cases e
    have d':Data.seq vs.toArray _=Data.dict es ep:=d
    cases d'
 generalize mE K s₁.heap A=H at hO hok hS hK noA
 have base_of:∀{b:Addr} {o:Obj},s₁.heap.get? b=some o→H b=none→(Ai s₁.heap H).get? b=some o:=fun e n=>Iu e n
 have nsK:∀{b:Addr} {m:Str→Option Value},s₁.heap.Ns b m→(Ai s₁.heap H).Ns b m:=fun{b m} ⟨o,es,ep,e,d,r⟩=>⟨o,es,ep,base_of e (noA e d),d,r⟩
 have nK:∀b o,K.lookup b=some o→H b=none:=fun b o e=>by
  cases q:H b with
  |none=>rfl
  |some u=>
   rw[hK b u q]at e
   cases e
 have hKb:K.In (Ai s₁.heap H):=fun b o e=>base_of (KX b o e) (nK b o e)
 have hM:Mod K mg (Ai s₁.heap H):=⟨hKb,nsK hns,⟨mb,nsK hb,hbb⟩,let⟨mc,h1,h2⟩:=hlim;⟨mc,nsK h1,h2⟩⟩
 have e0:Dp P w K mg (Ai s₁.heap H) callerA [] s₁ H:=⟨rfl,hM,fun b o e=>J7 e,Nat.le_of_eq (FY _ _),trivial,fun b hb=>absurd (show b∈([]:List Addr)from hb) (by simp),hok,.of_eq hg⟩
 have hl:vals.length=ps.length:=by rw[j9 hwl];exact hlen
 refine codeAny_mono ((F _ hKb (nsK hns)).run callerA [] s₁ H ⟨vals,[]⟩ vals (vals.map toV) _ _ hr e0 (hbind s₁ vals hl) hV (hsp H _ hO hS)) fun r s' x=>?_
 cases r with
 |error e=>exact(hCX H e s' x).elim
 |ok fl=>
  cases fl with
  |next=>exact False.elim x
  |brk=>exact False.elim x
  |cont=>exact False.elim x
  |ret u=>
   obtain⟨v,H',os,bare,un,hok',r',q⟩:=x
   have kept:∀b o,s₁.heap.get? b=some o→s'.heap.get? b=some o:=fun b o e=>by
    cases q2:H b with
    |none=>exact un.keep b o e q2 (by intro z;exact absurd (show b∈([]:List Addr)from z) (by simp)) (by simp)
    |some u2=>
     rcases hO b with z|⟨ob,u3,z⟩
     ·rw[q2]at z
      cases z
     ·have z2:=un.Ak b ob _ z
      obtain⟨e1,_⟩:=hok b _ z
      obtain⟨e2,_⟩:=hok' b _ z2
      rw[e]at e1
      cases e1
      exact e2
   have KX':K.In s'.heap:=fun b o e=>kept b o (KX b o e)
   obtain⟨as,hrd⟩:=Dw.reads (R:=R) (cl:=cl) hok' KX' d0 v u q r'
   exact⟨u,as,rfl,hrd,OldK.of_keep kept,os,bare⟩
theorem w9{ds:List WData}(h:WData.layableAll ds=true):∀d∈ds,d.weight≤1048576:=fun d hd=>
 (PySem.W.layableW_iff.mp (List.all_eq_true.mp h d hd)).2.2
theorem xA:∀(cs:List Codec) (a:Codec.denoteAll cs),(Codec.encAll cs a).length=cs.length
 |[],_=>rfl
 |c::cs,a=>by
  show(Codec.encAll cs a.2).length+1=cs.length+1
  rw[xA cs a.2]
theorem EH{r:OpenSpec}{k:Nat}{q:Program}{loose:List Str}{XP:(Str→Option Value)→Heap→Prop}{YP:World→Heap→Prop}{d:DefRec}{K:Params→PySem.W.Frag}{CX:World→Gm}{ps:List Str}{sp:World→Sp}
  (hwell:r.wellSaid=true)(hdf:d.params.defaults=[])(hlen:r.args.length=ps.length)(hr:iN k callerA)
  (hY:∀(w:World) (h:Heap),YP w h→(K w.params).In h)
  (F:∀(w:World) (mg:Str→Option Value) (fa:Addr) (h:Heap),YP w h→(K w.params).In h→h.Ns mainGlobals mg→mg d.name=some (.ref fa)→
   ∃fd:FuncData,(∀(s:Shared) (us:List Value),us.length=ps.length→BindsTo s fd ⟨us,[]⟩ (ps.zip us))∧
    ∀base:Heap,(K w.params).In base→base.Ns mainGlobals mg→cA r.prog w (K w.params) mg base (CX w) k fa fd ps (sp w))
  (hsp:∀(w:World) (H:Hp) (xs:List V) (a:Codec.denoteAll r.args),B3 H→Codec.withinAll r.args a=true→Codec.app r.args r.asked a=true→mS (K w.params) H xs (Codec.encAll r.args a)→
   sp w xs H (fun v H'=>Dw (K w.params) H' v (r.ret.enc (Codec.app r.args r.f a))) fun _ _ _=>False)
  (hCX:∀(w:World) (H:Hp) (s:Shared) (e:Value) (s':Shared),CX w [] H s (fun _ _ _=>False) e s'→False):
  PySem.W.WalkOS q loose XP YP r d [] (fun f vs=>PySem.call f vs):=by
 intro w yu s₁ mg mb G Y fa o pm cd doc dV kV ho hd hcd hD hmg hg args vals as hpre hlay hrd hwl hlo
 obtain⟨a,e1,e2⟩:=PySem.W.os_pre_some hpre
 obtain⟨e3,hwi⟩:=Codec.encAll_of_decAll r.args args a e1
 subst e3
 have KX:=hY w _ Y
 obtain⟨fd,hb,hF⟩:=F w mg fa _ Y KX G.T.g hmg
 refine PySem.W.enter_call (codeAny_mono (EW (R:=[]) (cl:=classAt yu.heap) (d0:=r.ret.enc (Codec.app r.args r.f a)) KX G.T.g G.T.b G.T.builtins G.T.nolimit hg hwl (yD _ _) (w9 hlay) hr hF hb (by rw[xA];exact hlen)
  (fun H xs hO hS=>hsp w H xs a hO hwi e2 hS) fun H e s'=>hCX w H s₁ e s') fun r' s' hq=>?_)
 obtain⟨u,as',rfl,h1,h2,h3,h4⟩:=hq
 exact⟨.inl ⟨u,_,as',rfl,fun _=>rfl,h1,(OpenSpec.post_iff hwell hwi _ _).mpr rfl,fun z=>Bool.noConfusion (show false=true from z)⟩,h2,h3,h4⟩
theorem B9{r:OpenSpec}{k:Nat}{q:Program}{loose:List Str}{XP:(Str→Option Value)→Heap→Prop}{YP:World→Heap→Prop}{d:DefRec}{K:Params→PySem.W.Frag}{CX:Gm}{ps:List Str}{sp:PySem.W.Frag→Sp}
  (hwell:r.wellSaid=true)(hdf:d.params.defaults=[])(hlen:r.args.length=ps.length)(hr:iN k callerA)
  (hY:∀(w:World) (h:Heap),YP w h→(K w.params).In h)
  (F:∀(w:World) (mg:Str→Option Value) (fa:Addr) (h:Heap),YP w h→(K w.params).In h→h.Ns mainGlobals mg→mg d.name=some (.ref fa)→
   ∃fd:FuncData,(∀(s:Shared) (us:List Value),us.length=ps.length→BindsTo s fd ⟨us,[]⟩ (ps.zip us))∧
    ∀base:Heap,(K w.params).In base→base.Ns mainGlobals mg→cA r.prog w (K w.params) mg base CX k fa fd ps (sp (K w.params)))
  (hsp:∀(K:PySem.W.Frag) (H:Hp) (xs:List V) (a:Codec.denoteAll r.args),B3 H→Codec.withinAll r.args a=true→Codec.app r.args r.asked a=true→mS K H xs (Codec.encAll r.args a)→
   sp K xs H (fun v H'=>Dw K H' v (r.ret.enc (Codec.app r.args r.f a))) fun _ _ _=>False)
  (hCX:∀(H:Hp) (s:Shared) (e:Value) (s':Shared),CX [] H s (fun _ _ _=>False) e s'→False):
  PySem.W.WalkOS q loose XP YP r d [] (fun f vs=>PySem.call f vs):=
 EH (K:=K) (CX:=fun _=>CX) (sp:=fun w=>sp (K w.params)) hwell hdf hlen hr hY F (fun w H xs a h1 h2 h3 h4=>hsp (K w.params) H xs a h1 h2 h3 h4) fun _ H s e s'=>hCX H s e s'
end L2
end
noncomputable section
namespace TB
open PySem PySem.Spec PyProof.Rows L2
def bJ(i:Nat):Stmt:=PySem.Challenge.pw_tidelocks_s01_answers.main.body.getD i (.Pass ⟨0,0,0,0⟩)
def eO(K:PySem.W.Frag)(a:Addr)(xs:List V):Prop:=∃(o:Obj) (its:Array Value) (n:Nat),K.lookup a=some o∧o.cls=.type "tuple"∧o.data=.seq its n∧its.size≤sizeLine∧Vals xs its.toList
abbrev DE:=Int×Tok×Value×V
def Kr(q:DE):DictEntry:=⟨hashInt q.1,.int q.1 q.2.1,q.2.2.1⟩
theorem ur{P:Program}{w:World}:∀l:List DE,Pairs (iV P w) (l.map Kr) (l.map fun q=>((Sum.inl q.1:Key),q.2.2.1))
 |[]=>.nil
 |q::l=>.cons (nV P w q.1 q.2.1) rfl (ur l)
theorem BQ:∀l:List DE,(∀q∈l,RelV q.2.2.2 q.2.2.1)→KV (l.map fun q=>((Sum.inl q.1:Key),q.2.2.2)) (l.map fun q=>((Sum.inl q.1:Key),q.2.2.1))
 |[],_=>.nil
 |q::l,h=>.cons ⟨rfl,h q List.mem_cons_self⟩ (BQ l fun x hx=>h x (List.mem_cons_of_mem _ hx))
theorem yM:∀l:List DE,(l.map (·.1)).Nodup→((l.map fun q=>((Sum.inl q.1:Key),q.2.2.1)).map (·.1)).Nodup
 |[],_=>by simp
 |q::l,h=>by
  rw[List.map_cons,List.nodup_cons]at h
  rw[List.map_cons,List.map_cons,List.nodup_cons]
  refine⟨?_,yM l h.2⟩
  intro z
  apply h.1
  obtain⟨x,hx,e⟩:=List.mem_map.mp z
  obtain⟨y,hy,e2⟩:=List.mem_map.mp hx
  subst e2
  have:y.1=q.1:=Sum.inl.inj e
  rw[←this]
  exact List.mem_map.mpr ⟨y,hy,rfl⟩
def GD(P:Program)(w:World)(K:PySem.W.Frag)(a:Addr)(kvs:List (Key×V)):Prop:=(a==sysModules)=false∧∃vs,KV kvs vs∧∀h:Heap,K.In h→h.DictOf (iV P w) a vs
def counts:List (Key×V):=[(.inl 0,.int 1),(.inl 2,.int 4),(.inl 3,.int 3),(.inl 4,.int 1),(.inl 5,.int 1),(.inl 7,.int 1),(.inl 8,.int 1),(.inl 9,.int 1),(.inl 10,.int 1),(.inl 11,.int 2),(.inl 12,.int 2),(.inl 13,.int 3),(.inl 14,.int 4),(.inl 15,.int 2),(.inl 16,.int 1),(.inl 17,.int 1),(.inl 18,.int 2),(.inl 19,.int 1),(.inl 20,.int 3)]
def DA(K:PySem.W.Frag):Sp:=fun vs H Q _=>∃(a:Addr) (ns:List Int),vs=[.ref a]∧dY K H a (ns.map V.int)∧PyRb50.answers_asked ns=true∧ns.length≤16000∧∀(H':Hp) (p:Addr),H' p=some (.lst ((PyRb50.answers ns).map V.int))→Q (.ref p) H'
structure br(K:PySem.W.Frag)(x:Str)(st:Stmt)(f:Addr):Prop where
 ns:PySem.W.nsIn K mainGlobals x=some (some (.ref f))
 fn:∃fd,eX K x x st f fd
 kp:PySem.W.keepIn K (.ref f)=true
theorem bK{K:PySem.W.Frag}{x:Str}{st:Stmt}{f:Addr}{oc:Value}{od an:Option Addr}{osl:Array (Option Value)}{kV doc pm cdv ct:Value}(a:PySem.W.nsIn K mainGlobals x=some (some (.ref f)))(l:K.lookup f=some ⟨oc,od,.func (PySem.W.fnOf x x (mC st) (kI st) (aR st) .none kV doc pm an cdv ct),osl⟩)
  (c:PySem.W.codeIn K cdv x=true)(k:PySem.W.keepIn K (.ref f)=true):br K x st f:=⟨a,⟨_,Iw l c k⟩,k⟩
structure lZ(K:PySem.W.Frag)(x:Str)(C:Addr):Prop where
 ns:PySem.W.nsIn K mainGlobals x=some (some (.ref C))
 cls:B4 K C
 Mu:PySem.W.makesIn K C=true
 kc:PySem.W.keepIn K (.ref C)=true
theorem tL{K:PySem.W.Frag}{x:Str}{C:Addr}(a:PySem.W.nsIn K mainGlobals x=some (some (.ref C)))(pg:PySem.W.plainGet K C Str.empty=true)(hd:PySem.W.hasDictIn K C=true)(po:PySem.W.plainOver K C=true)(sa:PySem.W.findIn K (.ref C) "__setattr__"=some (some (.builtin "object.__setattr__")))(mk:PySem.W.makesIn K C=true)(kc:PySem.W.keepIn K (.ref C)=true):lZ K x C:=⟨a,⟨pg,hd,po,sa⟩,mk,kc⟩
structure iP(K:PySem.W.Frag)(C:Addr)(qual:Str)(st:Stmt)(f:Addr):Prop where
 fi:PySem.W.findIn K (.ref C) "__init__"=some (some (.ref f))
 Mv:PySem.W.isFn K (.ref f)=true
 fn:∃fd,eX K "__init__" qual st f fd
theorem pD{K:PySem.W.Frag}{C:Addr}{qual:Str}{st:Stmt}{f:Addr}{oc:Value}{od an:Option Addr}{osl:Array (Option Value)}{kV doc pm cdv ct:Value}(a:PySem.W.findIn K (.ref C) "__init__"=some (some (.ref f)))(i:PySem.W.isFn K (.ref f)=true)(l:K.lookup f=some ⟨oc,od,.func (PySem.W.fnOf "__init__" qual (mC st) (kI st) (aR st) .none kV doc pm an cdv ct),osl⟩)
  (c:PySem.W.codeIn K cdv qual=true)(k:PySem.W.keepIn K (.ref f)=true):iP K C qual st f:=⟨a,i,⟨_,Iw l c k⟩⟩
def dF(K:PySem.W.Frag)(x:Str)(i:Int):Prop:=∃t,PySem.W.nsIn K mainGlobals x=some (some (.int i t))
theorem cV{K:PySem.W.Frag}{x:Str}{i:Int}{t:Tok}(h:PySem.W.nsIn K mainGlobals x=some (some (.int i t))):dF K x i:=⟨t,h⟩
theorem dz{K:PySem.W.Frag}{a:Addr}{o:Obj}{its:Array Value}{n:Nat}{xs:List V}(l:K.lookup a=some o)(c:o.cls=.type "tuple")(d:o.data=.seq its n)(z:its.size≤sizeLine)(v:Vals xs its.toList):eO K a xs:=⟨o,its,n,l,c,d,z,v⟩
theorem La{P:Program}{w:World}{K:PySem.W.Frag}{a:Addr}{o:Obj}{es:Array DictEntry}{ep:Nat}(l:List DE)(hl:K.lookup a=some o)(ho:o={cls:=.type "dict",data:=.dict es ep})(he:es.toList=l.map Kr)(hv:∀q∈l,RelV q.2.2.2 q.2.2.1)(nd:(l.map (·.1)).Nodup)(hs:(a==sysModules)=false):
  GD P w K a (l.map fun q=>((Sum.inl q.1:Key),q.2.2.2)):=by
 subst ho
 refine⟨hs,_,BQ l hv,fun h KX=>⟨_,es,ep,KX a _ hl,⟨rfl,rfl,rfl⟩,rfl,?_,?_,yM l nd⟩⟩
 ·intro e hm
  have hm2:e∈es.toList:=Array.mem_toList_iff.mpr hm
  rw[he]at hm2
  obtain⟨q,_,rfl⟩:=List.mem_map.mp hm2
  exact⟨Sum.inl q.1,nV P w q.1 q.2.1,rfl⟩
 ·rw[he]
  exact ur l
theorem Iv{P:Program}{w:World}{K:PySem.W.Frag}{a:Addr}{o:Obj}{es:Array DictEntry}{ep:Nat}{t0 t1 t2 t3 t4 t5 t7 t8 t9 t10 t11 t12 t13 t14 t15 t16 t17 t18 t19 t20:Tok}{f0 f1 f2 f3 f4 f5 f7 f8 f9 f10 f11 f12 f13 f14 f15 f16 f17 f18 f19 f20:Addr}(hl:K.lookup a=some o)(ho:o={cls:=.type "dict",data:=.dict es ep})(he:es.toList=([(0,t0,.ref f0,.ref f0),(1,t1,.ref f1,.ref f1),(2,t2,.ref f2,.ref f2),(3,t3,.ref f3,.ref f3),(4,t4,.ref f4,.ref f4),(5,t5,.ref f5,.ref f5),(7,t7,.ref f7,.ref f7),(8,t8,.ref f8,.ref f8),(9,t9,.ref f9,.ref f9),(10,t10,.ref f10,.ref f10),(11,t11,.ref f11,.ref f11),(12,t12,.ref f12,.ref f12),(13,t13,.ref f13,.ref f13),(14,t14,.ref f14,.ref f14),(15,t15,.ref f15,.ref f15),(16,t16,.ref f16,.ref f16),(17,t17,.ref f17,.ref f17),(18,t18,.ref f18,.ref f18),(19,t19,.ref f19,.ref f19),(20,t20,.ref f20,.ref f20)]:List DE).map Kr)(hs:(a==sysModules)=false):
  GD P w K a [(.inl 0,.ref f0),(.inl 1,.ref f1),(.inl 2,.ref f2),(.inl 3,.ref f3),(.inl 4,.ref f4),(.inl 5,.ref f5),(.inl 7,.ref f7),(.inl 8,.ref f8),(.inl 9,.ref f9),(.inl 10,.ref f10),(.inl 11,.ref f11),(.inl 12,.ref f12),(.inl 13,.ref f13),(.inl 14,.ref f14),(.inl 15,.ref f15),(.inl 16,.ref f16),(.inl 17,.ref f17),(.inl 18,.ref f18),(.inl 19,.ref f19),(.inl 20,.ref f20)]:=La [(0,t0,.ref f0,.ref f0),(1,t1,.ref f1,.ref f1),(2,t2,.ref f2,.ref f2),(3,t3,.ref f3,.ref f3),(4,t4,.ref f4,.ref f4),(5,t5,.ref f5,.ref f5),(7,t7,.ref f7,.ref f7),(8,t8,.ref f8,.ref f8),(9,t9,.ref f9,.ref f9),(10,t10,.ref f10,.ref f10),(11,t11,.ref f11,.ref f11),(12,t12,.ref f12,.ref f12),(13,t13,.ref f13,.ref f13),(14,t14,.ref f14,.ref f14),(15,t15,.ref f15,.ref f15),(16,t16,.ref f16,.ref f16),(17,t17,.ref f17,.ref f17),(18,t18,.ref f18,.ref f18),(19,t19,.ref f19,.ref f19),(20,t20,.ref f20,.ref f20)] hl ho he (by repeat' (first|exact List.forall_mem_nil _|refine List.forall_mem_cons.mpr ⟨?_,?_⟩|exact rfl|exact⟨_,rfl⟩)) (by show([0,1,2,3,4,5,7,8,9,10,11,12,13,14,15,16,17,18,19,20]:List Int).Nodup;decide) hs
theorem F0{P:Program}{w:World}{K:PySem.W.Frag}{a:Addr}{o:Obj}{es:Array DictEntry}{ep:Nat}{t0 t2 t3 t4 t5 t7 t8 t9 t10 t11 t12 t13 t14 t15 t16 t17 t18 t19 t20:Tok}{u0 u2 u3 u4 u5 u7 u8 u9 u10 u11 u12 u13 u14 u15 u16 u17 u18 u19 u20:Tok}(hl:K.lookup a=some o)(ho:o={cls:=.type "dict",data:=.dict es ep})(he:es.toList=([(0,t0,.int 1 u0,.int 1),(2,t2,.int 4 u2,.int 4),(3,t3,.int 3 u3,.int 3),(4,t4,.int 1 u4,.int 1),(5,t5,.int 1 u5,.int 1),(7,t7,.int 1 u7,.int 1),(8,t8,.int 1 u8,.int 1),(9,t9,.int 1 u9,.int 1),(10,t10,.int 1 u10,.int 1),(11,t11,.int 2 u11,.int 2),(12,t12,.int 2 u12,.int 2),(13,t13,.int 3 u13,.int 3),(14,t14,.int 4 u14,.int 4),(15,t15,.int 2 u15,.int 2),(16,t16,.int 1 u16,.int 1),(17,t17,.int 1 u17,.int 1),(18,t18,.int 2 u18,.int 2),(19,t19,.int 1 u19,.int 1),(20,t20,.int 3 u20,.int 3)]:List DE).map Kr)(hs:(a==sysModules)=false):
  GD P w K a counts:=La [(0,t0,.int 1 u0,.int 1),(2,t2,.int 4 u2,.int 4),(3,t3,.int 3 u3,.int 3),(4,t4,.int 1 u4,.int 1),(5,t5,.int 1 u5,.int 1),(7,t7,.int 1 u7,.int 1),(8,t8,.int 1 u8,.int 1),(9,t9,.int 1 u9,.int 1),(10,t10,.int 1 u10,.int 1),(11,t11,.int 2 u11,.int 2),(12,t12,.int 2 u12,.int 2),(13,t13,.int 3 u13,.int 3),(14,t14,.int 4 u14,.int 4),(15,t15,.int 2 u15,.int 2),(16,t16,.int 1 u16,.int 1),(17,t17,.int 1 u17,.int 1),(18,t18,.int 2 u18,.int 2),(19,t19,.int 1 u19,.int 1),(20,t20,.int 3 u20,.int 3)] hl ho he (by repeat' (first|exact List.forall_mem_nil _|refine List.forall_mem_cons.mpr ⟨?_,?_⟩|exact rfl|exact⟨_,rfl⟩)) (by show([0,2,3,4,5,7,8,9,10,11,12,13,14,15,16,17,18,19,20]:List Int).Nodup;decide) hs
class EG:Prop where
 go:∀{P:Program} {w:World} {K:PySem.W.Frag} {h:Heap} {mg:Str→Option Value} {fa:Addr} {f0 f1 f2 f3 f4 f5 f6 f7 f8 f9 f10 f11 f12 f13 f14 f15 f16 f17 f18 f19 f20 f21 f22 f23 f24 f25 f26 f27 f28 f29 f30 f31 f32 f33 f34 f35 f36 f37 f38 f39 f40 f41 f42 f43 f44 f45 f46 f47 f48 f49 f50 f51 f52 f53 f54 f55 f56 f57 f58 f59 f60 f61 f62 f63 f64 f65 f66 f67 f68 f69 f70 f71 f72 f73 f74 f75 f76 f77 f78 f79 f80 f81 f82 f83 f84:Addr} {aU aD aS aC aT CW CR CS CL CP CH aSL aGA aA3 aHF aNO aOM aCA aCO kc0 kc1 kc2 kc3 kc4 kc5 kc6 kc7 kc8 kc9 kc10 ks0 ks1 ks2 ks3 ks4 ks5 ks6 ks7 ks8 ks9 ks10:Addr},K.In h→h.Ns mainGlobals mg→mg "answers"=some (.ref fa)→
  br K "packed" (bJ 3) f0→
  br K "is_packed" (bJ 4) f1→
  br K "unpacked" (bJ 5) f2→
  br K "metres_text" (bJ 6) f3→
  br K "halved" (bJ 19) f4→
  br K "rounded" (bJ 20) f5→
  br K "turned" (bJ 21) f6→
  br K "of_whole" (bJ 22) f7→
  br K "of_single" (bJ 23) f8→
  br K "opposite" (bJ 24) f9→
  br K "without_sign" (bJ 25) f10→
  br K "signed" (bJ 26) f11→
  br K "is_below" (bJ 27) f12→
  br K "add" (bJ 28) f13→
  br K "subtract" (bJ 29) f14→
  br K "multiply" (bJ 30) f15→
  br K "divide" (bJ 31) f16→
  br K "whole_root" (bJ 32) f17→
  br K "root" (bJ 33) f18→
  br K "scaled" (bJ 34) f19→
  br K "nearest_whole" (bJ 35) f20→
  br K "whole_below" (bJ 36) f21→
  br K "stored_bits" (bJ 37) f22→
  br K "series" (bJ 44) f23→
  br K "within_eighth" (bJ 45) f24→
  br K "cosine" (bJ 46) f25→
  br K "sine" (bJ 47) f26→
  br K "place" (bJ 53) f30→
  br K "surge_tenths" (bJ 54) f31→
  br K "tenths" (bJ 55) f32→
  br K "as_metres" (bJ 56) f33→
  br K "metres" (bJ 57) f34→
  br K "sea_level" (bJ 58) f35→
  br K "millimetres" (bJ 59) f36→
  br K "extremes" (bJ 60) f37→
  br K "depth" (bJ 72) f39→
  br K "is_deep_enough" (bJ 73) f40→
  br K "is_near" (bJ 74) f41→
  br K "can_be_set" (bJ 75) f42→
  br K "set_way" (bJ 76) f43→
  br K "flow" (bJ 77) f44→
  br K "pass_minutes" (bJ 78) f45→
  br K "single_metres" (bJ 83) f47→
  br K "go_on" (bJ 84) f48→
  br K "row_height" (bJ 85) f49→
  br K "heights" (bJ 86) f50→
  br K "is_high_water" (bJ 87) f51→
  br K "is_low_water" (bJ 88) f52→
  br K "high_and_low" (bJ 89) f53→
  br K "is_minute" (bJ 112) f55→
  br K "is_count" (bJ 113) f56→
  br K "is_within" (bJ 114) f57→
  br K "is_from_zero" (bJ 115) f58→
  br K "has_lock" (bJ 116) f59→
  br K "begin" (bJ 117) f60→
  br K "mark" (bJ 118) f61→
  br K "wave" (bJ 119) f62→
  br K "surge" (bJ 120) f63→
  br K "height" (bJ 121) f64→
  br K "double" (bJ 122) f65→
  br K "whole_millimetres" (bJ 123) f66→
  br K "mm" (bJ 124) f67→
  br K "floor" (bJ 125) f68→
  br K "decimal" (bJ 126) f69→
  br K "text" (bJ 127) f70→
  br K "least_and_greatest" (bJ 128) f71→
  br K "row" (bJ 129) f72→
  br K "turns" (bJ 130) f73→
  br K "is_lock" (bJ 131) f74→
  br K "lock" (bJ 132) f75→
  br K "level_now" (bJ 133) f76→
  br K "work" (bJ 134) f77→
  br K "set_time" (bJ 135) f78→
  br K "run" (bJ 136) f79→
  br K "may" (bJ 137) f80→
  br K "look" (bJ 138) f81→
  br K "when" (bJ 139) f82→
  br K "answer_to" (bJ 143) f83→
  br K "answers" (bJ 144) f84→
  lZ K "Wave" CW→
  iP K CW "Wave.__init__" (inClass (bJ 50) 0) f27→
  lZ K "Surge" CR→
  iP K CR "Surge.__init__" (inClass (bJ 51) 0) f28→
  lZ K "Sea" CS→
  iP K CS "Sea.__init__" (inClass (bJ 52) 0) f29→
  lZ K "Lock" CL→
  iP K CL "Lock.__init__" (inClass (bJ 71) 0) f38→
  lZ K "Pair" CP→
  iP K CP "Pair.__init__" (inClass (bJ 82) 0) f46→
  lZ K "Harbour" CH→
  iP K CH "Harbour.__init__" (inClass (bJ 111) 0) f54→
  dF K "MOST_HALVINGS" 20000→
  dF K "SHUT" 0→
  dF K "SEA_SLUICE" 1→
  dF K "INNER_SLUICE" 2→
  dF K "SEA_GATE" 3→
  dF K "INNER_GATE" 4→
  dF K "GROUP" 4→
  dF K "NO_ROOM" (-1)→
  dF K "OUT_OF_BOUNDS" (-2)→
  dF K "NOT_TAKEN" (-3)→
  dF K "REFUSED" (-4)→
  dF K "MARK" 1→
  dF K "MOST_MEAN" 1000000000→
  dF K "MOST_MARK" 100000000→
  dF K "MOST_WAVES" 64→
  dF K "MOST_LOCKS" 16→
  dF K "MOST_MINUTES" 10000→
  dF K "MOST_MINUTE" 1152921504606846976→
  dF K "WHOLE_NUMBERS" 18446744073709551616→
  dF K "SMALL_NUMBERS" 4294967296→
  dF K "SIGN_OF_SINGLE" 2147483648→
  dF K "MOST_FACTOR" 1098907648→
  dF K "LEAST_AREA" 981467136→
  dF K "MOST_AREA" 1317011456→
  dF K "MOST_SLUICE" 1233125376→
  dF K "MOST_LEVEL" 1233125376→
  dF K "MOST_DRAUGHT" 1149239296→
  dF K "SIGN" 0→
  dF K "WHOLE" 1→
  dF K "POWER" 2→
  dF K "PLACES" 0→
  dF K "LEAST" 1→
  dF K "STORED" 2→
  dF K "SIGN_PLACE" 3→
  dF K "HIDDEN_OF_SINGLE" 8388608→
  dF K "EIGHTH" 2305843009213693952→
  dF K "TURN" 18446744073709551616→
  dF K "QUARTER" 4611686018427387904→
  dF K "PACKED" 9→
  dF K "MINUS" 128→
  (PySem.W.nsIn K mainGlobals "len"=some none)→
  (PySem.W.nsIn K mainGlobals "range"=some none)→
  (PySem.W.nsIn K mainGlobals "any"=some none)→
  (PySem.W.nsIn K mainGlobals "ord"=some none)→
  (PySem.W.nsIn K mainGlobals "max"=some none)→
  (PySem.W.nsIn K mainGlobals "min"=some none)→
  (PySem.W.nsIn K mainGlobals "abs"=some none)→
  (PySem.W.nsIn K mainGlobals "divmod"=some none)→
  (PySem.W.nsIn K mainGlobals "str"=some none)→
  (PySem.W.nsIn K mainGlobals "reversed"=some none)→
  (PySem.W.nsIn K mainGlobals "UNIT"=some (some (.ref aU)))→
  eO K aU [.int 64,.int (-16445),.int 64,.int 79]→
  (PySem.W.nsIn K mainGlobals "DOUBLE"=some (some (.ref aD)))→
  eO K aD [.int 53,.int (-1074),.int 52,.int 63]→
  (PySem.W.nsIn K mainGlobals "SINGLE"=some (some (.ref aS)))→
  eO K aS [.int 24,.int (-149),.int 23,.int 31]→
  (PySem.W.nsIn K mainGlobals "SLUICES"=some (some (.ref aSL)))→
  eO K aSL [.int 1,.int 2]→
  (PySem.W.nsIn K mainGlobals "GATES"=some (some (.ref aGA)))→
  eO K aGA [.int 3,.int 4]→
  (PySem.W.nsIn K mainGlobals "A_32TH"=some (some (.ref aA3)))→
  eO K aA3 [.int 0,.int 1,.int (-5)]→
  (PySem.W.nsIn K mainGlobals "HALF"=some (some (.ref aHF)))→
  eO K aHF [.int 0,.int 1,.int (-1)]→
  (PySem.W.nsIn K mainGlobals "NOTHING"=some (some (.ref aNO)))→
  eO K aNO [.int 0,.int 0,.int 0]→
  (PySem.W.nsIn K mainGlobals "OF_A_MINUTE"=some (some (.ref aOM)))→
  eO K aOM [.int 4,.int 5,.int 7,.int 8,.int 9,.int 10,.int 11,.int 12,.int 13,.int 16]→
  (PySem.W.nsIn K mainGlobals "COSINE_TERMS"=some (some (.ref aC)))→
  eO K aC [.ref kc0,.ref kc1,.ref kc2,.ref kc3,.ref kc4,.ref kc5,.ref kc6,.ref kc7,.ref kc8,.ref kc9,.ref kc10]→
  eO K kc0 [.int 17849762340095794292,.int (-132)]→
  eO K kc1 [.int 10738319347695526467,.int (-122)]→
  eO K kc2 [.int 10404183854725178700,.int (-113)]→
  eO K kc3 [.int 15812463344898832750,.int (-105)]→
  eO K kc4 [.int 18224314089870857327,.int (-97)]→
  eO K kc5 [.int 15233699865907453261,.int (-89)]→
  eO K kc6 [.int 17364335643740985251,.int (-82)]→
  eO K kc7 [.int 12315625284106702819,.int (-75)]→
  eO K kc8 [.int 9358752983108951451,.int (-69)]→
  eO K kc9 [.int 11378879155978302162,.int (-65)]→
  eO K kc10 [.int 9223372036854775808,.int (-63)]→
  (PySem.W.nsIn K mainGlobals "SINE_TERMS"=some (some (.ref aT)))→
  eO K aT [.ref ks0,.ref ks1,.ref ks2,.ref ks3,.ref ks4,.ref ks5,.ref ks6,.ref ks7,.ref ks8,.ref ks9,.ref ks10]→
  eO K ks0 [.int 10681272806851181676,.int (-136)]→
  eO K ks1 [.int 14204389547209013294,.int (-127)]→
  eO K ks2 [.int 15381509442165721424,.int (-118)]→
  eO K ks3 [.int 13247018314531216523,.int (-109)]→
  eO K ks4 [.int 17616421926600382868,.int (-101)]→
  eO K ks5 [.int 17402938031173335826,.int (-93)]→
  eO K ks6 [.int 12122593176187571656,.int (-85)]→
  eO K ks7 [.int 11054479404832665075,.int (-78)]→
  eO K ks8 [.int 11760555847398657682,.int (-72)]→
  eO K ks9 [.int 11915934387502487029,.int (-67)]→
  eO K ks10 [.int 14488038916154245685,.int (-64)]→
  (PySem.W.nsIn K mainGlobals "CALLS"=some (some (.ref aCA)))→
  (PySem.W.nsIn K mainGlobals "COUNTS"=some (some (.ref aCO)))→
  GD P w K aCA [(.inl 0,.ref f60),(.inl 1,.ref f61),(.inl 2,.ref f62),(.inl 3,.ref f63),(.inl 4,.ref f64),(.inl 5,.ref f65),(.inl 7,.ref f67),(.inl 8,.ref f68),(.inl 9,.ref f69),(.inl 10,.ref f70),(.inl 11,.ref f71),(.inl 12,.ref f72),(.inl 13,.ref f73),(.inl 14,.ref f75),(.inl 15,.ref f77),(.inl 16,.ref f78),(.inl 17,.ref f79),(.inl 18,.ref f80),(.inl 19,.ref f81),(.inl 20,.ref f82)]→
  GD P w K aCO counts→
  (PySem.W.findIn K (.ref CW) "high"=some none)→
  (PySem.W.findIn K (.ref CW) "factor"=some none)→
  (PySem.W.findIn K (.ref CW) "widest"=some none)→
  (PySem.W.findIn K (.ref CW) "phase"=some none)→
  (PySem.W.findIn K (.ref CW) "speed"=some none)→
  (PySem.W.findIn K (.ref CR) "high"=some none)→
  (PySem.W.findIn K (.ref CR) "begins"=some none)→
  (PySem.W.findIn K (.ref CR) "half"=some none)→
  (PySem.W.findIn K (.ref CS) "mean"=some none)→
  (PySem.W.findIn K (.ref CS) "waves"=some none)→
  (PySem.W.findIn K (.ref CS) "surge"=some none)→
  (PySem.W.findIn K (.ref CL) "area"=some none)→
  (PySem.W.findIn K (.ref CL) "sluice"=some none)→
  (PySem.W.findIn K (.ref CL) "sill"=some none)→
  (PySem.W.findIn K (.ref CL) "inner"=some none)→
  (PySem.W.findIn K (.ref CL) "level"=some none)→
  (PySem.W.findIn K (.ref CL) "way"=some none)→
  (PySem.W.findIn K (.ref CP) "factor"=some none)→
  (PySem.W.findIn K (.ref CP) "a"=some none)→
  (PySem.W.findIn K (.ref CP) "b"=some none)→
  (PySem.W.findIn K (.ref CP) "g"=some none)→
  (PySem.W.findIn K (.ref CP) "h"=some none)→
  (PySem.W.findIn K (.ref CH) "sea"=some none)→
  (PySem.W.findIn K (.ref CH) "locks"=some none)→
  (PySem.W.findIn K (.ref CH) "now"=some none)→
  (CL≠CW)→
  (CL≠CR)→
  (CL≠CS)→
  (CL≠CH)→
  (CS≠CW)→
  (CS≠CR)→
  (CS≠CH)→
  (CH≠CW)→
  (CH≠CR)→
  (CP≠CW)→
  (CP≠CR)→
  ∃fd:FuncData,(∀(s:Shared) (us:List Value),us.length=(["calls"]:List Str).length→BindsTo s fd ⟨us,[]⟩ ((["calls"]:List Str).zip us))∧∀base:Heap,K.In base→base.Ns mainGlobals mg→cA P w K mg base eS 14 fa fd ["calls"] (DA K)
end TB
namespace HE
open PySem PySem.W PyProof.Rows TB
def Ow{p:Prop}(_:p)(W:Prop):Prop:=W
theorem PySem.W.holds_os[AM:EG]{r:OpenSpec}{q:Program}{loose:List Str}{Xt:Shared→Bool}
  {XP:(Str→Option Value)→Heap→Prop}{α:Type}{Yf:Shared→α}{Ya:World→α}
  {YP:World→Heap→Prop}{d:DefRec}{kwd:List (Str×PySem.Expr)}{N:Nat}
  (left:LeftO r.prog q loose Xt Yf Ya N)(a1:∀w s,Yf s=Ya w→YP w s.heap)
  (a2:∀w h h',YP w h→(∀b o,h.get? b=some o→h'.get? b=some o)→YP w h')
  (a3:∀s,Xt s=true→XP (s.heap.nsMap mainGlobals) s.heap)
  (a4:∀mg h h',XP mg h→(∀b o,h.get? b=some o→h'.get? b=some o)→XP mg h')
  (a5:defOf q r.name=some (d,kwd))(a6:r.prog.theDef r.name=some (d.params,d.body,d.scope))
  (a7:kwWritten? d.params.kwonlyargs d.params.kw_defaults=some kwd)(a8:∀s,Xt s=true→RecFacts [] s.heap)
  (a9:∀as,r.pre as=true→WShape.hasAll [] as (r.args.map Codec.shape)=true)(b1:r.wellSaid=true)
  (b2:(chainsOk q&&opensWell r.prog)=true)(b3:r.prog.bare)(b4:∃args,r.pre args=true∧WData.layableAll args=true)
  (b5:Ow AM (WalkOS q loose XP YP r d kwd fun f vs=>PySem.call f vs)):r.Holds:=
 _root_.PySem.W.holds_os left a1 a2 a3 a4 a5 a6 a7 a8 a9 b1 b2 b3 b4 b5
end HE
namespace PySem.W.Fast
def tw13442756605299945628:=0
def tw17346450121718851840:=0
def tw4155030535381606027:=0
def tw6201396027073298090:=0
def tw17472253811084239454:=0
def tw15199762631026474991:=0
def tw827696146374443253:=0
def tw12913600073003900530:=0
def tw2356219318719446617:=0
def tw9054296803699841544:=0
def tw15835287998305355398:=0
def tw3747812805063229228:=0
def tw12654681577022287709:=0
def tw4955933536340263333:=0
def tw4278774591384919084:=0
def tw15058694255335669538:=0
def tw7266431473209009965:=0
def tw1624218726728943790:=0
def tw6652469711912337274:=0
def tw14935287352213634938:=0
def tw5806339939135293852:=0
def tw11346032297808954228:=0
def tw17817511983441719465:=0
def tw7509609973654894420:=0
def tw16502913620124905511:=0
def tw8275622418453123481:=0
def tw1131569989364255969:=0
def tw17719471573831585089:=0
def tw3098679096250130592:=0
def tw7947302374409265413:=0
def tw4518790843051799041:=0
def tw6911746768112262749:=0
def tw8669964946914721714:=0
def tw3031023702910912237:=0
def tw2121836272325304114:=0
def tw14992947313007287451:=0
def tw16167583545921751703:=0
def tw3425205210224658844:=0
def tw9443367118490996318:=0
def tw17445897427575315783:=0
def tw12656530000320281737:=0
def tw7352720795830896320:=0
def tw5820082448324828882:=0
def tw9680062220264780045:=0
def tw17823088521202370282:=0
def tw7213351410454035363:=0
def tw10417496004131528046:=0
def tw7462774045529980100:=0
def tw11448992594083174273:=0
def tw15747337313644908918:=0
def tw14931522547370462385:=0
def tw14646200411049718387:=0
def tw17646141311363287875:=0
def tw13815621062752096779:=0
def tw14206413540098024019:=0
def tw12274962388935517281:=0
def tw7336200396634370604:=0
def tw13277438953705584316:=0
def tw14199645799036620106:=0
def tw5112162289065923065:=0
def tw5879909704075023222:=0
def tw5220538112323379779:=0
def tw11190495929648008793:=0
def tw10532894683089227825:=0
def tw2032739017530959616:=0
def tw4197013992503734206:=0
def tw10702862317510117496:=0
def tw9396222680143439715:=0
def tw492507257533933074:=0
def tw9008678462957801516:=0
def tw10677702757147834266:=0
def tw1901953701717803286:=0
def tw8605446606654090922:=0
def tw10126038309652893794:=0
def tw5060316040519617709:=0
def tw821336636588447755:=0
def tw15541158374825424924:=0
def tw13248042880037734700:=0
def tw17458153548684163108:=0
def tw8701561685061447920:=0
def tw16338736262052056127:=0
def tw15240914952553972198:=0
def tw9653695373588858708:=0
def tw8188885341455241877:=0
def tw4493806070730692785:=0
def tw6874659018297060222:=0
def tw2034093545614480171:=0
def tw5440316486387109163:=0
def tw9071859230457898845:=0
def tw1066407001225782783:=0
def tw128737806632381581:=0
def tw7030562071711907197:=0
def tw9522540961177429125:=0
def tw6822644937079093376:=0
def tw13666334727717603877:=0
def tw15525214152767874725:=0
def tw3178501492416282900:=0
def tw8170306166639772627:=0
def tw4288230960594665393:=0
def tw12436336210471005831:=0
def tw17637048666028159735:=0
def tw2971084636173133792:=0
def tw15384302260394488953:=0
def tw1615766426774159072:=0
def tw17082989870195333473:=0
def tw2094997867573092337:=0
def tw15373500475484663363:=0
def tw3442610215824119057:=0
def tw4048910602014235845:=0
def tw15500820813113484135:=0
def tw11090788335993181648:=0
def tw3575992835295426132:=0
def tw2345925920767962700:=0
def tw7771118258401514780:=0
def tw8441020418064228735:=0
def tw5076321026019445154:=0
def tw2612686377537136917:=0
def tw6500233259315239001:=0
def tw7371295172139079951:=0
def tw16632045581393762758:=0
def tw13288441969818553195:=0
def tw15185639925640011868:=0
def tw924409326261276876:=0
def tw11342741310906627105:=0
def tw5524570760692950853:=0
def tw5753271697560305015:=0
def tw8550735767327056645:=0
def tw1666243234089038444:=0
def tw15328504519604908510:=0
def tw9939483826170933824:=0
def tw10913105781086206157:=0
def tw15540501568422558913:=0
def tw5387666973436684980:=0
def tw13878443626047587856:=0
def tw3489598832832022055:=0
def tw354694433907535372:=0
def tw3225093116025972048:=0
def tw12718676389643421412:=0
def tw11690970530863058433:=0
def tw16385940939562551644:=0
def tw13280681813434436953:=0
def tw7439423032774496529:=0
def tw4660521133638908167:=0
def tw15137636118087320074:=0
def tw7488184704138723426:=0
def tw8789925583463847471:=0
def tw3746490222589240722:=0
def tw3929654192003657552:=0
def tw7349297013622386643:=0
def tw4884812668617290323:=0
def tw753576879480161568:=0
def tw11964353445008276804:=0
def tw17909098382991507222:=0
def tw344855775996450764:=0
def tw15078549710802906625:=0
def tw16970591713162961798:=0
def tw4560430873478220641:=0
def tw6607616211907303141:=0
def tw8366831149076552234:=0
def tw2829940461655386804:=0
def tw17996473995522208549:=0
def tw11644480502747150414:=0
def tw3499069137872463293:=0
def tw17445338965181354340:=0
def tw8068291824004950930:=0
def tw12464406725119436990:=0
def tw3348860428125751107:=0
def tw16779612571303314115:=0
def tw6981690587331181851:=0
def tw8771061845684809956:=0
def tw10382913347411341171:=0
def tw978647209309937524:=0
def tw121547124869595436:=0
def tw11362874850783762877:=0
def tw9402451732214951848:=0
def tw5649546782646119429:=0
def tw15286636198047149375:=0
def tw5509906004530736151:=0
def tw14211727378236743390:=0
def tw15996266767437436462:=0
def tw14043476986346518054:=0
def tw9607947932613330115:=0
def tw7149385303556533743:=0
def tw2405281661036324671:=0
def tw3134612142899355028:=0
def tw2608092163093722965:=0
def tw13279945251143371431:=0
def tw3002064261158824155:=0
def tw10574650627469586853:=0
def tw4919966887479006003:=0
def tw7016609011351417609:=0
def tw7891108364636306000:=0
def tw1890054545487957589:=0
def tw6383360349282503330:=0
def tw6699293505590377833:=0
def tw12523407530319083396:=0
def tw12925064065969568804:=0
def tw14294153465262817120:=0
def tw3994514583240283215:=0
def tw12385306808137234268:=0
def tw15332068974266138794:=0
def tw8294133876878331691:=0
def tw5804592190211836854:=0
def tw11996911164965647303:=0
def tw3050819473067871818:=0
def tw6012220640236721503:=0
def tw8898582316474071109:=0
def tw10706294462304217512:=0
def tw15724821490580011754:=0
def tw5588505957990074275:=0
def tw11991919530537799485:=0
def tw5160477908515881395:=0
def tw5976365738126311273:=0
def tw4218063112403059127:=0
def tw8930463727900638397:=0
def tw1301909639850254796:=0
def tw8005497734267764983:=0
def tw13919643160590189805:=0
def tw3015683478087299496:=0
def tw15436858306064476951:=0
def tw3889729783674496137:=0
def tw6473971243400879039:=0
def tw157504810102670290:=0
def tw2124136200751385250:=0
def tw5394481824057991632:=0
def tw8724945945905977623:=0
def tw3084578949259811486:=0
def tw13174700321362585276:=0
def tw1345918681789602417:=0
def tw10718580373776332761:=0
def tw3353037285803808332:=0
def tw7300589138763165160:=0
def tw7381933695184201124:=0
def tw7924888410797083442:=0
def tw10503607428510983298:=0
def tw2927565840800645849:=0
def tw13627565749837662353:=0
def tw3513625549179034400:=0
def tw2312465945662289709:=0
def tw7306722016858216435:=0
def tw2326109784169928296:=0
def tw11625361624300623131:=0
def tw13408340296859142061:=0
def tw7680115811613701323:=0
def tw3365681072355379929:=0
def tw1317119379656377190:=0
def tw16734170431021718957:=0
def tw9826712581866844897:=0
def tw12012056314995446285:=0
def tw896643061902946419:=0
def tw9676278382361443547:=0
def tw7562699482996461599:=0
def tw9762162997518024919:=0
def tw9659935704093818853:=0
def tw12239566931649185467:=0
def tw10707768370604766690:=0
def tw5306167850978415803:=0
def tw10343439205632696909:=0
def tw8911113667784642395:=0
def tw10306119292890515869:=0
def tw14699874544796735597:=0
def tw17598129680619672876:=0
def tw9770389703500941537:=0
def tw4056842545638454162:=0
def tw2769451168527866454:=0
def tw2609477748170097084:=0
def tw363837638493863842:=0
def tw6282022118392642200:=0
def tw5887823501988801347:=0
def tw15397720572249478436:=0
def tw13659141658791979023:=0
def tw11221851299554702866:=0
def tw8297686467209059641:=0
def tw7208237497199200504:=0
def tw6497653152206941766:=0
def tw11096563094445422687:=0
def tw5030344653195156014:=0
def tw215590108183117749:=0
def tw11921548602570830876:=0
def tw6882689671578361328:=0
def tw1313492846096290728:=0
def tw2259747098753493051:=0
def tw9627157312471306956:=0
def tw8208898908062082436:=0
def tw5686541794276668468:=0
def tw13982149061925784792:=0
def tw8622894026818315410:=0
def tw7039037478211640820:=0
def tw15062891836266964434:=0
def tw16210676839826520387:=0
def tw4113731086289709470:=0
def tw6030678689224080049:=0
def tw12970632192763392771:=0
def tw4307379294061574232:=0
def tw15850596716012033443:=0
def tw16004909522948320743:=0
def tw3047884554224196685:=0
def tw2015705969542792849:=0
def tw12350759066939507981:=0
def tw2984531122149962552:=0
def tw7932345447371180707:=0
def tw4644226682644292731:=0
def tw8235119484456917393:=0
def tw16509492807013522945:=0
def tw6018147297326406333:=0
def tw7981009984560547747:=0
def tw8839458683894462060:=0
def tw18101373507137966464:=0
def tw5879806078123003915:=0
def tw11990478781876638463:=0
def tw3313282726955030708:=0
def tw16577665823121611064:=0
def tw14670042719540245575:=0
def tw5848569973249427879:=0
def tw11561680210070279024:=0
def tw9656647163586744379:=0
def tw2100161276482732537:=0
def tw9800858728096233619:=0
def tw8383075573105473510:=0
def tw17195880266879813902:=0
def tw11496757898691496921:=0
def tw8489972309535115244:=0
def tw11477388750909915549:=0
def tw5419567079026580648:=0
def tw10320097519133170993:=0
def tw8559354991896887478:=0
def tw11849597088466415017:=0
def tw2615012720648407015:=0
def tw17690459690594764725:=0
def tw16015601137874562410:=0
def tw13256216778470701399:=0
def tw3157844427067148475:=0
def tw14049241465681232817:=0
def tw16855161750216949315:=0
def tw18071177526091097473:=0
def tw2602393895480491704:=0
def tw1221900075571991857:=0
def tw7500916973563394814:=0
def tw2286329839908498111:=0
def tw7164201700008037477:=0
def tw4418218478423061279:=0
def tw12388890323025241182:=0
def tw14224645152937940445:=0
def tw7023581088915812736:=0
def tw14531589958239243307:=0
def tw4481177359690853299:=0
def tw7644102832557529077:=0
def tw4727058219692218433:=0
def tw12918346408565273806:=0
def tw4592089276452363123:=0
def tw17917606609551171902:=0
def tw9410056775053825898:=0
def tw6496803149014662581:=0
def tw16117491895868304859:=0
def tw4310428808418285171:=0
def tw2075904496806359411:=0
def tw11875272506629471503:=0
def tw827718838060010906:=0
def tw14663099713907953360:=0
def tw4424243083040443830:=0
def tw3456188936229199736:=0
def tw14757530149337469914:=0
def tw15657053870418559681:=0
def tw12606161807745720310:=0
def tw3715015961517220939:=0
def tw13166871688281104953:=0
def tw9932439812236844244:=0
def tw16601362561781341480:=0
def tw15492776345100033083:=0
def tw2045071229023658807:=0
def tw12449579187020585639:=0
def tw11830348860324339972:=0
def tw12931506934406360051:=0
def tw1601551240054551987:=0
def tw1638443088036424457:=0
def tw1702389409535816313:=0
def tw9217711536521358177:=0
def tw1655961326524303295:=0
def tw18295876674916858699:=0
def tw2043762913481740938:=0
def tw3262356874592281623:=0
def tw17810794268409833989:=0
def tw14420124860904375033:=0
def tw2342814735020214600:=0
def tw10337718908005541892:=0
def tw2895478090016492139:=0
def tw3553865993670969545:=0
def tw3868634287723572849:=0
def tw7679193989830130814:=0
def tw12042894621987179030:=0
def tw12070028929123714114:=0
def tw12899141264371746627:=0
def tw5441594294806309983:=0
def tw10679377396180569087:=0
def tw11790969457475965869:=0
def tw13444472337286511151:=0
def tw12224533612748003534:=0
def tw15320529780846817214:=0
def tw6923220390942358581:=0
def tw3777328377100734456:=0
def tw10630377083714593205:=0
def tw5091275627914914299:=0
def tw6895611762355961525:=0
def tw12969497878723797790:=0
def tw9766053230989617935:=0
def tw7928924739288315767:=0
def tw15942728456733914286:=0
def tw6092413400913353821:=0
def tw5002925060005591293:=0
def tw11746072828660463928:=0
def tw15382486018168331977:=0
def tw12066390223864488469:=0
def tw13699562527453752967:=0
def tw7534761052229706318:=0
def tw13329687075903815479:=0
def tw4491549034729301266:=0
def tw1377338198494991819:=0
def tw8749677795070342082:=0
def tw16856701891482877538:=0
def tw11479656685595982490:=0
def tw1027661291431772374:=0
def tw13548836517130528721:=0
def tw1135055045047037281:=0
def tw598750844272719235:=0
def tw722755890335963504:=0
def tw5765243292407186582:=0
def tw12225619111180065791:=0
def tw12135207012019141538:=0
def tw10276573816063616177:=0
def tw739137339008916942:=0
def tw14011561553926160247:=0
def tw15108925845446221204:=0
def tw16918456069938496930:=0
def tw2086971654713759998:=0
def tw7157924034845781959:=0
def tw10005363465143043220:=0
def tw9437147130102769214:=0
def tw8520498620129518181:=0
def tw2699203987980139452:=0
def tw13671367810467192248:=0
def tw8009593864738124432:=0
def tw4146238857593067805:=0
def tw13964567207896822711:=0
def tw4230906122654161091:=0
def tw10709131283109766090:=0
def tw16660356392222328029:=0
def tw2686385348713819694:=0
def tw3452103562141619012:=0
def tw4272758225387307882:=0
def tw7107032177696641005:=0
def tw11841449749657184236:=0
def tw8879350919649576198:=0
def tw8305647886341630659:=0
def tw1886785345681726176:=0
def tw4869122377613784406:=0
def tw11492752389323447816:=0
def tw2061821385409947753:=0
def tw11526509451959238232:=0
def tw16799520023295425875:=0
def tw2191647754744558213:=0
def tw13646932081207622996:=0
def tw10221698918063908538:=0
def tw14317902528846622040:=0
def tw2050908056449150274:=0
def tw433801930752459078:=0
def tw4211992415251835510:=0
def tw11543211669845589064:=0
def tw12813096628701284906:=0
def tw12639893358555494594:=0
def tw11789654299226681720:=0
def tw990307563326375041:=0
def tw15696887622237990197:=0
def tw1370601283567882575:=0
def tw12574720570617542347:=0
def tw13038943180151286041:=0
def tw12876179204607043384:=0
def tw13866649573888407894:=0
def tw7254566990526360055:=0
def tw15552375417729892684:=0
def tw5325671380559613480:=0
def tw12143966920273995325:=0
def tw956789489858642397:=0
def tw7239188406934600816:=0
def tw17490627670030457883:=0
def tw3939957287363155161:=0
def tw16221790851675022843:=0
def tw9606896069655698156:=0
def tw13900900440522946945:=0
def tw18134070754370450076:=0
def tw10443968959798027665:=0
def tw1311374003004085850:=0
def tw10960691142896603327:=0
def tw17113101210584490024:=0
def tw3614384536048244926:=0
def tw15984046095164495930:=0
def tw1637307004826495413:=0
def tw11181493791746381677:=0
def tw18396712358801812313:=0
def tw17283119016087615639:=0
def tw4257512511474715648:=0
def tw8435065512285066663:=0
def tw4391033940524142226:=0
def tw5185869650231060380:=0
def tw11078406753067018045:=0
def tw5664133553084625607:=0
def tw15719137367635626872:=0
def tw945892826569143195:=0
def tw10225357972635992732:=0
def tw12513852896116818224:=0
def tw4252303984494809581:=0
def tw9838691703679827911:=0
def tw15563465536211850228:=0
def tw8162293731130651976:=0
def tw12204695646334785598:=0
def tw129121072920247767:=0
def tw14467903549412336076:=0
def tw12473011157084082317:=0
def tw9527194321785160274:=0
def tw8562434855334902266:=0
def tw15489340773658604920:=0
def tw5480436495883047123:=0
def tw938035171848902976:=0
def tw18123916870892538545:=0
def tw13819326655025267820:=0
def tw2620755009428392359:=0
def tw13575308385978047399:=0
def tw18356344363091208166:=0
def tw8486815692838142408:=0
def tw3376417710437381934:=0
def tw15637913548538280528:=0
def tw5127322022515091649:=0
def tw16210746845276328664:=0
def tw7583025043526425531:=0
def tw10996615362307331028:=0
def tw10419990541050431484:=0
def tw13332670415677522055:=0
def tw3685278872767032468:=0
def tw13647961882275613465:=0
def tw8390452587914401063:=0
def tw6281967596624739462:=0
def tw1268738008921734797:=0
def tw5396429717136480426:=0
def tw15149048947055895250:=0
def tw1059256175190871259:=0
def tw1933992654607084413:=0
def tw5463793518591262028:=0
def tw6599757405034054209:=0
def tw8691789430143136765:=0
def tw13096317322927251297:=0
def tw9590644967903722773:=0
def tw10793012312446623140:=0
def tw1440749715112637038:=0
def tw2979156360496064770:=0
def tw17812248502505891423:=0
def tw3141546411044197332:=0
def tw2991084555455235140:=0
def tw17844120739491791675:=0
def tw22357341808714989:=0
def tw8070836319316241681:=0
def tw15977603274860012453:=0
def tw2316605592736675212:=0
def tw5091999762657393292:=0
def tw13690938627633679257:=0
def tw4090828186933725572:=0
def tw7265740749713959488:=0
def tw3080461622198431896:=0
def tw16447565636519716482:=0
def tw5880635589945431039:=0
def tw10481692269862131300:=0
def tw9565644077044758910:=0
def tw14528146373218568036:=0
def tw16256777724811655917:=0
def tw16343043471847916743:=0
def tw17301990173457496059:=0
def tw18142558330746283060:=0
def tw6890787682165949053:=0
def tw4408430427929095935:=0
def tw14046911257429413800:=0
def tw12621945216837912920:=0
def tw16783111016243781173:=0
def tw5110614847809836998:=0
def tw6973919403954981164:=0
def tw11368870420246820057:=0
def tw13418007565210956767:=0
def tw13287191932859782658:=0
def tw7848418024795095731:=0
def tw8903024583901233057:=0
def tw11690004401136685187:=0
def tw16878448120888874856:=0
def tw1497592183425451450:=0
def tw712028968612795287:=0
def tw3380099577557132766:=0
def tw8129450568830852777:=0
def tw6308229856905428436:=0
def tw11484303082169286276:=0
def tw2517903030848713536:=0
def tw5546402647486774387:=0
def tw13233792919949647552:=0
def tw6781689301567189765:=0
def tw17610922050721402316:=0
def tw11453901007069130642:=0
def tw11220439012946129429:=0
def tw4472883399013123593:=0
def tw9899605561280369331:=0
def tw16982486140090475899:=0
def tw15297205114942860364:=0
def tw16213070833040588358:=0
def tw7637592811385423583:=0
def tw4003110149634162257:=0
def tw13639375786468389613:=0
def tw17128475882443330241:=0
def tw6086660864137143309:=0
def tw51682569220761788:=0
def tw3968819156392881898:=0
def tw18213071224311170014:=0
def tw397193897313326486:=0
def tw11771521238147929143:=0
def tw10667044573076946925:=0
def tw6572554538979257871:=0
def tw185419607313408273:=0
def tw5360928479902003254:=0
def tw11495187191278815756:=0
def tw1475873598954395947:=0
def tw17068559007711633092:=0
def tw1491716606336570973:=0
def tw10960088740422182125:=0
def tw18222869086854378478:=0
def tw508853927105148190:=0
def tw3684216231798888689:=0
def tw11129310908763311482:=0
def tw14638640742194602272:=0
def tw16193189203150397961:=0
def tw713632498155606622:=0
def tw5313985566925946617:=0
def tw1145201635383521533:=0
def tw15347754415780683956:=0
def tw9951315053300499552:=0
def tw18084269846946901161:=0
def tw3445196800625190417:=0
def tw4455475087644316010:=0
def tw691057657348144887:=0
def tw10783422283628862845:=0
def tw17250501287110687717:=0
def tw12404002365391136285:=0
def tw11137736205328331218:=0
def tw6937424893328840108:=0
def tw10827558197534252050:=0
def tw3823932240203491362:=0
def tw7804630226169426364:=0
def tw1693757723106355097:=0
def tw8303402094421094024:=0
def tw1488613635032930314:=0
def tw15929802415928246055:=0
def tw15946889247841049402:=0
def tw11815795007222168277:=0
def tw17124461383726240516:=0
def tw15561836338557165819:=0
def tw4280944922527160794:=0
def tw15857726053670894177:=0
def tw4404386173168630377:=0
def tw5166127071146562910:=0
def tw5777221077870451591:=0
def tw15211559549863233680:=0
def tw4445498385183719377:=0
end PySem.W.Fast
open PySem PySem.W PyProof.Rows TB
namespace HE
set_option maxRecDepth 100000 in
set_option maxHeartbeats 0 in
theorem hdq[AM:EG]:PySem.Challenge.rw_tidelocks_s01_answers.Holds:=by
 w_on;k_headS;(case hw=>exact⟨[.list [.int 0,.int 0]],by decide+kernel,by decide+kernel⟩)
 k_fillS
 refine L2.B9 (r:=PySem.Challenge.rw_tidelocks_s01_answers) (k:=14) (CX:=L2.eS) (ps:=["calls"]) (sp:=DA) (by decide+kernel) rfl rfl ⟨rfl,by decide,by decide⟩ (fun w h Y=>PySem.W.kIn_of Y) ?F ?S (fun _ _ _ _ z=>z)
 case F=>
  intro w mg fa h Y KX G hmg
  refine' EG.go KX G hmg (bK ?Zaa ?Zab ?Zac ?Zad) (bK ?Zae ?Zaf ?Zag ?Zah) (bK ?Zai ?Zaj ?Zak ?Zal) (bK ?Zam ?Zan ?Zao ?Zap) (bK ?Zaq ?Zar ?Zas ?Zat) (bK ?Zau ?Zav ?Zaw ?Zax) (bK ?Zay ?Zaz ?ZaA ?ZaB) (bK ?ZaC ?ZaD ?ZaE ?ZaF) (bK ?ZaG ?ZaH ?ZaI ?ZaJ) (bK ?ZaK ?ZaL ?ZaM ?ZaN) (bK ?ZaO ?ZaP ?ZaQ ?ZaR) (bK ?ZaS ?ZaT ?ZaU ?ZaV) (bK ?ZaW ?ZaX ?ZaY ?ZaZ) (bK ?Zba ?Zbb ?Zbc ?Zbd) (bK ?Zbe ?Zbf ?Zbg ?Zbh) (bK ?Zbi ?Zbj ?Zbk ?Zbl) (bK ?Zbm ?Zbn ?Zbo ?Zbp) (bK ?Zbq ?Zbr ?Zbs ?Zbt) (bK ?Zbu ?Zbv ?Zbw ?Zbx) (bK ?Zby ?Zbz ?ZbA ?ZbB) (bK ?ZbC ?ZbD ?ZbE ?ZbF) (bK ?ZbG ?ZbH ?ZbI ?ZbJ) (bK ?ZbK ?ZbL ?ZbM ?ZbN) (bK ?ZbO ?ZbP ?ZbQ ?ZbR) (bK ?ZbS ?ZbT ?ZbU ?ZbV) (bK ?ZbW ?ZbX ?ZbY ?ZbZ) (bK ?Zca ?Zcb ?Zcc ?Zcd) (bK ?Zce ?Zcf ?Zcg ?Zch) (bK ?Zci ?Zcj ?Zck ?Zcl) (bK ?Zcm ?Zcn ?Zco ?Zcp) (bK ?Zcq ?Zcr ?Zcs ?Zct) (bK ?Zcu ?Zcv ?Zcw ?Zcx) (bK ?Zcy ?Zcz ?ZcA ?ZcB) (bK ?ZcC ?ZcD ?ZcE ?ZcF) (bK ?ZcG ?ZcH ?ZcI ?ZcJ) (bK ?ZcK ?ZcL ?ZcM ?ZcN) (bK ?ZcO ?ZcP ?ZcQ ?ZcR) (bK ?ZcS ?ZcT ?ZcU ?ZcV) (bK ?ZcW ?ZcX ?ZcY ?ZcZ) (bK ?Zda ?Zdb ?Zdc ?Zdd) (bK ?Zde ?Zdf ?Zdg ?Zdh) (bK ?Zdi ?Zdj ?Zdk ?Zdl) (bK ?Zdm ?Zdn ?Zdo ?Zdp) (bK ?Zdq ?Zdr ?Zds ?Zdt) (bK ?Zdu ?Zdv ?Zdw ?Zdx) (bK ?Zdy ?Zdz ?ZdA ?ZdB) (bK ?ZdC ?ZdD ?ZdE ?ZdF) (bK ?ZdG ?ZdH ?ZdI ?ZdJ) (bK ?ZdK ?ZdL ?ZdM ?ZdN) (bK ?ZdO ?ZdP ?ZdQ ?ZdR) (bK ?ZdS ?ZdT ?ZdU ?ZdV) (bK ?ZdW ?ZdX ?ZdY ?ZdZ) (bK ?Zea ?Zeb ?Zec ?Zed) (bK ?Zee ?Zef ?Zeg ?Zeh) (bK ?Zei ?Zej ?Zek ?Zel) (bK ?Zem ?Zen ?Zeo ?Zep) (bK ?Zeq ?Zer ?Zes ?Zet) (bK ?Zeu ?Zev ?Zew ?Zex) (bK ?Zey ?Zez ?ZeA ?ZeB) (bK ?ZeC ?ZeD ?ZeE ?ZeF) (bK ?ZeG ?ZeH ?ZeI ?ZeJ) (bK ?ZeK ?ZeL ?ZeM ?ZeN) (bK ?ZeO ?ZeP ?ZeQ ?ZeR) (bK ?ZeS ?ZeT ?ZeU ?ZeV) (bK ?ZeW ?ZeX ?ZeY ?ZeZ) (bK ?Zfa ?Zfb ?Zfc ?Zfd) (bK ?Zfe ?Zff ?Zfg ?Zfh) (bK ?Zfi ?Zfj ?Zfk ?Zfl) (bK ?Zfm ?Zfn ?Zfo ?Zfp) (bK ?Zfq ?Zfr ?Zfs ?Zft) (bK ?Zfu ?Zfv ?Zfw ?Zfx) (bK ?Zfy ?Zfz ?ZfA ?ZfB) (bK ?ZfC ?ZfD ?ZfE ?ZfF) (bK ?ZfG ?ZfH ?ZfI ?ZfJ) (bK ?ZfK ?ZfL ?ZfM ?ZfN) (bK ?ZfO ?ZfP ?ZfQ ?ZfR) (bK ?ZfS ?ZfT ?ZfU ?ZfV) (bK ?ZfW ?ZfX ?ZfY ?ZfZ) (bK ?Zga ?Zgb ?Zgc ?Zgd) (tL ?Zge ?Zgf ?Zgg ?Zgh ?Zgi ?Zgj ?Zgk) (pD ?Zgl ?Zgm ?Zgn ?Zgo ?Zgp) (tL ?Zgq ?Zgr ?Zgs ?Zgt ?Zgu ?Zgv ?Zgw) (pD ?Zgx ?Zgy ?Zgz ?ZgA ?ZgB) (tL ?ZgC ?ZgD ?ZgE ?ZgF ?ZgG ?ZgH ?ZgI) (pD ?ZgJ ?ZgK ?ZgL ?ZgM ?ZgN) (tL ?ZgO ?ZgP ?ZgQ ?ZgR ?ZgS ?ZgT ?ZgU) (pD ?ZgV ?ZgW ?ZgX ?ZgY ?ZgZ) (tL ?Zha ?Zhb ?Zhc ?Zhd ?Zhe ?Zhf ?Zhg) (pD ?Zhh ?Zhi ?Zhj ?Zhk ?Zhl) (tL ?Zhm ?Zhn ?Zho ?Zhp ?Zhq ?Zhr ?Zhs) (pD ?Zht ?Zhu ?Zhv ?Zhw ?Zhx) (cV ?Zhy) (cV ?Zhz) (cV ?ZhA) (cV ?ZhB) (cV ?ZhC) (cV ?ZhD) (cV ?ZhE) (cV ?ZhF) (cV ?ZhG) (cV ?ZhH) (cV ?ZhI) (cV ?ZhJ) (cV ?ZhK) (cV ?ZhL) (cV ?ZhM) (cV ?ZhN) (cV ?ZhO) (cV ?ZhP) (cV ?ZhQ) (cV ?ZhR) (cV ?ZhS) (cV ?ZhT) (cV ?ZhU) (cV ?ZhV) (cV ?ZhW) (cV ?ZhX) (cV ?ZhY) (cV ?ZhZ) (cV ?Zia) (cV ?Zib) (cV ?Zic) (cV ?Zid) (cV ?Zie) (cV ?Zif) (cV ?Zig) (cV ?Zih) (cV ?Zii) (cV ?Zij) (cV ?Zik) (cV ?Zil) ?Zim ?Zin ?Zio ?Zip ?Ziq ?Zir ?Zis ?Zit ?Ziu ?Ziv ?Ziw (dz ?Zix ?Ziy ?Ziz ?ZiA ?ZiB) ?ZiC (dz ?ZiD ?ZiE ?ZiF ?ZiG ?ZiH) ?ZiI (dz ?ZiJ ?ZiK ?ZiL ?ZiM ?ZiN) ?ZiO (dz ?ZiP ?ZiQ ?ZiR ?ZiS ?ZiT) ?ZiU (dz ?ZiV ?ZiW ?ZiX ?ZiY ?ZiZ) ?Zja (dz ?Zjb ?Zjc ?Zjd ?Zje ?Zjf) ?Zjg (dz ?Zjh ?Zji ?Zjj ?Zjk ?Zjl) ?Zjm (dz ?Zjn ?Zjo ?Zjp ?Zjq ?Zjr) ?Zjs (dz ?Zjt ?Zju ?Zjv ?Zjw ?Zjx) ?Zjy (dz ?Zjz ?ZjA ?ZjB ?ZjC ?ZjD) (dz ?ZjE ?ZjF ?ZjG ?ZjH ?ZjI) (dz ?ZjJ ?ZjK ?ZjL ?ZjM ?ZjN) (dz ?ZjO ?ZjP ?ZjQ ?ZjR ?ZjS) (dz ?ZjT ?ZjU ?ZjV ?ZjW ?ZjX) (dz ?ZjY ?ZjZ ?Zka ?Zkb ?Zkc) (dz ?Zkd ?Zke ?Zkf ?Zkg ?Zkh) (dz ?Zki ?Zkj ?Zkk ?Zkl ?Zkm) (dz ?Zkn ?Zko ?Zkp ?Zkq ?Zkr) (dz ?Zks ?Zkt ?Zku ?Zkv ?Zkw) (dz ?Zkx ?Zky ?Zkz ?ZkA ?ZkB) (dz ?ZkC ?ZkD ?ZkE ?ZkF ?ZkG) ?ZkH (dz ?ZkI ?ZkJ ?ZkK ?ZkL ?ZkM) (dz ?ZkN ?ZkO ?ZkP ?ZkQ ?ZkR) (dz ?ZkS ?ZkT ?ZkU ?ZkV ?ZkW) (dz ?ZkX ?ZkY ?ZkZ ?Zla ?Zlb) (dz ?Zlc ?Zld ?Zle ?Zlf ?Zlg) (dz ?Zlh ?Zli ?Zlj ?Zlk ?Zll) (dz ?Zlm ?Zln ?Zlo ?Zlp ?Zlq) (dz ?Zlr ?Zls ?Zlt ?Zlu ?Zlv) (dz ?Zlw ?Zlx ?Zly ?Zlz ?ZlA) (dz ?ZlB ?ZlC ?ZlD ?ZlE ?ZlF) (dz ?ZlG ?ZlH ?ZlI ?ZlJ ?ZlK) (dz ?ZlL ?ZlM ?ZlN ?ZlO ?ZlP) ?ZlQ ?ZlR (Iv ?ZlS ?ZlT ?ZlU ?ZlV) (F0 ?ZlW ?ZlX ?ZlY ?ZlZ) ?Zma ?Zmb ?Zmc ?Zmd ?Zme ?Zmf ?Zmg ?Zmh ?Zmi ?Zmj ?Zmk ?Zml ?Zmm ?Zmn ?Zmo ?Zmp ?Zmq ?Zmr ?Zms ?Zmt ?Zmu ?Zmv ?Zmw ?Zmx ?Zmy ?Zmz ?ZmA ?ZmB ?ZmC ?ZmD ?ZmE ?ZmF ?ZmG ?ZmH ?ZmI ?ZmJ
  (case Zaa|Zab|Zac|Zad|Zae|Zaf|Zag|Zah|Zai|Zaj|Zak|Zal|Zam|Zan|Zao|Zap|Zaq|Zar|Zas|Zat|Zau|Zav|Zaw|Zax|Zay|Zaz|ZaA|ZaB|ZaC|ZaD|ZaE|ZaF|ZaG|ZaH|ZaI|ZaJ|ZaK|ZaL|ZaM|ZaN|ZaO|ZaP|ZaQ|ZaR|ZaS|ZaT|ZaU|ZaV|ZaW|ZaX|ZaY|ZaZ|Zba|Zbb|Zbc|Zbd|Zbe|Zbf|Zbg|Zbh|Zbi|Zbj|Zbk|Zbl|Zbm|Zbn|Zbo|Zbp|Zbq|Zbr|Zbs|Zbt|Zbu|Zbv|Zbw|Zbx|Zby|Zbz|ZbA|ZbB|ZbC|ZbD|ZbE|ZbF|ZbG|ZbH|ZbI|ZbJ|ZbK|ZbL|ZbM|ZbN|ZbO|ZbP|ZbQ|ZbR|ZbS|ZbT|ZbU|ZbV|ZbW|ZbX|ZbY|ZbZ|Zca|Zcb|Zcc|Zcd|Zce|Zcf|Zcg|Zch|Zci|Zcj|Zck|Zcl|Zcm|Zcn|Zco|Zcp|Zcq|Zcr|Zcs|Zct|Zcu|Zcv|Zcw|Zcx|Zcy|Zcz|ZcA|ZcB|ZcC|ZcD|ZcE|ZcF|ZcG|ZcH|ZcI|ZcJ|ZcK|ZcL|ZcM|ZcN|ZcO|ZcP|ZcQ|ZcR|ZcS|ZcT|ZcU|ZcV|ZcW|ZcX|ZcY|ZcZ|Zda|Zdb|Zdc|Zdd|Zde|Zdf|Zdg|Zdh|Zdi|Zdj|Zdk|Zdl|Zdm|Zdn|Zdo|Zdp|Zdq|Zdr|Zds|Zdt|Zdu|Zdv|Zdw|Zdx|Zdy|Zdz|ZdA|ZdB|ZdC|ZdD|ZdE|ZdF|ZdG|ZdH|ZdI|ZdJ|ZdK|ZdL|ZdM|ZdN|ZdO|ZdP|ZdQ|ZdR|ZdS|ZdT|ZdU|ZdV|ZdW|ZdX|ZdY|ZdZ|Zea|Zeb|Zec|Zed|Zee|Zef|Zeg|Zeh|Zei|Zej|Zek|Zel|Zem|Zen|Zeo|Zep|Zeq|Zer|Zes|Zet|Zeu|Zev|Zew|Zex|Zey|Zez|ZeA|ZeB|ZeC|ZeD|ZeE|ZeF|ZeG|ZeH|ZeI|ZeJ|ZeK|ZeL|ZeM|ZeN|ZeO|ZeP|ZeQ|ZeR|ZeS|ZeT|ZeU|ZeV|ZeW|ZeX|ZeY|ZeZ|Zfa|Zfb|Zfc|Zfd|Zfe|Zff|Zfg|Zfh|Zfi|Zfj|Zfk|Zfl|Zfm|Zfn|Zfo|Zfp|Zfq|Zfr|Zfs|Zft|Zfu|Zfv|Zfw|Zfx|Zfy|Zfz|ZfA|ZfB|ZfC|ZfD|ZfE|ZfF|ZfG|ZfH|ZfI|ZfJ|ZfK|ZfL|ZfM|ZfN|ZfO|ZfP|ZfQ|ZfR|ZfS|ZfT|ZfU|ZfV|ZfW|ZfX|ZfY|ZfZ|Zga|Zgb|Zgc|Zgd|Zge|Zgf|Zgg|Zgh|Zgi|Zgj|Zgk|Zgl|Zgm|Zgn|Zgo|Zgp|Zgq|Zgr|Zgs|Zgt|Zgu|Zgv|Zgw|Zgx|Zgy|Zgz|ZgA|ZgB|ZgC|ZgD|ZgE|ZgF|ZgG|ZgH|ZgI|ZgJ|ZgK|ZgL|ZgM|ZgN|ZgO|ZgP|ZgQ|ZgR|ZgS|ZgT|ZgU|ZgV|ZgW|ZgX|ZgY|ZgZ|Zha|Zhb|Zhc|Zhd|Zhe|Zhf|Zhg|Zhh|Zhi|Zhj|Zhk|Zhl|Zhm|Zhn|Zho|Zhp|Zhq|Zhr|Zhs|Zht|Zhu|Zhv|Zhw|Zhx|Zhy|Zhz|ZhA|ZhB|ZhC|ZhD|ZhE|ZhF|ZhG|ZhH|ZhI|ZhJ|ZhK|ZhL|ZhM|ZhN|ZhO|ZhP|ZhQ|ZhR|ZhS|ZhT|ZhU|ZhV|ZhW|ZhX|ZhY|ZhZ|Zia|Zib|Zic|Zid|Zie|Zif|Zig|Zih|Zii|Zij|Zik|Zil|Zim|Zin|Zio|Zip|Ziq|Zir|Zis|Zit|Ziu|Ziv|Ziw|Zix=>k_is)
  (case Ziy|Ziz=>rfl)
  (case ZiA=>decide)
  (case ZiB=>(repeat(first|exact .nil|refine .cons ⟨_,rfl⟩ ?_|refine .cons rfl ?_)))
  (case ZiC|ZiD=>k_is)
  (case ZiE|ZiF=>rfl)
  (case ZiG=>decide)
  (case ZiH=>(repeat(first|exact .nil|refine .cons ⟨_,rfl⟩ ?_|refine .cons rfl ?_)))
  (case ZiI|ZiJ=>k_is)
  (case ZiK|ZiL=>rfl)
  (case ZiM=>decide)
  (case ZiN=>(repeat(first|exact .nil|refine .cons ⟨_,rfl⟩ ?_|refine .cons rfl ?_)))
  (case ZiO|ZiP=>k_is)
  (case ZiQ|ZiR=>rfl)
  (case ZiS=>decide)
  (case ZiT=>(repeat(first|exact .nil|refine .cons ⟨_,rfl⟩ ?_|refine .cons rfl ?_)))
  (case ZiU|ZiV=>k_is)
  (case ZiW|ZiX=>rfl)
  (case ZiY=>decide)
  (case ZiZ=>(repeat(first|exact .nil|refine .cons ⟨_,rfl⟩ ?_|refine .cons rfl ?_)))
  (case Zja|Zjb=>k_is)
  (case Zjc|Zjd=>rfl)
  (case Zje=>decide)
  (case Zjf=>(repeat(first|exact .nil|refine .cons ⟨_,rfl⟩ ?_|refine .cons rfl ?_)))
  (case Zjg|Zjh=>k_is)
  (case Zji|Zjj=>rfl)
  (case Zjk=>decide)
  (case Zjl=>(repeat(first|exact .nil|refine .cons ⟨_,rfl⟩ ?_|refine .cons rfl ?_)))
  (case Zjm|Zjn=>k_is)
  (case Zjo|Zjp=>rfl)
  (case Zjq=>decide)
  (case Zjr=>(repeat(first|exact .nil|refine .cons ⟨_,rfl⟩ ?_|refine .cons rfl ?_)))
  (case Zjs|Zjt=>k_is)
  (case Zju|Zjv=>rfl)
  (case Zjw=>decide)
  (case Zjx=>(repeat(first|exact .nil|refine .cons ⟨_,rfl⟩ ?_|refine .cons rfl ?_)))
  (case Zjy|Zjz=>k_is)
  (case ZjA|ZjB=>rfl)
  (case ZjC=>decide)
  (case ZjD=>(repeat(first|exact .nil|refine .cons ⟨_,rfl⟩ ?_|refine .cons rfl ?_)))
  (case ZjE=>k_is)
  (case ZjF|ZjG=>rfl)
  (case ZjH=>decide)
  (case ZjI=>(repeat(first|exact .nil|refine .cons ⟨_,rfl⟩ ?_|refine .cons rfl ?_)))
  (case ZjJ=>k_is)
  (case ZjK|ZjL=>rfl)
  (case ZjM=>decide)
  (case ZjN=>(repeat(first|exact .nil|refine .cons ⟨_,rfl⟩ ?_|refine .cons rfl ?_)))
  (case ZjO=>k_is)
  (case ZjP|ZjQ=>rfl)
  (case ZjR=>decide)
  (case ZjS=>(repeat(first|exact .nil|refine .cons ⟨_,rfl⟩ ?_|refine .cons rfl ?_)))
  (case ZjT=>k_is)
  (case ZjU|ZjV=>rfl)
  (case ZjW=>decide)
  (case ZjX=>(repeat(first|exact .nil|refine .cons ⟨_,rfl⟩ ?_|refine .cons rfl ?_)))
  (case ZjY=>k_is)
  (case ZjZ|Zka=>rfl)
  (case Zkb=>decide)
  (case Zkc=>(repeat(first|exact .nil|refine .cons ⟨_,rfl⟩ ?_|refine .cons rfl ?_)))
  (case Zkd=>k_is)
  (case Zke|Zkf=>rfl)
  (case Zkg=>decide)
  (case Zkh=>(repeat(first|exact .nil|refine .cons ⟨_,rfl⟩ ?_|refine .cons rfl ?_)))
  (case Zki=>k_is)
  (case Zkj|Zkk=>rfl)
  (case Zkl=>decide)
  (case Zkm=>(repeat(first|exact .nil|refine .cons ⟨_,rfl⟩ ?_|refine .cons rfl ?_)))
  (case Zkn=>k_is)
  (case Zko|Zkp=>rfl)
  (case Zkq=>decide)
  (case Zkr=>(repeat(first|exact .nil|refine .cons ⟨_,rfl⟩ ?_|refine .cons rfl ?_)))
  (case Zks=>k_is)
  (case Zkt|Zku=>rfl)
  (case Zkv=>decide)
  (case Zkw=>(repeat(first|exact .nil|refine .cons ⟨_,rfl⟩ ?_|refine .cons rfl ?_)))
  (case Zkx=>k_is)
  (case Zky|Zkz=>rfl)
  (case ZkA=>decide)
  (case ZkB=>(repeat(first|exact .nil|refine .cons ⟨_,rfl⟩ ?_|refine .cons rfl ?_)))
  (case ZkC=>k_is)
  (case ZkD|ZkE=>rfl)
  (case ZkF=>decide)
  (case ZkG=>(repeat(first|exact .nil|refine .cons ⟨_,rfl⟩ ?_|refine .cons rfl ?_)))
  (case ZkH|ZkI=>k_is)
  (case ZkJ|ZkK=>rfl)
  (case ZkL=>decide)
  (case ZkM=>(repeat(first|exact .nil|refine .cons ⟨_,rfl⟩ ?_|refine .cons rfl ?_)))
  (case ZkN=>k_is)
  (case ZkO|ZkP=>rfl)
  (case ZkQ=>decide)
  (case ZkR=>(repeat(first|exact .nil|refine .cons ⟨_,rfl⟩ ?_|refine .cons rfl ?_)))
  (case ZkS=>k_is)
  (case ZkT|ZkU=>rfl)
  (case ZkV=>decide)
  (case ZkW=>(repeat(first|exact .nil|refine .cons ⟨_,rfl⟩ ?_|refine .cons rfl ?_)))
  (case ZkX=>k_is)
  (case ZkY|ZkZ=>rfl)
  (case Zla=>decide)
  (case Zlb=>(repeat(first|exact .nil|refine .cons ⟨_,rfl⟩ ?_|refine .cons rfl ?_)))
  (case Zlc=>k_is)
  (case Zld|Zle=>rfl)
  (case Zlf=>decide)
  (case Zlg=>(repeat(first|exact .nil|refine .cons ⟨_,rfl⟩ ?_|refine .cons rfl ?_)))
  (case Zlh=>k_is)
  (case Zli|Zlj=>rfl)
  (case Zlk=>decide)
  (case Zll=>(repeat(first|exact .nil|refine .cons ⟨_,rfl⟩ ?_|refine .cons rfl ?_)))
  (case Zlm=>k_is)
  (case Zln|Zlo=>rfl)
  (case Zlp=>decide)
  (case Zlq=>(repeat(first|exact .nil|refine .cons ⟨_,rfl⟩ ?_|refine .cons rfl ?_)))
  (case Zlr=>k_is)
  (case Zls|Zlt=>rfl)
  (case Zlu=>decide)
  (case Zlv=>(repeat(first|exact .nil|refine .cons ⟨_,rfl⟩ ?_|refine .cons rfl ?_)))
  (case Zlw=>k_is)
  (case Zlx|Zly=>rfl)
  (case Zlz=>decide)
  (case ZlA=>(repeat(first|exact .nil|refine .cons ⟨_,rfl⟩ ?_|refine .cons rfl ?_)))
  (case ZlB=>k_is)
  (case ZlC|ZlD=>rfl)
  (case ZlE=>decide)
  (case ZlF=>(repeat(first|exact .nil|refine .cons ⟨_,rfl⟩ ?_|refine .cons rfl ?_)))
  (case ZlG=>k_is)
  (case ZlH|ZlI=>rfl)
  (case ZlJ=>decide)
  (case ZlK=>(repeat(first|exact .nil|refine .cons ⟨_,rfl⟩ ?_|refine .cons rfl ?_)))
  (case ZlL=>k_is)
  (case ZlM|ZlN=>rfl)
  (case ZlO=>decide)
  (case ZlP=>(repeat(first|exact .nil|refine .cons ⟨_,rfl⟩ ?_|refine .cons rfl ?_)))
  (case ZlQ|ZlR|ZlS=>k_is)
  (case ZlT|ZlU|ZlV=>rfl)
  (case ZlW=>k_is)
  (case ZlX|ZlY|ZlZ=>rfl)
  (case Zma|Zmb|Zmc|Zmd|Zme|Zmf|Zmg|Zmh|Zmi|Zmj|Zmk|Zml|Zmm|Zmn|Zmo|Zmp|Zmq|Zmr|Zms|Zmt|Zmu|Zmv|Zmw|Zmx|Zmy=>k_is)
  (case Zmz|ZmA|ZmB|ZmC|ZmD|ZmE|ZmF|ZmG|ZmH|ZmI|ZmJ=>decide)
 case S=>
  intro K H xs a hO hwi hask hx
  cases hx with
  |cons h1 h2=>
   cases h2
   cases h1 with
   |lst hs ha=>
    have e:=L2.Ej a.1 _ ha
    subst e
    have q:((Codec.inLen 0 16000 a.1&&a.1.all (Codec.inInt (-9223372036854775808) 18446744073709551615))&&true)=true:=hwi
    rw[Bool.and_eq_true,Bool.and_eq_true]at q
    exact⟨_,a.1,rfl,hs,hask,(Codec.inNat_iff.mp q.1.1).2,fun H' p hp=>.lst (L2.dY.of hp) (L2.Ep _)⟩
end HE
end
noncomputable section
namespace TM
open Rb50
theorem two_pos(n:Nat):0<2^n:=Nat.pow_pos (by decide)
def sc(w:Nat)(p G:Int):Nat:=w*2^(p - G).toNat
theorem kh(p G:Int):sc 0 p G=0:=by simp[sc]
theorem ki(w:Nat)(p:Int):sc w p p=w:=by simp[sc]
theorem GZ{w:Nat}(h:w≠0)(p G:Int):0<sc w p G:=Nat.mul_pos (Nat.pos_of_ne_zero h) (two_pos _)
theorem g9(w:Nat){p G G':Int}(h1:G'≤G)(h2:G≤p):sc w p G'=sc w p G*2^(G - G').toNat:=by
 unfold sc
 rw[Nat.mul_assoc,←Nat.pow_add]
 congr 2
 lia
theorem GW(w j:Nat){p G:Int}(h:G≤p):sc (w*2^j) p G=sc w (p+j) G:=by
 unfold sc
 rw[Nat.mul_assoc,←Nat.pow_add]
 congr 2
 lia
theorem zx(a b:Nat){p q G K:Int}(h1:G≤p)(h2:K≤q):sc (a*b) (p+q) (G+K)=sc a p G*sc b q K:=by
 unfold sc
 have e:(p+q - (G+K)).toNat=(p - G).toNat+(q - K).toNat:=by lia
 rw[e,Nat.pow_add]
 simp only[Nat.mul_assoc,Nat.mul_left_comm]
def Eqv(w:Nat)(p:Int)(m:Nat)(e:Int):Prop:=∃G,G≤p∧G≤e∧sc w p G=sc m e G
theorem Eqv.refl(w:Nat)(p:Int):Eqv w p w p:=⟨p,Int.le_refl _,Int.le_refl _,rfl⟩
theorem Eqv.symm{w p m e}(h:Eqv w p m e):Eqv m e w p:=by
 obtain⟨G,a,b,c⟩:=h;exact⟨G,b,a,c.symm⟩
theorem Eqv.at{w p m e}(h:Eqv w p m e){G:Int}(h1:G≤p)(h2:G≤e):sc w p G=sc m e G:=by
 obtain⟨K,a,b,c⟩:=h
 by_cases hk:G≤K
 ·rw[g9 w hk a,g9 m hk b,c]
 ·have hk':K≤G:=by lia
  rw[g9 w hk' h1,g9 m hk' h2]at c
  exact Nat.eq_of_mul_eq_mul_right (two_pos _) c
theorem Eqv.trans{w p m e n f}(h:Eqv w p m e)(h':Eqv m e n f):Eqv w p n f:=by
 refine⟨min p (min e f),by omega,by omega,?_⟩
 rw[h.at (G:=min p (min e f)) (by omega) (by omega),h'.at (by omega) (by omega)]
theorem Eqv.zero{w p m e}(h:Eqv w p m e):w=0↔m=0:=by
 obtain⟨G,a,b,c⟩:=h
 constructor
 ·intro z
  rw[z,kh]at c
  by_cases hm:m=0
  ·exact hm
  ·have:=GZ hm e G;lia
 ·intro z
  rw[z,kh]at c
  by_cases hm:w=0
  ·exact hm
  ·have:=GZ hm p G;lia
theorem Eqv.mul{w p m e w' p' m' e'}(h:Eqv w p m e)(h':Eqv w' p' m' e'):Eqv (w*w') (p+p') (m*m') (e+e'):=by
 obtain⟨G,a,b,c⟩:=h
 obtain⟨G',a',b',c'⟩:=h'
 exact⟨G+G',by lia,by lia,by rw[zx _ _ a a',zx _ _ b b',c,c']⟩
theorem Eqv.shift(w:Nat)(p:Int)(j:Nat):Eqv (w*2^j) (p - j) w p:=⟨p - j,by lia,by lia,by
 rw[GW _ _ (by lia)];congr 1;lia⟩
theorem Eqv.pow{w p m e}(h:Eqv w p m e)(d:Int):Eqv w (p+d) m (e+d):=by
 obtain⟨G,a,b,c⟩:=h
 refine⟨G+d,by lia,by lia,?_⟩
 have h1:p+d - (G+d)=p - G:=by lia
 have h2:e+d - (G+d)=e - G:=by lia
 unfold sc at c⊢
 rw[h1,h2,c]
theorem Eqv.Ox{w m:Nat}{p:Int}(h:Eqv w p m p):w=m:=by
 have:=h.at (G:=p) (by lia) (by lia)
 rwa [ki,ki]at this
theorem Eqv.cases{w p m e}(h:Eqv w p m e):(∃j:Nat,p=e - j∧w=m*2^j)∨(∃j:Nat,e=p - j∧m=w*2^j):=by
 by_cases hp:p≤e
 ·refine .inl ⟨(e - p).toNat,by lia,?_⟩
  have:=h.at (G:=p) (by lia) hp
  rw[ki]at this
  exact this
 ·refine .inr ⟨(p - e).toNat,by lia,?_⟩
  have:=h.at (G:=e) (by lia) (by lia)
  rw[ki]at this
  exact this.symm
theorem Ac{m:Nat}(h:m≠0)(j:Nat):Nat.log2 (m*2^j)=Nat.log2 m+j:=by
 induction j with
 |zero=>simp
 |succ j ih=>
  have e:m*2^(j+1)=2*(m*2^j):=by rw[Nat.pow_succ];simp only[Nat.mul_comm,Nat.mul_left_comm]
  rw[e,Nat.log2_two_mul (by have:=Nat.mul_pos (Nat.pos_of_ne_zero h) (two_pos j);lia),ih]
  lia
def cut(m d:Nat)(more:Bool):Nat:=m / 2^d+(if 2^(d - 1)<m%2^d∨(m%2^d=2^(d - 1)∧(more=true∨m / 2^d%2=1))then 1 else 0)
def q_(k:Kind)(m:Nat)(e:Int):Int:=max (e+((Nat.log2 m+1:Nat):Int) - ((k.frac+1:Nat):Int)) k.least
def n_(k:Kind)(m:Nat)(e:Int)(more:Bool):Nat:=if q_ k m e≤e then m*2^(e - q_ k m e).toNat else cut m (q_ k m e - e).toNat more
def enc(k:Kind)(neg:Bool)(n:Nat)(q:Int):Option F:=
 let(n,q):Nat×Int:=if n=2^(k.frac+1)then(2^k.frac,q+1)else(n,q)
 if n<2^k.frac then some (signBit k neg+n)
 else if((2^k.expo - 1:Nat):Int)≤q - k.least+1 then none
 else some (signBit k neg+(q - k.least+1).toNat*2^k.frac+(n - 2^k.frac))
theorem jW{k:Kind}{neg:Bool}{m:Nat}{e:Int}{more:Bool}(h:m≠0):rounded k neg m e more=enc k neg (n_ k m e more) (q_ k m e):=by
 unfold rounded
 rw[if_neg h]
 rfl
theorem ia{k:Kind}{neg:Bool}{e:Int}{more:Bool}:rounded k neg 0 e more=some (signBit k neg):=by
 unfold rounded
 rw[if_pos rfl]
theorem FF(m d j:Nat):m*2^j%2^(d+j)=m%2^d*2^j:=by
 rw[Nat.pow_add];exact Nat.mul_mod_mul_right _ _ _
theorem F3(m d j:Nat):m*2^j / 2^(d+j)=m / 2^d:=by
 rw[Nat.pow_add];exact Nat.mul_div_mul_right _ _ (two_pos j)
theorem F5{m d j:Nat}(hd:0<d):cut (m*2^j) (d+j) false=cut m d false:=by
 unfold cut
 rw[FF,F3]
 have e:2^(d+j - 1)=2^(d - 1)*2^j:=by rw[←Nat.pow_add];congr 1;lia
 rw[e]
 have a1:(2^(d - 1)*2^j<m%2^d*2^j)↔2^(d - 1)<m%2^d:=Nat.mul_lt_mul_right (two_pos j)
 have a2:(m%2^d*2^j=2^(d - 1)*2^j)↔m%2^d=2^(d - 1):=Nat.mul_right_cancel_iff (two_pos j)
 simp only[a1,a2]
theorem lV{m d j:Nat}(hd:d≤j)(h0:0<d):cut (m*2^j) d false=m*2^(j - d):=by
 unfold cut
 have e:m*2^j=m*2^(j - d)*2^d:=by rw[Nat.mul_assoc,←Nat.pow_add];congr 2;lia
 rw[e,Nat.mul_mod_left,Nat.mul_div_cancel _ (two_pos d)]
 have:¬(2^(d - 1)<0∨(0=2^(d - 1)∧(false=true∨m*2^(j - d)%2=1))):=by
  have:=two_pos (d - 1)
  rintro(h|⟨h,_⟩)<;>lia
 rw[if_neg this,Nat.add_zero]
theorem uP{k:Kind}{m:Nat}(h:m≠0)(e:Int)(j:Nat):q_ k (m*2^j) (e - j)=q_ k m e:=by
 unfold q_
 rw[Ac h]
 congr 1
 lia
theorem z8{k:Kind}{m:Nat}(h:m≠0)(e:Int)(j:Nat):n_ k (m*2^j) (e - j) false=n_ k m e false:=by
 unfold n_
 rw[uP h]
 generalize q_ k m e=q
 by_cases h1:q≤e - j
 ·rw[if_pos h1,if_pos (by lia),Nat.mul_assoc,←Nat.pow_add]
  congr 2
  lia
 ·rw[if_neg h1]
  by_cases h2:q≤e
  ·rw[if_pos h2,lV (by lia) (by lia)]
   congr 2
   lia
  ·rw[if_neg h2]
   have e1:(q - (e - j)).toNat=(q - e).toNat+j:=by lia
   rw[e1,F5 (by omega)]
theorem pW{k:Kind}{neg:Bool}(m:Nat)(e:Int)(j:Nat):rounded k neg (m*2^j) (e - j) false=rounded k neg m e false:=by
 by_cases h:m=0
 ·subst h;rw[Nat.zero_mul,ia,ia]
 ·have h':m*2^j≠0:=by have:=Nat.mul_pos (Nat.pos_of_ne_zero h) (two_pos j);lia
  rw[jW h,jW h',uP h,z8 h]
theorem jd{k:Kind}{neg:Bool}{w p m e}(h:Eqv w p m e):rounded k neg w p false=rounded k neg m e false:=by
 rcases h.cases with⟨j,rfl,rfl⟩|⟨j,rfl,rfl⟩
 ·exact pW m e j
 ·exact(pW w p j).symm
end TM
end
noncomputable section
namespace TM
open Rb50
def gT(w:Nat)(p b:Int):Prop:=∃G,G≤p∧G≤b∧sc w p G≤sc 1 b G
theorem Cq{w v:Nat}{p b G K:Int}(h1:G≤p)(h2:G≤b)(h3:K≤p)(h4:K≤b):sc w p G≤sc v b G↔sc w p K≤sc v b K:=by
 by_cases hk:G≤K
 ·rw[g9 w hk h3,g9 v hk h4]
  exact Nat.mul_le_mul_right_iff (two_pos _)
 ·have hk':K≤G:=by lia
  rw[g9 w hk' h1,g9 v hk' h2]
  exact(Nat.mul_le_mul_right_iff (two_pos _)).symm
theorem gT.at{w p b}(h:gT w p b){G:Int}(h1:G≤p)(h2:G≤b):sc w p G≤sc 1 b G:=by
 obtain⟨K,a,c,d⟩:=h
 exact(Cq a c h1 h2).mp d
theorem gT.eqv{w p m e b}(h:Eqv w p m e)(hl:gT w p b):gT m e b:=by
 refine⟨min (min p e) b,by omega,by omega,?_⟩
 rw[←h.at (by omega) (by omega)]
 exact hl.at (by omega) (by omega)
theorem gT.zero(p b:Int):gT 0 p b:=⟨min p b,by lia,by lia,by rw[kh];exact Nat.zero_le _⟩
theorem ng{b G:Int}:sc 1 b G=2^(b - G).toNat:=by simp[sc]
theorem gT.mono{w p b b'}(h:gT w p b)(hb:b≤b'):gT w p b':=by
 refine⟨min p b,by lia,by omega,Nat.le_trans (h.at (by lia) (by lia)) ?_⟩
 rw[ng,ng]
 exact Nat.pow_le_pow_right (by decide) (by lia)
theorem gT.mul{w p b w' p' b'}(h:gT w p b)(h':gT w' p' b'):gT (w*w') (p+p') (b+b'):=by
 obtain⟨G,a1,a2,a3⟩:=h
 obtain⟨K,b1,b2,b3⟩:=h'
 refine⟨G+K,by lia,by lia,?_⟩
 have e:sc 1 (b+b') (G+K)=sc 1 b G*sc 1 b' K:=zx 1 1 a2 b2
 rw[zx _ _ a1 b1,e]
 exact Nat.mul_le_mul a3 b3
theorem gT.pow{w p b}(h:gT w p b)(d:Int):gT w (p+d) (b+d):=by
 obtain⟨G,a1,a2,a3⟩:=h
 refine⟨G+d,by lia,by lia,?_⟩
 have h1:p+d - (G+d)=p - G:=by lia
 have h2:b+d - (G+d)=b - G:=by lia
 unfold sc at a3⊢
 rw[h1,h2];exact a3
theorem gT.of_le{w:Nat}{p b:Int}(hb:p≤b)(h:w≤2^(b - p).toNat):gT w p b:=⟨p,by lia,hb,by rw[ki,ng];exact h⟩
theorem gT.le{w:Nat}{p b:Int}(h:gT w p b)(hb:p≤b):w≤2^(b - p).toNat:=by
 have:=h.at (G:=p) (by lia) hb
 rwa [ki,ng]at this
theorem gT.log{w:Nat}{p b:Int}(h:gT w p b)(hw:w≠0):p+(Nat.log2 w:Int)≤b:=by
 have h1:=h.at (G:=min p b) (by lia) (by lia)
 have h2:=Nat.log2_self_le hw
 have h3:2^(Nat.log2 w+(p - min p b).toNat)≤2^(b - min p b).toNat:=by
  rw[Nat.pow_add]
  exact Nat.le_trans (Nat.mul_le_mul_right _ h2) (by rw[ng]at h1;exact h1)
 have h4:=(Nat.pow_le_pow_iff_right (by decide:1<2)).mp h3
 omega
theorem Cm(k:Kind)(neg:Bool):signBit k neg=0∨signBit k neg=k.sign:=by unfold signBit;split<;>simp
theorem EA{k:Kind}{f r:Nat}(hf:f<2^k.expo)(hr:r<2^k.frac):f*2^k.frac+r<k.sign:=by
 unfold Kind.sign
 rw[Nat.pow_add,Nat.mul_comm (2^k.frac)]
 have:(f+1)*2^k.frac≤2^k.expo*2^k.frac:=Nat.mul_le_mul_right _ hf
 rw[Nat.add_mul,Nat.one_mul]at this
 lia
section
variable{k:Kind}{neg:Bool}{f r:Nat}(hf:f<2^k.expo)(hr:r<2^k.frac)
include hf hr
theorem bits_neg:negative k (signBit k neg+(f*2^k.frac+r))=neg:=by
 have:=EA hf hr
 unfold negative signBit
 cases neg
 ·simp;omega
 ·simp
theorem xF:signBit k neg+(f*2^k.frac+r)<2*k.sign:=by
 have:=EA hf hr
 rcases Cm k neg with e|e<;>lia
theorem xH:(signBit k neg+(f*2^k.frac+r))%2^k.frac=r:=by
 have e:signBit k neg+(f*2^k.frac+r)=r+(((if neg=true then 2^k.expo else 0)+f)*2^k.frac):=by
  unfold signBit Kind.sign
  split
  ·rw[Nat.add_mul,Nat.pow_add,Nat.mul_comm (2^k.frac) (2^k.expo)];lia
  ·simp only[Nat.zero_add];lia
 rw[e,Nat.add_mul_mod_self_right,Nat.mod_eq_of_lt hr]
theorem iM:field k (signBit k neg+(f*2^k.frac+r))=f:=by
 have e:signBit k neg+(f*2^k.frac+r)=r+(((if neg=true then 2^k.expo else 0)+f)*2^k.frac):=by
  unfold signBit Kind.sign
  split
  ·rw[Nat.add_mul,Nat.pow_add,Nat.mul_comm (2^k.frac) (2^k.expo)];lia
  ·simp only[Nat.zero_add];lia
 unfold field
 rw[e,Nat.add_mul_div_right _ _ (two_pos _),Nat.div_eq_of_lt hr,Nat.zero_add]
 split
 ·rw[Nat.add_comm,Nat.add_mod_right,Nat.mod_eq_of_lt hf]
 ·rw[Nat.zero_add,Nat.mod_eq_of_lt hf]
end
theorem gU(k:Kind)(x:F):k.least≤(whole k x).2:=by
 unfold whole
 split
 ·exact Int.le_refl _
 ·show k.least≤k.least+(field k x:Int) - 1
  lia
structure Tells(k:Kind)(neg:Bool)(n:Nat)(q:Int)(x:F):Prop where
 sg:negative k x=neg
 eqv:Eqv n q (whole k x).1 (whole k x).2
 lt:x<2*k.sign
 fin:finite k x=true
theorem F2{k:Kind}{neg:Bool}{n:Nat}{q:Int}{x:F}(he:2≤k.expo)(hn:n≤2^(k.frac+1))(hq:k.least≤q)(hlow:n<2^k.frac→q=k.least)(h:enc k neg n q=some x):Tells k neg n q x:=by
 have hE:4≤2^k.expo:=Nat.pow_le_pow_right (n:=2) (by decide) he
 have main:∀(n':Nat) (q':Int),n'<2^(k.frac+1)→k.least≤q'→(n'<2^k.frac→q'=k.least)→
   (if n'<2^k.frac then some (signBit k neg+n')else if((2^k.expo - 1:Nat):Int)≤q' - k.least+1 then none
    else some (signBit k neg+(q' - k.least+1).toNat*2^k.frac+(n' - 2^k.frac)))=some x→Tells k neg n' q' x:=by
  intro n' q' h1 h2 h3 h4
  by_cases hl:n'<2^k.frac
  ·rw[if_pos hl]at h4
   have ex:x=signBit k neg+(0*2^k.frac+n'):=by
    have:=Option.some.inj h4;rw[←this];simp
   have hf0:0<2^k.expo:=two_pos _
   subst ex
   refine⟨bits_neg hf0 hl,?_,xF hf0 hl,?_⟩
   ·unfold whole
    rw[iM hf0 hl,if_pos rfl,xH hf0 hl,h3 hl]
    exact Eqv.refl _ _
   ·unfold finite
    rw[iM hf0 hl]
    simp;lia
  ·rw[if_neg hl]at h4
   by_cases ho:((2^k.expo - 1:Nat):Int)≤q' - k.least+1
   ·rw[if_pos ho]at h4;cases h4
   ·rw[if_neg ho]at h4
    have hf:(q' - k.least+1).toNat<2^k.expo:=by lia
    have hr:n' - 2^k.frac<2^k.frac:=by rw[Nat.pow_succ]at h1;lia
    have ex:x=signBit k neg+((q' - k.least+1).toNat*2^k.frac+(n' - 2^k.frac)):=by
     have:=Option.some.inj h4;rw[←this,Nat.add_assoc]
    subst ex
    refine⟨bits_neg hf hr,?_,xF hf hr,?_⟩
    ·unfold whole
     rw[iM hf hr,if_neg (by lia),xH hf hr]
     have e1:n' - 2^k.frac+2^k.frac=n':=by lia
     have e2:k.least+((q' - k.least+1).toNat:Int) - 1=q':=by lia
     rw[e1,e2]
     exact Eqv.refl _ _
    ·unfold finite
     rw[iM hf hr]
     simp;lia
 unfold enc at h
 by_cases hN:n=2^(k.frac+1)
 ·rw[if_pos hN]at h
  have h2:=main (2^k.frac) (q+1) (by rw[Nat.pow_succ];have:=two_pos k.frac;lia) (by lia) (by intro z;lia) h
  refine⟨h2.sg,?_,h2.lt,h2.fin⟩
  refine Eqv.trans ?_ h2.eqv
  subst hN
  have:=Eqv.shift (2^k.frac) (q+1) 1
  rw[←Nat.pow_add]at this
  have e:q+1 - ((1:Nat):Int)=q:=by lia
  rw[e]at this
  exact this
 ·rw[if_neg hN]at h
  exact main n q (by lia) hq hlow h
theorem IJ{k:Kind}{neg:Bool}{n:Nat}{q c:Int}(hn:n≤2^(k.frac+1))(hc:gT n q c)(hm:c<((2^(k.expo - 1):Nat):Int))(he:2≤k.expo):∃x,enc k neg n q=some x:=by
 have hE:2^k.expo=2*2^(k.expo - 1):=by
  have:k.expo=(k.expo - 1)+1:=by lia
  conv=>lhs;rw[this,Nat.pow_succ]
  lia
 have main:∀(n':Nat) (q':Int),gT n' q' c→∃x,(if n'<2^k.frac then some (signBit k neg+n')else if((2^k.expo - 1:Nat):Int)≤q' - k.least+1 then none
    else some (signBit k neg+(q' - k.least+1).toNat*2^k.frac+(n' - 2^k.frac)))=some x:=by
  intro n' q' h1
  by_cases hl:n'<2^k.frac
  ·exact⟨_,by rw[if_pos hl]⟩
  ·have hn0:n'≠0:=by have:=two_pos k.frac;lia
   have h2:=h1.log hn0
   have h3:k.frac≤Nat.log2 n':=(Nat.le_log2 hn0).mpr (by lia)
   have h4:¬((2^k.expo - 1:Nat):Int)≤q' - k.least+1:=by
    unfold Kind.least
    lia
   exact⟨_,by rw[if_neg hl,if_neg h4]⟩
 unfold enc
 by_cases hN:n=2^(k.frac+1)
 ·rw[if_pos hN]
  refine main _ _ ?_
  refine gT.eqv ?_ hc
  subst hN
  have:=Eqv.shift (2^k.frac) (q+1) 1
  rw[←Nat.pow_add]at this
  have e:q+1 - ((1:Nat):Int)=q:=by lia
  rw[e]at this
  exact this
 ·rw[if_neg hN]
  exact main _ _ hc
theorem xB{m d T:Nat}(h:m<2^d*T)(more:Bool):cut m d more≤T:=by
 unfold cut
 have:m / 2^d<T:=Nat.div_lt_of_lt_mul h
 split<;>lia
theorem Ik{m d T:Nat}(h:T*2^d≤m)(more:Bool):T≤cut m d more:=by
 unfold cut
 have:T≤m / 2^d:=(Nat.le_div_iff_mul_le (two_pos d)).mpr h
 omega
theorem DT(k:Kind)(m:Nat)(e:Int):k.least≤q_ k m e:=by unfold q_;lia
theorem LW{k:Kind}{m:Nat}{e:Int}(h:m≠0)(more:Bool):n_ k m e more≤2^(k.frac+1):=by
 have hL:m<2^(Nat.log2 m+1):=Nat.lt_log2_self
 unfold n_
 by_cases hq:q_ k m e≤e
 ·rw[if_pos hq]
  have:m*2^(e - q_ k m e).toNat≤2^(Nat.log2 m+1)*2^(e - q_ k m e).toNat:=Nat.mul_le_mul_right _ (Nat.le_of_lt hL)
  refine Nat.le_trans this ?_
  rw[←Nat.pow_add]
  refine Nat.pow_le_pow_right (by decide) ?_
  unfold q_ at hq⊢
  omega
 ·rw[if_neg hq]
  refine xB (Nat.lt_of_lt_of_le hL ?_) more
  rw[←Nat.pow_add]
  refine Nat.pow_le_pow_right (by decide) ?_
  unfold q_ at hq⊢
  omega
theorem MK{k:Kind}{m:Nat}{e:Int}(h:m≠0){more:Bool}(hl:n_ k m e more<2^k.frac):q_ k m e=k.least:=by
 have hL:=Nat.log2_self_le h
 by_cases hq0:q_ k m e=k.least
 ·exact hq0
 ·exfalso
  have hq1:q_ k m e=e+(Nat.log2 m:Int) - (k.frac:Int):=by unfold q_ at hq0⊢;lia
  refine absurd hl (Nat.not_lt.mpr ?_)
  unfold n_
  by_cases hq:q_ k m e≤e
  ·rw[if_pos hq]
   have:2^(Nat.log2 m)*2^(e - q_ k m e).toNat≤m*2^(e - q_ k m e).toNat:=Nat.mul_le_mul_right _ hL
   refine Nat.le_trans ?_ this
   rw[←Nat.pow_add]
   refine Nat.pow_le_pow_right (by decide) ?_
   lia
  ·rw[if_neg hq]
   refine Ik (Nat.le_trans ?_ hL) more
   rw[←Nat.pow_add]
   refine Nat.pow_le_pow_right (by decide) ?_
   lia
theorem Kc{k:Kind}{m:Nat}{e c:Int}(h:m≠0)(hc:gT m e c)(hl:k.least≤c):q_ k m e≤c∧gT (n_ k m e false) (q_ k m e) c:=by
 have h1:=hc.log h
 have hq:q_ k m e≤c:=by unfold q_;omega
 refine⟨hq,?_⟩
 unfold n_
 by_cases hqe:q_ k m e≤e
 ·rw[if_pos hqe]
  refine gT.eqv ?_ hc
  have:=(Eqv.shift m e (e - q_ k m e).toNat).symm
  have e1:e - ((e - q_ k m e).toNat:Int)=q_ k m e:=by lia
  rwa [e1]at this
 ·rw[if_neg hqe]
  have hm:=hc.le (by lia)
  refine gT.of_le hq ?_
  have e1:(c - e).toNat=(q_ k m e - e).toNat+(c - q_ k m e).toNat:=by lia
  rw[e1]at hm
  by_cases hm2:m=2^((q_ k m e - e).toNat+(c - q_ k m e).toNat)
  ·have:m=2^(c - q_ k m e).toNat*2^(q_ k m e - e).toNat:=by rw[←Nat.pow_add,Nat.add_comm];exact hm2
   have h5:cut m (q_ k m e - e).toNat false=2^(c - q_ k m e).toNat:=by
    have h6:=lV (m:=2^(c - q_ k m e).toNat) (Nat.le_refl (q_ k m e - e).toNat) (by omega)
    rw[←this,Nat.sub_self,Nat.pow_zero,Nat.mul_one]at h6
    exact h6
   rw[h5]
   exact Nat.le_refl _
  ·refine xB ?_ _
   rw[←Nat.pow_add]
   lia
end TM
end
noncomputable section
namespace TM
open Rb50
structure Num where
 s:Bool
 w:Nat
 p:Int
 deriving DecidableEq,Inhabited
def bl(w:Nat):Nat:=if w=0 then 0 else Nat.log2 w+1
def over(k:Kind)(w:Nat)(p:Int):Int:=max ((bl w:Int) - ((k.frac+1:Nat):Int)) (k.least - p)
def bX(k:Kind)(s:Bool)(w:Nat)(p:Int):Num:=if over k w p≤0 then⟨s,w,p⟩else⟨s,cut w (over k w p).toNat false,p+over k w p⟩
abbrev Rep(k:Kind)(n:Num)(x:F):Prop:=Tells k n.s n.w n.p x
structure Ok(k:Kind)(n:Num)(c:Int):Prop where
 w:n.w≤2^(k.frac+1)
 lo:k.least≤n.p
 hi:n.p≤c
 le:gT n.w n.p c
structure Good(k:Kind):Prop where
 e:2≤k.expo
theorem gG:Good EXT:=⟨by decide⟩
theorem dh:Good SINGLE:=⟨by decide⟩
theorem BP:Good DOUBLE:=⟨by decide⟩
def top(k:Kind):Int:=((2^(k.expo - 1):Nat):Int)
theorem kg:top EXT=16384:=by decide
theorem jN:top SINGLE=128:=by decide
theorem dQ:EXT.least=-16445:=by decide
theorem dw:SINGLE.least=-149:=by decide
theorem CM{k:Kind}{w:Nat}{p:Int}(h:w≠0):q_ k w p=p+over k w p:=by
 unfold q_ over bl
 rw[if_neg h]
 lia
theorem Ok.mono{k:Kind}{n:Num}{c c':Int}(h:Ok k n c)(hc:c≤c'):Ok k n c':=⟨h.w,h.lo,Int.le_trans h.hi hc,h.le.mono hc⟩
theorem jX{k:Kind}{s:Bool}{w:Nat}{p:Int}(h:w≠0):Eqv (bX k s w p).w (bX k s w p).p (n_ k w p false) (q_ k w p):=by
 unfold bX n_
 have e:=CM (k:=k) (p:=p) h
 by_cases ho:over k w p≤0
 ·rw[if_pos ho,if_pos (by lia)]
  have:=Eqv.shift w p (p - q_ k w p).toNat
  have e1:p - ((p - q_ k w p).toNat:Int)=q_ k w p:=by lia
  rw[e1]at this
  exact this.symm
 ·rw[if_neg ho,if_neg (by lia)]
  have e1:(q_ k w p - p).toNat=(over k w p).toNat:=by lia
  rw[e1,e]
  exact Eqv.refl _ _
theorem gE(k:Kind)(s:Bool)(w:Nat)(p:Int):(bX k s w p).s=s:=by unfold bX;split<;>rfl
theorem fF{k:Kind}{s:Bool}{p:Int}:bX k s 0 p=⟨s,0,max p k.least⟩:=by
 unfold bX over bl cut
 rw[if_pos rfl]
 by_cases ho:max (((0:Nat):Int) - ((k.frac+1:Nat):Int)) (k.least - p)≤0
 ·rw[if_pos ho];congr 1;lia
 ·rw[if_neg ho]
  have:¬(2^((max (((0:Nat):Int) - ((k.frac+1:Nat):Int)) (k.least - p)).toNat - 1)<0%2^(max (((0:Nat):Int) - ((k.frac+1:Nat):Int)) (k.least - p)).toNat∨(0%2^(max (((0:Nat):Int) - ((k.frac+1:Nat):Int)) (k.least - p)).toNat=2^((max (((0:Nat):Int) - ((k.frac+1:Nat):Int)) (k.least - p)).toNat - 1)∧(false=true∨0 / 2^(max (((0:Nat):Int) - ((k.frac+1:Nat):Int)) (k.least - p)).toNat%2=1))):=by
   rw[Nat.zero_mod]
   rintro(h|⟨h,_⟩)
   ·exact absurd h (Nat.not_lt_zero _)
   ·have:=two_pos ((max (((0:Nat):Int) - ((k.frac+1:Nat):Int)) (k.least - p)).toNat - 1);omega
  rw[if_neg this,Nat.zero_div]
  congr 1
  lia
theorem kK{k:Kind}(g:Good k)(s:Bool)(p:Int):Tells k s 0 p (signBit k s):=by
 have hf:0<2^k.expo:=two_pos _
 have hr:0<2^k.frac:=two_pos _
 have e:signBit k s=signBit k s+(0*2^k.frac+0):=by simp
 rw[e]
 refine⟨bits_neg hf hr,?_,xF hf hr,?_⟩
 ·unfold whole
  rw[iM hf hr,if_pos rfl,xH hf hr]
  exact⟨min p k.least,by lia,by lia,by rw[kh,kh]⟩
 ·unfold finite
  rw[iM hf hr]
  have hE:4≤2^k.expo:=Nat.pow_le_pow_right (n:=2) (by decide) g.e
  simp;omega
theorem gD{k:Kind}(g:Good k){s:Bool}{w:Nat}{p c:Int}(hp:p≤c)(hc:gT w p c)(hl:k.least≤c)(hm:c<top k):
  ∃x,rounded k s w p false=some x∧Rep k (bX k s w p) x∧Ok k (bX k s w p) c:=by
 by_cases hw:w=0
 ·subst hw
  refine⟨signBit k s,ia,?_,?_⟩
  ·rw[fF];exact kK g s _
  ·rw[fF];exact⟨Nat.zero_le _,by show k.least≤max p k.least;lia,by show max p k.least≤c;lia,gT.zero _ _⟩
 ·obtain⟨hq,hn⟩:=Kc hw hc hl
  obtain⟨x,hx⟩:=IJ (neg:=s) (LW hw false) hn hm g.e
  have ht:=F2 g.e (LW hw false) (DT _ _ _) (MK hw) hx
  have he:=jX (k:=k) (s:=s) (p:=p) hw
  refine⟨x,by rw[jW hw];exact hx,⟨?_,he.trans ht.eqv,ht.lt,ht.fin⟩,?_⟩
  ·rw[gE];exact ht.sg
  ·have hov:=CM (k:=k) (p:=p) hw
   have hL:w<2^(Nat.log2 w+1):=Nat.lt_log2_self
   refine⟨?_,?_,?_,gT.eqv he.symm hn⟩
   ·unfold bX
    by_cases ho:over k w p≤0
    ·rw[if_pos ho]
     refine Nat.le_trans (Nat.le_of_lt hL) (Nat.pow_le_pow_right (by decide) ?_)
     unfold over bl at ho
     rw[if_neg hw]at ho
     lia
    ·rw[if_neg ho]
     have:=LW (k:=k) (e:=p) hw false
     unfold n_ at this
     rw[if_neg (by lia)]at this
     have e1:(q_ k w p - p).toNat=(over k w p).toNat:=by lia
     rw[e1]at this
     exact this
   ·unfold bX
    by_cases ho:over k w p≤0
    ·rw[if_pos ho];unfold over at ho;show k.least≤p;lia
    ·rw[if_neg ho];show k.least≤p+over k w p;unfold over;omega
   ·unfold bX
    by_cases ho:over k w p≤0
    ·rw[if_pos ho];exact hp
    ·rw[if_neg ho];show p+over k w p≤c;lia
def fB(n:Num):Num:=⟨!n.s,n.w,n.p⟩
theorem vA(k:Kind):0<k.sign:=two_pos _
theorem JS{k:Kind}{x:Nat}(h:x<2*k.sign):negative k (opposite k x)= !negative k x:=by
 unfold opposite negative
 have:=vA k
 by_cases hx:k.sign≤x
 ·simp only[hx,decide_true,if_true]
  have h2:¬k.sign≤@HSub.hSub Nat Nat Nat instHSub x k.sign:=by lia
  simpa using h2
 ·simp[hx]
theorem LP{k:Kind}{x:Nat}(h:x<2*k.sign):opposite k x<2*k.sign:=by
 unfold opposite negative
 by_cases hx:k.sign≤x
 ·simp only[hx,decide_true,if_true]
  show @HSub.hSub Nat Nat Nat instHSub x k.sign<2*k.sign
  omega
 ·simp only[hx,decide_false,if_false,Bool.false_eq_true]
  show @HAdd.hAdd Nat Nat Nat instHAdd x k.sign<2*k.sign
  lia
theorem D5{k:Kind}{x:Nat}(h:x<2*k.sign):opposite k x%k.sign=x%k.sign:=by
 unfold opposite negative
 by_cases hx:k.sign≤x<;>simp[hx]
 ·exact(Nat.mod_eq_sub_mod hx).symm
theorem lU(k:Kind)(x:F):field k (x%k.sign)=field k x:=by
 unfold field Kind.sign
 rw[Nat.pow_add,Nat.mod_mul_right_div_self,Nat.mod_mod]
theorem Iz(k:Kind)(x:F):x%k.sign%2^k.frac=x%2^k.frac:=by
 unfold Kind.sign
 exact Nat.mod_mod_of_dvd _ ⟨2^k.expo,by rw[←Nat.pow_add]⟩
theorem oK(k:Kind)(x:F):whole k (x%k.sign)=whole k x:=by
 unfold whole
 rw[lU,Iz]
theorem Fd{k:Kind}{x:F}(h:x<2*k.sign):whole k (opposite k x)=whole k x:=by
 rw[←oK k (opposite k x),D5 h,oK]
theorem JT{k:Kind}{x:F}(h:x<2*k.sign):finite k (opposite k x)=finite k x:=by
 unfold finite
 rw[←lU k (opposite k x),D5 h,lU]
theorem gM{k:Kind}{n:Num}{x:F}(h:Rep k n x):Rep k (fB n) (opposite k x):=
 ⟨by rw[JS h.lt,h.sg];rfl,by rw[Fd h.lt];exact h.eqv,LP h.lt,by rw[JT h.lt];exact h.fin⟩
theorem iI{k:Kind}{n:Num}{c:Int}(h:Ok k n c):Ok k (fB n) c:=⟨h.w,h.lo,h.hi,h.le⟩
def bC(k:Kind)(a b:Num):Num:=bX k (a.s != b.s) (a.w*b.w) (a.p+b.p)
theorem HX{k:Kind}(g:Good k){a b:Num}{x y:F}{c d:Int}(ha:Rep k a x)(hb:Rep k b y)(oa:Ok k a c)(ob:Ok k b d)(hl:k.least≤c+d)(hm:c+d<top k):
  ∃z,mul k x y=some z∧Rep k (bC k a b) z∧Ok k (bC k a b) (c+d):=by
 obtain⟨z,h1,h2,h3⟩:=gD g (s:=a.s != b.s) (w:=a.w*b.w) (p:=a.p+b.p) (c:=c+d) (by have:=oa.hi;have:=ob.hi;lia) (oa.le.mul ob.le) hl hm
 refine⟨z,?_,h2,h3⟩
 unfold mul
 rw[ha.sg,hb.sg,←jd (ha.eqv.mul hb.eqv)]
 exact h1
def sgn(s:Bool):Int:=if s=true then -1 else 1
theorem jx(s:Bool)(n:Int):(sgn s*n).natAbs=n.natAbs:=by cases s<;>simp[sgn]
def dS(a b:Num):Int:=sgn a.s*((a.w*2^(a.p - min a.p b.p).toNat:Nat):Int)+sgn b.s*((b.w*2^(b.p - min a.p b.p).toNat:Nat):Int)
def bL(k:Kind)(a b:Num):Num:=if dS a b=0 then⟨a.s&&b.s,0,min a.p b.p⟩else bX k (decide (dS a b<0)) (dS a b).natAbs (min a.p b.p)
theorem sD{s t:Bool}{m n:Nat}{e f g G:Int}(h1:g≤e)(h2:g≤f)(h3:G≤g):
  (sgn s*((m*2^(e - g).toNat:Nat):Int)+sgn t*((n*2^(f - g).toNat:Nat):Int))*((2^(g - G).toNat:Nat):Int)=sgn s*(sc m e G:Int)+sgn t*(sc n f G:Int):=by
 rw[g9 m h3 h1,g9 n h3 h2,Int.add_mul]
 unfold sc
 simp only[Int.natCast_mul,Int.mul_assoc]
theorem Dt{P Q:Int}{A B:Nat}{p g G:Int}(h1:G≤p)(h2:G≤g)(h:P*((2^(p - G).toNat:Nat):Int)=Q*((2^(g - G).toNat:Nat):Int)):Eqv P.natAbs p Q.natAbs g∧(P=0↔Q=0)∧(P<0↔Q<0):=by
 have a:(0:Int)<((2^(p - G).toNat:Nat):Int):=Int.natCast_pos.mpr (two_pos _)
 have b:(0:Int)<((2^(g - G).toNat:Nat):Int):=Int.natCast_pos.mpr (two_pos _)
 refine⟨⟨G,h1,h2,?_⟩,?_,?_⟩
 ·have:=congrArg Int.natAbs h
  rw[Int.natAbs_mul,Int.natAbs_mul,Int.natAbs_natCast,Int.natAbs_natCast]at this
  exact this
 ·constructor
  ·intro z;rw[z,Int.zero_mul]at h
   rcases Int.mul_eq_zero.mp h.symm with q|q
   ·exact q
   ·lia
  ·intro z;rw[z,Int.zero_mul]at h
   rcases Int.mul_eq_zero.mp h with q|q
   ·exact q
   ·lia
 ·constructor
  ·intro z
   have:=Int.mul_neg_of_neg_of_pos z a
   rw[h]at this
   rcases(show Q<0∨0≤Q by lia)with q|q
   ·exact q
   ·have:=Int.mul_nonneg q (Int.le_of_lt b);omega
  ·intro z
   have:=Int.mul_neg_of_neg_of_pos z b
   rw[←h]at this
   rcases(show P<0∨0≤P by lia)with q|q
   ·exact q
   ·have:=Int.mul_nonneg q (Int.le_of_lt a);lia
theorem FT(k:Kind)(s:Bool)(m:Nat)(e:Int)(t:Bool)(n:Nat)(f:Int):joined k s m e t n f=
  (if sgn s*((m*2^(e - min e f).toNat:Nat):Int)+sgn t*((n*2^(f - min e f).toNat:Nat):Int)=0 then some (signBit k (s&&t))
   else rounded k (decide (sgn s*((m*2^(e - min e f).toNat:Nat):Int)+sgn t*((n*2^(f - min e f).toNat:Nat):Int)<0)) (sgn s*((m*2^(e - min e f).toNat:Nat):Int)+sgn t*((n*2^(f - min e f).toNat:Nat):Int)).natAbs (min e f) false):=rfl
theorem Au{k:Kind}(g:Good k){a b:Num}{x y:F}{c:Int}(ha:Rep k a x)(hb:Rep k b y)(oa:Ok k a c)(ob:Ok k b c)(hl:k.least≤c)(hm:c+1<top k):
  ∃z,add k x y=some z∧Rep k (bL k a b) z∧Ok k (bL k a b) (c+1):=by
 have hph:=oa.hi
 have hpl:=oa.lo
 have hpl':=ob.lo
 unfold add
 rw[FT,ha.sg,hb.sg]
 generalize hm1:(whole k x).1=m
 generalize he1:(whole k x).2=e
 generalize hm2:(whole k y).1=n
 generalize he2:(whole k y).2=f
 have qa:=ha.eqv
 have qb:=hb.eqv
 rw[hm1,he1]at qa
 rw[hm2,he2]at qb
 generalize hQ:sgn a.s*((m*2^(e - min e f).toNat:Nat):Int)+sgn b.s*((n*2^(f - min e f).toNat:Nat):Int)=Q
 have hT:dS a b*((2^(min a.p b.p - min (min a.p b.p) (min e f)).toNat:Nat):Int)=Q*((2^(min e f - min (min a.p b.p) (min e f)).toNat:Nat):Int):=by
  rw[←hQ]
  unfold dS
  rw[sD (by omega) (by omega) (by omega),sD (by omega) (by omega) (by omega)]
  rw[qa.at (G:=min (min a.p b.p) (min e f)) (by omega) (by omega),qb.at (G:=min (min a.p b.p) (min e f)) (by omega) (by omega)]
 obtain⟨t1,t2,t3⟩:=Dt (A:=0) (B:=0) (by omega) (by omega) hT
 unfold bL
 by_cases hz:dS a b=0
 ·rw[if_pos (t2.mp hz),if_pos hz]
  exact⟨_,rfl,kK g _ _,⟨Nat.zero_le _,by show k.least≤min a.p b.p;omega,by show min a.p b.p≤c+1;omega,gT.zero _ _⟩⟩
 ·rw[if_neg (fun z=>hz (t2.mpr z)),if_neg hz]
  have hb1:gT (dS a b).natAbs (min a.p b.p) (c+1):=by
   refine gT.of_le (by omega) ?_
   have l1:=oa.le.at (G:=min a.p b.p) (by omega) (by omega)
   have l2:=ob.le.at (G:=min a.p b.p) (by omega) (by omega)
   rw[ng]at l1 l2
   have e2:(c+1 - min a.p b.p).toNat=(c - min a.p b.p).toNat+1:=by lia
   rw[e2,Nat.pow_succ]
   unfold sc at l1 l2
   unfold dS
   have:=Int.natAbs_add_le (sgn a.s*((a.w*2^(a.p - min a.p b.p).toNat:Nat):Int)) (sgn b.s*((b.w*2^(b.p - min a.p b.p).toNat:Nat):Int))
   rw[jx,jx,Int.natAbs_natCast,Int.natAbs_natCast]at this
   omega
  obtain⟨z,h1,h2,h3⟩:=gD g (s:=decide (dS a b<0)) (w:=(dS a b).natAbs) (p:=min a.p b.p) (c:=c+1) (by omega) hb1 (by lia) hm
  refine⟨z,?_,h2,h3⟩
  have e3:decide (Q<0)=decide (dS a b<0):=by
   by_cases h:dS a b<0
   ·rw[decide_eq_true h,decide_eq_true (t3.mp h)]
   ·rw[decide_eq_false h,decide_eq_false (fun z=>h (t3.mpr z))]
  rw[e3,←jd t1]
  exact h1
def fD(k:Kind)(a b:Num):Num:=bL k a (fB b)
theorem GI{k:Kind}(g:Good k){a b:Num}{x y:F}{c:Int}(ha:Rep k a x)(hb:Rep k b y)(oa:Ok k a c)(ob:Ok k b c)(hl:k.least≤c)(hm:c+1<top k):
  ∃z,sub k x y=some z∧Rep k (fD k a b) z∧Ok k (fD k a b) (c+1):=Au g ha (gM hb) oa (iI ob) hl hm
end TM
end
noncomputable section
namespace TM
open Rb50
theorem Ks{M i t:Nat}(ht:0<t)(more:Bool):cut (M / 2^i) t (decide (M%2^i≠0)||more)=cut M (i+t) more:=by
 unfold cut
 have e1:M / 2^i / 2^t=M / 2^(i+t):=by rw[Nat.div_div_eq_div_mul,←Nat.pow_add]
 have e2:M%2^(i+t)=M / 2^i%2^t*2^i+M%2^i:=by
  rw[Nat.pow_add,Nat.mod_mul,Nat.add_comm,Nat.mul_comm (2^i)]
 have e3:2^(i+t - 1)=2^(t - 1)*2^i:=by rw[←Nat.pow_add];congr 1;lia
 rw[e1,e2,e3]
 have hr:M%2^i<2^i:=Nat.mod_lt _ (two_pos i)
 generalize M%2^i=r at hr⊢
 generalize M / 2^i%2^t=R
 generalize 2^(t - 1)=h
 generalize 2^i=B at hr⊢
 generalize M / 2^(i+t)=N
 congr 1
 have c:(h<R∨R=h∧((decide (r≠0)||more)=true∨N%2=1))↔(h*B<R*B+r∨R*B+r=h*B∧(more=true∨N%2=1)):=by
  rcases Nat.lt_trichotomy h R with a|a|a
  ·have:(h+1)*B≤R*B:=Nat.mul_le_mul_right _ a
   rw[Nat.add_mul,Nat.one_mul]at this
   constructor
   ·intro _;exact .inl (by lia)
   ·intro _;exact .inl a
  ·subst a
   by_cases hr0:r=0
   ·subst hr0;simp
   ·simp[hr0];lia
  ·have:(R+1)*B≤h*B:=Nat.mul_le_mul_right _ a
   rw[Nat.add_mul,Nat.one_mul]at this
   constructor
   ·rintro(z|⟨z,_⟩)<;>lia
   ·rintro(z|⟨z,_⟩)<;>lia
 simp only[c]
theorem Ij{M i:Nat}(h:M / 2^i≠0):Nat.log2 M=Nat.log2 (M / 2^i)+i:=by
 have hM:M≠0:=by intro z;rw[z,Nat.zero_div]at h;exact h rfl
 have h1:=Nat.log2_self_le h
 have h2:M / 2^i<2^(Nat.log2 (M / 2^i)+1):=Nat.lt_log2_self
 have a:Nat.log2 (M / 2^i)+i≤Nat.log2 M:=by
  rw[Nat.le_log2 hM,Nat.pow_add]
  exact(Nat.le_div_iff_mul_le (two_pos i)).mp h1
 have b:Nat.log2 M<Nat.log2 (M / 2^i)+i+1:=by
  rw[Nat.log2_lt hM]
  have:=(Nat.div_lt_iff_lt_mul (two_pos i)).mp h2
  rw[←Nat.pow_add]at this
  have e:Nat.log2 (M / 2^i)+1+i=Nat.log2 (M / 2^i)+i+1:=by lia
  rwa [e]at this
 lia
theorem kr{k:Kind}{neg:Bool}{M i:Nat}{E:Int}{more:Bool}(h:k.frac+1≤Nat.log2 (M / 2^i)):
  rounded k neg (M / 2^i) (E+i) (decide (M%2^i≠0)||more)=rounded k neg M E more:=by
 have h0:M / 2^i≠0:=by intro z;rw[z,Nat.log2_zero]at h;lia
 have hM:M≠0:=by intro z;rw[z,Nat.zero_div]at h0;exact h0 rfl
 have hl:=Ij h0
 rw[jW h0,jW hM]
 have hq:q_ k (M / 2^i) (E+i)=q_ k M E:=by unfold q_;rw[hl];lia
 have hq2:E+i<q_ k M E:=by unfold q_;rw[hl];lia
 have hn:n_ k (M / 2^i) (E+i) (decide (M%2^i≠0)||more)=n_ k M E more:=by
  unfold n_
  rw[hq,if_neg (by lia),if_neg (by lia),Ks (by lia)]
  congr 1
  lia
 rw[hq,hn]
theorem qY{k:Kind}{neg:Bool}{N:Nat}{E:Int}{more:Bool}(h:k.frac+1≤Nat.log2 N):
  rounded k neg N E more=rounded k neg (N*2+(if more=true then 1 else 0)) (E - 1) false:=by
 have e0:(N*2+(if more=true then 1 else 0)) / 2^1=N:=by split<;>lia
 have:=kr (k:=k) (neg:=neg) (M:=N*2+(if more=true then 1 else 0)) (i:=1) (E:=E - 1) (more:=false) (by rw[e0];exact h)
 rw[e0]at this
 rw[←this]
 have e1:E - 1+((1:Nat):Int)=E:=by lia
 have e2:(decide ((N*2+(if more=true then 1 else 0))%2^1≠0)||false)=more:=by
  cases more<;>simp<;>lia
 rw[e1,e2]
theorem JH{A1 B1 A2 B2:Nat}(h1:0<B1)(h2:0<B2)(h:A1*B2=A2*B1):A1 / B1=A2 / B2∧(A1%B1=0↔A2%B2=0):=by
 constructor
 ·rw[←Nat.mul_div_mul_right A1 B1 h2,←Nat.mul_div_mul_right A2 B2 h1,h,Nat.mul_comm B1 B2]
 ·have e1:=Nat.mul_mod_mul_right B2 A1 B1
  have e2:=Nat.mul_mod_mul_right B1 A2 B2
  rw[h,Nat.mul_comm B1 B2]at e1
  rw[e1]at e2
  constructor
  ·intro z
   rw[z,Nat.zero_mul]at e2
   rcases Nat.mul_eq_zero.mp e2.symm with q|q
   ·exact q
   ·lia
  ·intro z
   rw[z,Nat.zero_mul]at e2
   rcases Nat.mul_eq_zero.mp e2 with q|q
   ·exact q
   ·lia
theorem E3{A B i:Nat}(hB:0<B):A*2^i / B / 2^i=A / B∧((decide (A*2^i / B%2^i≠0)||decide (A*2^i%B≠0))=decide (A%B≠0)):=by
 have hd:A*2^i / B / 2^i=A / B:=by
  rw[Nat.div_div_eq_div_mul,Nat.mul_div_mul_right _ _ (two_pos i)]
 refine⟨hd,?_⟩
 have e1:=Nat.div_add_mod (A*2^i) B
 have e2:=Nat.div_add_mod (A*2^i / B) (2^i)
 have e3:=Nat.div_add_mod A B
 rw[hd]at e2
 have key:(A*2^i / B%2^i=0∧A*2^i%B=0)↔A%B=0:=by
  constructor
  ·rintro⟨z1,z2⟩
   rw[z1,Nat.add_zero]at e2
   rw[z2,Nat.add_zero,←e2,←Nat.mul_assoc,Nat.mul_comm B (2^i),Nat.mul_assoc,Nat.mul_comm A]at e1
   have:=Nat.eq_of_mul_eq_mul_left (two_pos i) e1
   lia
  ·intro z
   rw[z,Nat.add_zero]at e3
   have e4:A*2^i=B*(A / B*2^i):=by rw[←Nat.mul_assoc,e3]
   rw[e4]
   exact⟨by rw[Nat.mul_div_cancel_left _ hB];exact Nat.mul_mod_left _ _,Nat.mul_mod_right _ _⟩
 by_cases hz:A%B=0
 ·obtain⟨a,b⟩:=key.mpr hz
  simp[a,b,hz]
 ·by_cases a:A*2^i / B%2^i=0
  ·by_cases b:A*2^i%B=0
   ·exact absurd (key.mp ⟨a,b⟩) hz
   ·simp[b,hz]
  ·simp[a,hz]
theorem rB{k:Kind}{neg:Bool}{A1 B1 A2 B2 i:Nat}{E:Int}(h1:0<B1)(h2:0<B2)(h:A1*2^i*B2=A2*B1)(hl:k.frac+1≤Nat.log2 (A1 / B1)):
  rounded k neg (A1 / B1) (E+i) (decide (A1%B1≠0))=rounded k neg (A2 / B2) E (decide (A2%B2≠0)):=by
 obtain⟨q1,q2⟩:=JH h1 h2 h
 obtain⟨d1,d2⟩:=E3 (A:=A1) (i:=i) h1
 have e2:decide (A2%B2≠0)=decide (A1*2^i%B1≠0):=by
  by_cases z:A2%B2=0
  ·simp[z,q2.mpr z]
  ·have:¬A1*2^i%B1=0:=fun y=>z (q2.mp y)
   simp[z,this]
 rw[←q1,e2,←d2,←kr (M:=A1*2^i / B1) (i:=i) (by rw[d1];exact hl),d1]
def dc(k:Kind)(a b:Num):Nat:=((k.frac+1:Nat)+2+bl b.w) - bl a.w
def nR(k:Kind)(a b:Num):Num:=bX k (a.s != b.s) (a.w*2^dc k a b / b.w*2+(if a.w*2^dc k a b%b.w=0 then 0 else 1)) (a.p - b.p - dc k a b - 1)
theorem nZ(w:Nat):w<2^bl w:=by
 unfold bl
 split
 ·subst_vars;decide
 ·exact Nat.lt_log2_self
theorem xE{w:Nat}(h:w≠0):2^(bl w - 1)≤w∧1≤bl w:=by
 unfold bl
 rw[if_neg h]
 exact⟨Nat.log2_self_le h,by lia⟩
theorem kU(k:Kind)(x:Nat):(whole k x).1<2^(k.frac+1):=by
 have:=Nat.mod_lt x (two_pos k.frac)
 unfold whole
 rw[Nat.pow_succ]
 split
 ·show x%2^k.frac<_
  lia
 ·show x%2^k.frac+2^k.frac<_
  lia
theorem IK{k:Kind}(g:Good k)(hk:k.frac≤64){a b:Num}{x y:F}{c d:Int}(ha:Rep k a x)(hb:Rep k b y)(oa:Ok k a c)(hb0:b.w≠0)(hd:c - b.p≤d)(hl:k.least≤d)(hm:d<top k):
  ∃z,div k x y=some z∧Rep k (nR k a b) z∧Ok k (nR k a b) d:=by
 have hbw:(whole k y).1≠0:=fun z=>hb0 (hb.eqv.zero.mpr z)
 have hB:0<b.w:=Nat.pos_of_ne_zero hb0
 have hB2:0<(whole k y).1:=Nat.pos_of_ne_zero hbw
 have hhi:=oa.hi
 have hbd:gT (a.w*2^dc k a b / b.w*2+(if a.w*2^dc k a b%b.w=0 then 0 else 1)) (a.p - b.p - dc k a b - 1) d:=by
  have h1:a.w*2^dc k a b / b.w*2+(if a.w*2^dc k a b%b.w=0 then 0 else 1)≤a.w*2^(dc k a b+1):=by
   rw[Nat.pow_succ,←Nat.mul_assoc]
   generalize a.w*2^dc k a b=A
   have e:=Nat.div_add_mod A b.w
   by_cases hz:A%b.w=0
   ·rw[if_pos hz,Nat.add_zero]
    exact Nat.mul_le_mul_right _ (Nat.div_le_self _ _)
   ·rw[if_neg hz]
    have:1*(A / b.w)≤b.w*(A / b.w):=Nat.mul_le_mul_right _ hB
    lia
  refine gT.mono (b:=c - b.p) ?_ hd
  have h2:gT (a.w*2^(dc k a b+1)) (a.p - b.p - dc k a b - 1) (c - b.p):=by
   have h3:=oa.le.pow (-b.p)
   refine gT.eqv ?_ h3
   have:=(Eqv.shift a.w (a.p+ -b.p) (dc k a b+1)).symm
   have e:a.p+ -b.p - ((dc k a b+1:Nat):Int)=a.p - b.p - dc k a b - 1:=by lia
   rwa [e]at this
  exact gT.of_le (by lia) (Nat.le_trans h1 (h2.le (by lia)))
 obtain⟨z,z1,z2,z3⟩:=gD g (s:=a.s != b.s) (c:=d) (p:=a.p - b.p - dc k a b - 1) (by lia) hbd hl hm
 refine⟨z,?_,z2,z3⟩
 show(if(whole k y).1=0 then none else rounded k (negative k x != negative k y) ((whole k x).1*2^160 / (whole k y).1) ((whole k x).2 - (whole k y).2 - 160) ((whole k x).1*2^160%(whole k y).1 != 0))=some z
 rw[if_neg hbw,ha.sg,hb.sg,←z1]
 have qa:=ha.eqv
 have qb:=hb.eqv
 have ly:=kU k y
 revert hbw hB2 qa qb ly
 generalize (whole k x).1=m
 generalize (whole k x).2=e
 generalize (whole k y).1=n
 generalize (whole k y).2=f
 intro hbw hB2 qa qb ly
 by_cases ha0:a.w=0
 ·have hm0:m=0:=qa.zero.mp ha0
  rw[ha0,hm0]
  simp only[Nat.zero_mul,Nat.zero_div,Nat.zero_mod,if_true,Nat.add_zero]
  rw[ia,ia]
 ·have hm0:m≠0:=fun z=>ha0 (qa.zero.mpr z)
  obtain⟨a1,a2⟩:=xE ha0
  have hlog1:k.frac+1≤Nat.log2 (a.w*2^dc k a b / b.w):=by
   have hle:2^(k.frac+1)≤a.w*2^dc k a b / b.w:=by
    rw[Nat.le_div_iff_mul_le hB]
    have h1:2^(k.frac+1)*b.w≤2^(k.frac+1)*2^bl b.w:=Nat.mul_le_mul_left _ (Nat.le_of_lt (nZ _))
    have h2:2^(bl a.w - 1)*2^dc k a b≤a.w*2^dc k a b:=Nat.mul_le_mul_right _ a1
    refine Nat.le_trans h1 (Nat.le_trans ?_ h2)
    rw[←Nat.pow_add,←Nat.pow_add]
    refine Nat.pow_le_pow_right (by decide) ?_
    unfold dc
    lia
   rw[Nat.le_log2 (by have:=two_pos (k.frac+1);lia)]
   exact hle
  have hlog2:k.frac+1≤Nat.log2 (m*2^160 / n):=by
   have hle:2^(k.frac+1)≤m*2^160 / n:=by
    rw[Nat.le_div_iff_mul_le hB2]
    have h1:2^(k.frac+1)*n≤2^(k.frac+1)*2^(k.frac+1):=Nat.mul_le_mul_left _ (Nat.le_of_lt ly)
    have h2:1*2^160≤m*2^160:=Nat.mul_le_mul_right _ (Nat.pos_of_ne_zero hm0)
    refine Nat.le_trans h1 (Nat.le_trans ?_ h2)
    rw[←Nat.pow_add,Nat.one_mul]
    exact Nat.pow_le_pow_right (by decide) (by lia)
   rw[Nat.le_log2 (by have:=two_pos (k.frac+1);lia)]
   exact hle
  have em:(if a.w*2^dc k a b%b.w=0 then 0 else 1)=(if decide (a.w*2^dc k a b%b.w≠0)=true then 1 else 0):=by
   by_cases z:a.w*2^dc k a b%b.w=0<;>simp[z]
  rw[em,←qY hlog1]
  have en:(m*2^160%n != 0)=decide (m*2^160%n≠0):=by
   by_cases z:m*2^160%n=0<;>simp[z]
  rw[en]
  generalize hM:dc k a b=P at*
  have s1:sc (a.w*2^P) (a.p - P) (min (a.p - P) (e - 160))=sc (m*2^160) (e - (160:Nat)) (min (a.p - P) (e - 160)):=
   (((Eqv.shift a.w a.p P).trans qa).trans (Eqv.shift m e 160).symm).at (by lia) (by lia)
  have s2:sc b.w b.p (min b.p f)=sc n f (min b.p f):=qb.at (by lia) (by lia)
  by_cases ho:e - f - 160≤a.p - b.p - P
  ·-- the program's is the coarser
   have:=rB (k:=k) (neg:=a.s != b.s) (A1:=a.w*2^P) (B1:=b.w) (A2:=m*2^160) (B2:=n) (i:=(a.p - b.p - P - (e - f - 160)).toNat) (E:=e - f - 160) hB hB2 ?_ hlog1
   ·rw[←this]
    congr 1
    lia
   ·have hh:sc (a.w*2^P) (a.p - P) (min (a.p - P) (e - 160))*sc n f (min b.p f)=sc (m*2^160) (e - (160:Nat)) (min (a.p - P) (e - 160))*sc b.w b.p (min b.p f):=by rw[s1,s2]
    unfold sc at hh
    have r1:∀u v α β:Nat,u*2^α*(v*2^β)=u*v*2^(α+β):=fun u v α β=>by rw[Nat.pow_add];simp only[Nat.mul_assoc,Nat.mul_left_comm]
    rw[r1,r1]at hh
    have r2:(a.p - P - min (a.p - P) (e - 160)).toNat+(f - min b.p f).toNat=(a.p - b.p - P - (e - f - 160)).toNat+((e - (160:Nat) - min (a.p - P) (e - 160)).toNat+(b.p - min b.p f).toNat):=by
     have i1:=Int.min_le_left (a.p - P) (e - 160)
     have i2:=Int.min_le_right (a.p - P) (e - 160)
     have j1:=Int.min_le_left b.p f
     have j2:=Int.min_le_right b.p f
     generalize min (a.p - P) (e - 160)=x at i1 i2⊢
     generalize min b.p f=y at j1 j2⊢
     lia
    rw[r2,Nat.pow_add,←Nat.mul_assoc]at hh
    have:=Nat.eq_of_mul_eq_mul_right (two_pos _) hh
    rw[←this]
    simp only[Nat.mul_assoc,Nat.mul_left_comm,Nat.mul_comm]
  ·have:=rB (k:=k) (neg:=a.s != b.s) (A1:=m*2^160) (B1:=n) (A2:=a.w*2^P) (B2:=b.w) (i:=(e - f - 160 - (a.p - b.p - P)).toNat) (E:=a.p - b.p - P) hB2 hB ?_ hlog2
   ·rw[←this]
    congr 1
    lia
   ·have hh:sc (a.w*2^P) (a.p - P) (min (a.p - P) (e - 160))*sc n f (min b.p f)=sc (m*2^160) (e - (160:Nat)) (min (a.p - P) (e - 160))*sc b.w b.p (min b.p f):=by rw[s1,s2]
    unfold sc at hh
    have r1:∀u v α β:Nat,u*2^α*(v*2^β)=u*v*2^(α+β):=fun u v α β=>by rw[Nat.pow_add];simp only[Nat.mul_assoc,Nat.mul_left_comm]
    rw[r1,r1]at hh
    have r2:(e - (160:Nat) - min (a.p - P) (e - 160)).toNat+(b.p - min b.p f).toNat=(e - f - 160 - (a.p - b.p - P)).toNat+((a.p - P - min (a.p - P) (e - 160)).toNat+(f - min b.p f).toNat):=by
     have i1:=Int.min_le_left (a.p - P) (e - 160)
     have i2:=Int.min_le_right (a.p - P) (e - 160)
     have j1:=Int.min_le_left b.p f
     have j2:=Int.min_le_right b.p f
     generalize min (a.p - P) (e - 160)=x at i1 i2⊢
     generalize min b.p f=y at j1 j2⊢
     lia
    rw[r2,Nat.pow_add 2 (e - f - 160 - (a.p - b.p - P)).toNat,←Nat.mul_assoc (m*2^160*b.w)]at hh
    have:=Nat.eq_of_mul_eq_mul_right (two_pos _) hh
    rw[this]
    simp only[Nat.mul_assoc,Nat.mul_left_comm,Nat.mul_comm]
end TM
end
noncomputable section
namespace TM
open Rb50
theorem dB{w n:Nat}(h:w<2^n):bl w≤n:=by
 unfold bl
 split
 ·lia
 ·rename_i hw
  exact(Nat.log2_lt hw).mpr h
theorem rD{k:Kind}{s:Bool}{w:Nat}{p:Int}(hw:w<2^(k.frac+1))(hp:k.least≤p):bX k s w p=⟨s,w,p⟩:=by
 have h1:=dB hw
 unfold bX
 rw[if_pos]
 unfold over
 omega
theorem xy{k:Kind}(g:Good k){s:Bool}{w:Nat}{p c:Int}(hw:w<2^(k.frac+1))(hp:k.least≤p)(hpc:p≤c)(hc:gT w p c)(hm:c<top k):
  ∃x,rounded k s w p false=some x∧Rep k ⟨s,w,p⟩ x∧Ok k ⟨s,w,p⟩ c:=by
 have:=gD g (s:=s) hpc hc (by lia) hm
 rw[rD hw hp]at this
 exact this
def dW(z:Int):Num:=⟨decide (z<0),z.natAbs,0⟩
theorem fM{z:Int}{c:Int}(h:z.natAbs≤2^c.toNat)(h0:0≤c)(hc:c≤63):Rep EXT (dW z) (ofInt z)∧Ok EXT (dW z) c:=by
 have h2:z.natAbs<2^(EXT.frac+1):=by
  refine Nat.lt_of_le_of_lt h ?_
  refine(Nat.pow_lt_pow_iff_right (by decide)).mpr ?_
  show c.toNat<64
  lia
 obtain⟨x,a,b,d⟩:=xy gG (s:=decide (z<0)) (w:=z.natAbs) (p:=0) (c:=c) h2 (by rw[dQ];decide) h0 (gT.of_le h0 (by simpa using h)) (by rw[kg];lia)
 refine⟨?_,d⟩
 unfold ofInt
 rw[a]
 exact b
theorem Eh{m:Nat}{e c:Int}(h:m<2^64)(he: -16445≤e)(hec:e≤c)(hl:m≤2^(c - e).toNat)(hc:c<16384):Rep EXT ⟨false,m,e⟩ (just m e)∧Ok EXT ⟨false,m,e⟩ c:=by
 obtain⟨x,a,b,d⟩:=xy gG (s:=false) (w:=m) (p:=e) (c:=c) h (by rw[dQ];exact he) hec (gT.of_le hec hl) (by rw[kg];exact hc)
 refine⟨?_,d⟩
 unfold just
 rw[a]
 exact b
def gX(k:Kind)(x:F):Num:=⟨negative k x,(whole k x).1,(whole k x).2⟩
theorem rM{x:F}{c:Int}(hp:(whole SINGLE x).2≤c)(hc:gT (whole SINGLE x).1 (whole SINGLE x).2 c)(hm:c<16384):Rep EXT (gX SINGLE x) (other SINGLE EXT x)∧Ok EXT (gX SINGLE x) c:=by
 have h1:=kU SINGLE x
 have h2:=gU SINGLE x
 have h3:(whole SINGLE x).1<2^(EXT.frac+1):=Nat.lt_of_lt_of_le h1 (Nat.pow_le_pow_right (by decide) (by decide))
 rw[dw]at h2
 obtain⟨z,a,b,d⟩:=xy gG (s:=negative SINGLE x) (w:=(whole SINGLE x).1) (p:=(whole SINGLE x).2) (c:=c) h3 (by rw[dQ];lia) hp hc (by rw[kg];exact hm)
 refine⟨?_,d⟩
 unfold other
 rw[a]
 exact b
theorem wM{k:Kind}{x:F}{c:Int}(hx:x<2*k.sign)(hf:finite k x=true)(hp:(whole k x).2≤c)(hc:gT (whole k x).1 (whole k x).2 c):Rep k (gX k x) x∧Ok k (gX k x) c:=
 ⟨⟨rfl,Eqv.refl _ _,hx,hf⟩,⟨Nat.le_of_lt (kU k x),gU k x,hp,hc⟩⟩
def uR(k:Kind)(a:Num)(d:Int):Num:=bX k a.s a.w (a.p+d)
theorem EZ{a:Num}{x:F}{c d:Int}(ha:Rep EXT a x)(oa:Ok EXT a c)(hd:d≤0)(hl: -16445≤c)(hm:c<16384):Rep EXT (uR EXT a d) (Rb50.scaled x d)∧Ok EXT (uR EXT a d) c:=by
 have:=oa.hi
 obtain⟨z,h1,h2,h3⟩:=gD gG (s:=a.s) (w:=a.w) (p:=a.p+d) (c:=c) (by lia) ((oa.le.pow d).mono (by lia)) (by rw[dQ];exact hl) (by rw[kg];exact hm)
 refine⟨?_,h3⟩
 unfold Rb50.scaled
 rw[ha.sg,←jd (ha.eqv.pow d),h1]
 exact h2
def dR(k:Kind)(a:Num):Num:=bX k a.s a.w a.p
theorem jY{j k:Kind}(g:Good k){a:Num}{x:F}{c:Int}(ha:Rep j a x)(oa:Ok j a c)(hl:k.least≤c)(hm:c<top k):Rep k (dR k a) (other j k x)∧Ok k (dR k a) c:=by
 obtain⟨z,h1,h2,h3⟩:=gD g (s:=a.s) (w:=a.w) (p:=a.p) (c:=c) oa.hi oa.le hl hm
 refine⟨?_,h3⟩
 unfold other
 rw[ha.sg,←jd ha.eqv,h1]
 exact h2
theorem zL{a b:Num}{x y:F}{c:Int}(ha:Rep EXT a x)(hb:Rep EXT b y)(oa:Ok EXT a c)(ob:Ok EXT b c)(hl: -16445≤c)(hm:c+1<16384):Rep EXT (bL EXT a b) (plus x y)∧Ok EXT (bL EXT a b) (c+1):=by
 obtain⟨z,h1,h2,h3⟩:=Au gG ha hb oa ob (by rw[dQ];exact hl) (by rw[kg];exact hm)
 refine⟨?_,h3⟩
 unfold plus
 rw[h1]
 exact h2
theorem Ed{a b:Num}{x y:F}{c:Int}(ha:Rep EXT a x)(hb:Rep EXT b y)(oa:Ok EXT a c)(ob:Ok EXT b c)(hl: -16445≤c)(hm:c+1<16384):Rep EXT (fD EXT a b) (less x y)∧Ok EXT (fD EXT a b) (c+1):=by
 obtain⟨z,h1,h2,h3⟩:=GI gG ha hb oa ob (by rw[dQ];exact hl) (by rw[kg];exact hm)
 refine⟨?_,h3⟩
 unfold less
 rw[h1]
 exact h2
theorem fu{a b:Num}{x y:F}{c d:Int}(ha:Rep EXT a x)(hb:Rep EXT b y)(oa:Ok EXT a c)(ob:Ok EXT b d)(hl: -16445≤c+d)(hm:c+d<16384):Rep EXT (bC EXT a b) (times x y)∧Ok EXT (bC EXT a b) (c+d):=by
 obtain⟨z,h1,h2,h3⟩:=HX gG ha hb oa ob (by rw[dQ];exact hl) (by rw[kg];exact hm)
 refine⟨?_,h3⟩
 unfold times
 rw[h1]
 exact h2
theorem Ey{a b:Num}{x y:F}{c d:Int}(ha:Rep EXT a x)(hb:Rep EXT b y)(oa:Ok EXT a c)(hb0:b.w≠0)(hd:c - b.p≤d)(hl: -16445≤d)(hm:d<16384):Rep EXT (nR EXT a b) (by_ x y)∧Ok EXT (nR EXT a b) d:=by
 obtain⟨z,h1,h2,h3⟩:=IK gG (by decide) ha hb oa hb0 hd (by rw[dQ];exact hl) (by rw[kg];exact hm)
 refine⟨?_,h3⟩
 unfold by_
 rw[h1]
 exact h2
def dG(k:Kind)(a:Num):Int:=min (((k.frac+1:Nat):Int) - (bl a.w:Int)) (a.p - k.least)
def ju(k:Kind)(a:Num):Nat:=a.w*2^(dG k a+1).toNat / 2
theorem AX{k:Kind}{a:Num}{c:Int}(o:Ok k a c): -1≤dG k a:=by
 have h1:=o.lo
 have h2:bl a.w≤k.frac+2:=by
  refine dB (Nat.lt_of_le_of_lt o.w ?_)
  exact(Nat.pow_lt_pow_iff_right (by decide)).mpr (by lia)
 unfold dG
 lia
theorem Fy{k:Kind}{m n:Nat}{e f:Int}(hm:m<2^(k.frac+1))(hn:n<2^(k.frac+1))(he:k.least≤e)(hf:k.least≤f)(hm1:m<2^k.frac→e=k.least)(hn1:n<2^k.frac→f=k.least)(h:Eqv m e n f)(h0:m≠0):m=n∧e=f:=by
 have aux:∀{m n:Nat} {e f:Int} (j:Nat),m<2^(k.frac+1)→k.least≤e→(n<2^k.frac→f=k.least)→e=f - j→m=n*2^j→m=n∧e=f:=by
  intro m n e f j hm he hn1 h1 h2
  by_cases hj:j=0
  ·subst hj;simp at h1 h2;exact⟨h2,h1⟩
  ·exfalso
   have:n<2^k.frac:=by
    have h3:n*2^1≤n*2^j:=Nat.mul_le_mul_left _ (Nat.pow_le_pow_right (by decide) (by lia))
    rw[Nat.pow_succ]at hm
    lia
   have:=hn1 this
   lia
 rcases h.cases with⟨j,h1,h2⟩|⟨j,h1,h2⟩
 ·exact aux j hm he hn1 h1 h2
 ·have:=aux j hn hf hm1 h1 h2
  exact⟨this.1.symm,this.2.symm⟩
theorem x9(k:Kind)(x:Nat)(h:(whole k x).1<2^k.frac):(whole k x).2=k.least:=by
 unfold whole at h⊢
 split
 ·rfl
 ·rename_i hf
  rw[if_neg hf]at h
  exact absurd (show x%2^k.frac+2^k.frac<2^k.frac from h) (by lia)
theorem FG{k:Kind}{a:Num}{x:F}{c:Int}(ha:Rep k a x)(o:Ok k a c)(h0:a.w≠0):ju k a=(whole k x).1∧a.p - dG k a=(whole k x).2:=by
 have hs:=AX o
 have hlo:=o.lo
 obtain⟨b1,b2⟩:=xE h0
 have b3:=nZ a.w
 have hE:Eqv (ju k a) (a.p - dG k a) a.w a.p:=by
  unfold ju
  by_cases hz:dG k a=-1
  ·rw[hz]
   have hw:a.w=2^(k.frac+1):=by
    have h1:k.frac+2≤bl a.w:=by unfold dG at hz;lia
    have h2:2^(k.frac+1)≤a.w:=Nat.le_trans (Nat.pow_le_pow_right (by decide) (by lia)) b1
    exact Nat.le_antisymm o.w h2
   rw[hw]
   have:=(Eqv.shift (2^k.frac) (a.p - -1) 1).symm
   have e1:a.p - -1 - ((1:Nat):Int)=a.p:=by lia
   rw[e1,←Nat.pow_add]at this
   have e2:2^(k.frac+1)*2^((-1:Int)+1).toNat / 2=2^k.frac:=by
    show 2^(k.frac+1)*2^0 / 2=2^k.frac
    rw[Nat.pow_zero,Nat.mul_one,Nat.pow_succ,Nat.mul_div_cancel _ (by decide)]
   rw[e2]
   exact this
  ·have e1:(dG k a+1).toNat=(dG k a).toNat+1:=by lia
   rw[e1,Nat.pow_succ,←Nat.mul_assoc,Nat.mul_div_cancel _ (by decide)]
   have:=Eqv.shift a.w a.p (dG k a).toNat
   have e2:a.p - ((dG k a).toNat:Int)=a.p - dG k a:=by lia
   rw[e2]at this
   exact this
 have hlt:ju k a<2^(k.frac+1):=by
  unfold ju
  rw[Nat.div_lt_iff_lt_mul (by decide),←Nat.pow_succ]
  refine Nat.lt_of_lt_of_le (Nat.mul_lt_mul_of_pos_right b3 (two_pos _)) ?_
  rw[←Nat.pow_add]
  refine Nat.pow_le_pow_right (by decide) ?_
  unfold dG at hs⊢
  omega
 have hlow:ju k a<2^k.frac→a.p - dG k a=k.least:=by
  intro hl
  by_cases hz:dG k a=a.p - k.least
  ·lia
  ·exfalso
   have hz2:dG k a=((k.frac+1:Nat):Int) - (bl a.w:Int):=by unfold dG at hz⊢;lia
   unfold ju at hl
   rw[Nat.div_lt_iff_lt_mul (by decide),←Nat.pow_succ]at hl
   have h5:2^(k.frac+1)≤a.w*2^(dG k a+1).toNat:=by
    refine Nat.le_trans ?_ (Nat.mul_le_mul_right _ b1)
    rw[←Nat.pow_add]
    exact Nat.pow_le_pow_right (by decide) (by lia)
   lia
 have hne:ju k a≠0:=fun z=>h0 (hE.zero.mp z)
 exact Fy hlt (kU k x) (by unfold dG;lia) (gU k x) hlow (x9 k x) (hE.trans ha.eqv) hne
end TM
end
noncomputable section
namespace TM
open Rb50
def rJ(k:Kind)(stored place:Nat)(a:Num):Nat:=
 (if a.s=true then 2^place else 0)+(if bl (ju k a)<k.frac+1 then ju k a else(a.p - dG k a - k.least+1).toNat*2^stored+ju k a%2^stored)
theorem xG{k:Kind}{x:Nat}(hx:x<2*k.sign):x=signBit k (negative k x)+(field k x*2^k.frac+x%2^k.frac)∧field k x<2^k.expo:=by
 have h1:field k x<2^k.expo:=Nat.mod_lt _ (two_pos _)
 refine⟨?_,h1⟩
 have e1:=Nat.div_add_mod x (2^k.frac)
 have e2:=Nat.div_add_mod (x / 2^k.frac) (2^k.expo)
 have e3:x / 2^k.frac / 2^k.expo=x / k.sign:=by unfold Kind.sign;rw[Nat.div_div_eq_div_mul,←Nat.pow_add]
 have hs:=vA k
 have hsig:k.sign=2^k.frac*2^k.expo:=by unfold Kind.sign;rw[Nat.pow_add]
 unfold signBit negative
 by_cases hn:k.sign≤x
 ·have e4:x / k.sign=1:=by
   refine Nat.le_antisymm ?_ ((Nat.le_div_iff_mul_le hs).mpr (by lia))
   have:=(Nat.div_lt_iff_lt_mul hs).mpr hx
   lia
  rw[e3,e4,Nat.mul_one]at e2
  rw[if_pos (decide_eq_true hn),hsig]
  unfold field
  have:2^k.frac*(x / 2^k.frac)=2^k.frac*2^k.expo+x / 2^k.frac%2^k.expo*2^k.frac:=by
   conv=>lhs;rw[←e2]
   rw[Nat.mul_add,Nat.mul_comm (2^k.frac) (x / 2^k.frac%2^k.expo)]
  lia
 ·have e4:x / k.sign=0:=Nat.div_eq_of_lt (by lia)
  rw[e3,e4,Nat.mul_zero,Nat.zero_add]at e2
  rw[if_neg (by simpa using hn)]
  unfold field
  rw[e2,Nat.mul_comm,Nat.zero_add]
  lia
theorem oz{k:Kind}{x:Nat}:(whole k x).1<2^k.frac↔field k x=0:=by
 unfold whole
 have:=Nat.mod_lt x (two_pos k.frac)
 split
 ·rename_i h;exact⟨fun _=>h,fun _=>this⟩
 ·rename_i h;exact⟨fun z=>absurd (show x%2^k.frac+2^k.frac<2^k.frac from z) (by lia),fun z=>absurd z h⟩
theorem Ld{w n:Nat}(h:bl w<n+1):w<2^n:=Nat.lt_of_lt_of_le (nZ w) (Nat.pow_le_pow_right (by decide) (by lia))
theorem BJ{k:Kind}{a:Num}{x:F}{c:Int}(ha:Rep k a x)(o:Ok k a c):ju k a=(whole k x).1∧(field k x≠0→a.p - dG k a=(whole k x).2):=by
 by_cases h0:a.w=0
 ·have h1:=ha.eqv.zero.mp h0
  refine⟨by rw[h1];unfold ju;rw[h0,Nat.zero_mul],fun hf=>?_⟩
  exfalso
  refine hf (oz.mp ?_)
  rw[h1]
  exact two_pos _
 ·have:=FG ha o h0
  exact⟨this.1,fun _=>this.2⟩
theorem Ez{k:Kind}{a:Num}{x:F}{c:Int}(ha:Rep k a x)(o:Ok k a c):rJ k k.frac (k.frac+k.expo) a=x:=by
 obtain⟨m1,m2⟩:=BJ ha o
 obtain⟨s1,s2⟩:=xG ha.lt
 have hw:=kU k x
 unfold rJ
 rw[m1]
 have hsg:(if a.s=true then 2^(k.frac+k.expo)else 0)=signBit k (negative k x):=by rw[ha.sg];rfl
 rw[hsg]
 have hfw:=oz (k:=k) (x:=x)
 by_cases hf:field k x=0
 ·have h3:=hfw.mpr hf
  rw[if_pos (by have:=dB h3;lia)]
  conv=>rhs;rw[s1]
  rw[hf,Nat.zero_mul,Nat.zero_add]
  unfold whole
  rw[if_pos hf]
 ·have h3:¬(whole k x).1<2^k.frac:=fun z=>hf (hfw.mp z)
  rw[if_neg (fun z=>h3 (Ld z)),m2 hf]
  conv=>rhs;rw[s1]
  unfold whole
  rw[if_neg hf]
  show signBit k (negative k x)+((k.least+(field k x:Int) - 1 - k.least+1).toNat*2^k.frac+(x%2^k.frac+2^k.frac)%2^k.frac)=_
  have e1:(k.least+(field k x:Int) - 1 - k.least+1).toNat=field k x:=by lia
  rw[e1,Nat.add_mod_right,Nat.mod_mod]
theorem Ln{a:Num}{x:Nat}{c:Int}(ha:Rep EXT a x)(o:Ok EXT a c):rJ EXT 64 79 a=tenBytes x:=by
 obtain⟨m1,m2⟩:=BJ ha o
 obtain⟨s1,s2⟩:=xG ha.lt
 have hw:=kU EXT x
 have hfw:=oz (k:=EXT) (x:=x)
 have hr:x%2^63<2^63:=Nat.mod_lt _ (by decide)
 have hd:x / 2^63=(if a.s=true then 2^15 else 0)+field EXT x:=by
  have h1:signBit EXT (negative EXT x)=(if a.s=true then 2^15 else 0)*2^63:=by
   rw[ha.sg];unfold signBit;split<;>rfl
  rw[h1]at s1
  have h2:x=x%2^63+((if a.s=true then 2^15 else 0)+field EXT x)*2^63:=by
   rw[Nat.add_mul]
   have h3:x=(if a.s=true then 2^15 else 0)*2^63+(field EXT x*2^63+x%2^63):=s1
   lia
  conv=>lhs;rw[h2]
  rw[Nat.add_mul_div_right _ _ (by decide),Nat.div_eq_of_lt hr,Nat.zero_add]
 unfold rJ tenBytes
 rw[m1,hd]
 have h79:(if a.s=true then 2^79 else 0)=(if a.s=true then 2^15 else 0)*2^64:=by split<;>rfl
 rw[h79]
 by_cases hf:field EXT x=0
 ·have h3:=hfw.mpr hf
  have hb:bl (whole EXT x).1<EXT.frac+1:=by have:=dB h3;lia
  rw[if_pos hb,if_pos hf,hf]
  unfold whole
  rw[if_pos hf]
  show _+x%2^63=_
  lia
 ·have h3:¬(whole EXT x).1<2^EXT.frac:=fun z=>hf (hfw.mp z)
  have hb:¬bl (whole EXT x).1<EXT.frac+1:=fun z=>h3 (Ld z)
  rw[if_neg hb,m2 hf,if_neg hf]
  unfold whole
  rw[if_neg hf]
  show _+((EXT.least+(field EXT x:Int) - 1 - EXT.least+1).toNat*2^64+(x%2^63+2^63)%2^64)=_
  have e1:(EXT.least+(field EXT x:Int) - 1 - EXT.least+1).toNat=field EXT x:=by lia
  rw[e1,Nat.mod_eq_of_lt (by lia),Nat.add_mul]
  lia
def j8(a:Num):Int:=sgn a.s*(a.w:Int)
def wk(a:Num):Int:=if 0≤a.p then j8 a*2^a.p.toNat else sgn a.s*(cut a.w (-a.p).toNat false:Int)
def wu(a:Num):Int:=if 0≤a.p then j8 a*2^a.p.toNat else j8 a / 2^(-a.p).toNat
theorem x6{k:Kind}{a:Num}{x:F}(ha:Rep k a x)(hp:k.least≤a.p):worth k x=sgn a.s*(sc a.w a.p k.least:Int):=by
 unfold worth
 rw[ha.sg,ha.eqv.at (G:=k.least) hp (gU k x)]
 rfl
theorem ie(n:Nat):((2^n:Nat):Int)=(2:Int)^n:=by rw[Int.natCast_pow];rfl
theorem lS(n:Nat):(0:Int)<2^n:=by rw[←ie];exact Int.natCast_pos.mpr (two_pos n)
theorem tS{a:Num}{x:F}(ha:Rep EXT a x)(hp:EXT.least≤a.p):
  (0≤a.p→worth EXT x=j8 a*2^a.p.toNat*(EXT.ones:Int))∧(a.p<0→worth EXT x=j8 a*(2:Int)^(a.p - EXT.least).toNat∧(EXT.ones:Int)=(2:Int)^(-a.p).toNat*(2:Int)^(a.p - EXT.least).toNat):=by
 rw[x6 ha hp]
 unfold sc j8 Kind.ones
 have hl:=dQ
 constructor
 ·intro h
  have e1:(a.p - EXT.least).toNat=a.p.toNat+(-EXT.least).toNat:=by lia
  rw[e1,Nat.pow_add]
  simp only[Int.natCast_mul,ie,Int.mul_assoc]
 ·intro h
  refine⟨by simp only[Int.natCast_mul,ie,Int.mul_assoc],?_⟩
  have e1:(-EXT.least).toNat=(-a.p).toNat+(a.p - EXT.least).toNat:=by lia
  rw[e1,ie,Int.pow_add]
theorem IB{a:Num}{x:F}(ha:Rep EXT a x)(hp:EXT.least≤a.p):Rb50.floor x=wu a:=by
 obtain⟨h1,h2⟩:=tS ha hp
 unfold Rb50.floor wu
 by_cases h:0≤a.p
 ·rw[if_pos h,h1 h]
  have:(EXT.ones:Int)≠0:=by unfold Kind.ones;rw[ie];have:=lS (-EXT.least).toNat;lia
  exact Int.mul_ediv_cancel _ this
 ·rw[if_neg h]
  obtain⟨h3,h4⟩:=h2 (by lia)
  rw[h3,h4]
  exact Int.mul_ediv_mul_of_pos_left _ _ (lS _)
def pZ(z d:Int):Int:=if 2*(z%d)>d∨(2*(z%d)=d∧z / d%2=1)then z / d+1 else z / d
theorem BF{z d c:Int}(hc:0<c):pZ (z*c) (d*c)=pZ z d:=by
 unfold pZ
 rw[Int.mul_ediv_mul_of_pos_left _ _ hc,show z*c%(d*c)=z%d*c by rw[Int.mul_comm z c,Int.mul_comm d c,Int.mul_emod_mul_of_pos _ _ hc,Int.mul_comm]]
 have a1:(2*(z%d*c)>d*c)↔2*(z%d)>d:=by
  rw[←Int.mul_assoc]
  exact Int.mul_lt_mul_right hc
 have a2:(2*(z%d*c)=d*c)↔2*(z%d)=d:=by
  rw[←Int.mul_assoc]
  exact⟨fun h=>Int.eq_of_mul_eq_mul_right (by lia) h,fun h=>by rw[h]⟩
 simp only[a1,a2]
theorem FD{z d:Int}(hd:0<d):pZ (-z) d=-pZ z d:=by
 unfold pZ
 have e1:=Int.mul_ediv_add_emod z d
 have r1:=Int.emod_nonneg z (by lia:d≠0)
 have r2:=Int.emod_lt_of_pos z hd
 by_cases h0:z%d=0
 ·have hz: -z=d*(-(z / d)):=by rw[Int.mul_neg];lia
  have q: -z / d=-(z / d):=by rw[hz,Int.mul_ediv_cancel_left _ (by lia)]
  have m: -z%d=0:=by rw[hz,Int.mul_emod_right]
  rw[q,m,h0]
  rw[if_neg (by lia),if_neg (by lia)]
 ·have q: -z / d=-(z / d) - 1:=by
   have hz: -z=(d - z%d)+d*(-(z / d) - 1):=by rw[Int.mul_sub,Int.mul_neg];lia
   rw[hz,Int.add_mul_ediv_left _ _ (by lia),Int.ediv_eq_zero_of_lt (by lia) (by lia)]
   lia
  have m: -z%d=d - z%d:=by
   have hz: -z=(d - z%d)+d*(-(z / d) - 1):=by rw[Int.mul_sub,Int.mul_neg];lia
   rw[hz,Int.add_mul_emod_self_left,Int.emod_eq_of_lt (by lia) (by lia)]
  rw[q,m]
  generalize z / d=Q
  generalize z%d=R at*
  by_cases c1:2*R>d
  ·rw[if_pos (show 2*R>d∨_ from .inl c1),if_neg (by lia)];lia
  ·by_cases c2:2*R=d
   ·by_cases c3:Q%2=1
    ·rw[if_pos (show 2*R>d∨2*R=d∧Q%2=1 from .inr ⟨c2,c3⟩),if_neg (by lia)];lia
    ·rw[if_neg (show ¬(2*R>d∨2*R=d∧Q%2=1) by lia),if_pos (by lia)];lia
   ·rw[if_neg (show ¬(2*R>d∨2*R=d∧Q%2=1) by lia),if_pos (by lia)];lia
theorem yN{w d:Nat}(hd:0<d):pZ (w:Int) ((2:Int)^d)=(cut w d false:Int):=by
 unfold pZ cut
 rw[←ie,←Int.natCast_ediv,←Int.natCast_emod]
 have e:2^d=2*2^(d - 1):=by
  have:d=(d - 1)+1:=by lia
  conv=>lhs;rw[this,Nat.pow_succ]
  lia
 rw[e]
 generalize 2^(d - 1)=h
 generalize w / (2*h)=Q
 generalize w%(2*h)=R
 by_cases c:h<R∨(R=h∧Q%2=1)
 ·rw[if_pos (by lia),if_pos (by simpa using c)];lia
 ·rw[if_neg (by lia),if_neg (by simpa using c)];lia
theorem wO{a:Num}{x:F}(ha:Rep EXT a x)(hp:EXT.least≤a.p):nearest x=wk a:=by
 obtain⟨h1,h2⟩:=tS ha hp
 show pZ (worth EXT x) (EXT.ones:Int)=wk a
 unfold wk
 by_cases h:0≤a.p
 ·rw[if_pos h,h1 h]
  have hpos:(0:Int)<(EXT.ones:Int):=by unfold Kind.ones;rw[ie];exact lS _
  generalize (EXT.ones:Int)=d at hpos
  unfold pZ
  rw[Int.mul_emod_left,Int.mul_ediv_cancel _ (by lia),if_neg (by lia)]
 ·rw[if_neg h]
  obtain⟨h3,h4⟩:=h2 (by lia)
  rw[h3,h4,BF (lS _)]
  unfold j8 sgn
  split
  ·rw[Int.neg_one_mul,FD (lS _),yN (by lia),Int.neg_one_mul]
  ·rw[Int.one_mul,yN (by lia),Int.one_mul]
end TM
end
noncomputable section
set_option exponentiation.threshold 20000
namespace TM
open Rb50
def term(x:(Nat×Int)×Nat):Num:=⟨decide (x.2%2=1),x.1.1,x.1.2⟩
def terms(l:List (Nat×Int)):List Num:=(l.zipIdx.map term).reverse
def e8(ts:List Num)(u:Num):Num:=match ts with
 |[]=>⟨false,0,0⟩
 |t::r=>r.foldl (fun a b=>bL EXT (bC EXT a u) b) t
def small(x:Nat×Int):Bool:=decide (x.1<2^64)&&decide (-16445≤x.2)&&decide (x.2≤0)&&decide (x.1≤2^(0 - x.2).toNat)
theorem Jl{x:(Nat×Int)×Nat}(h:small x.1=true):Rep EXT (term x) (if x.2%2=0 then just x.1.1 x.1.2 else opposite EXT (just x.1.1 x.1.2))∧Ok EXT (term x) 0:=by
 unfold small at h
 simp only[Bool.and_eq_true,decide_eq_true_eq]at h
 obtain⟨⟨⟨h1,h2⟩,h3⟩,h4⟩:=h
 obtain⟨r,o⟩:=Eh (c:=0) h1 h2 h3 h4 (by decide)
 unfold term
 by_cases hx:x.2%2=0
 ·rw[if_pos hx,decide_eq_false (by lia)]
  exact⟨r,o⟩
 ·rw[if_neg hx,decide_eq_true (by lia)]
  exact⟨gM r,iI o⟩
inductive sf:List Num→List F→Prop
 |nil:sf [] []
 |cons {n x ns xs}:Rep EXT n x∧Ok EXT n 0→sf ns xs→sf (n::ns) (x::xs)
theorem sf.append{ns xs ms ys}(h:sf ns xs)(h':sf ms ys):sf (ns++ms) (xs++ys):=by
 induction h with
 |nil=>exact h'
 |cons r _ ih=>exact .cons r ih
theorem sf.reverse{ns xs}(h:sf ns xs):sf ns.reverse xs.reverse:=by
 induction h with
 |nil=>exact .nil
 |cons r _ ih=>rw[List.reverse_cons,List.reverse_cons];exact ih.append (.cons r .nil)
theorem Gy{l:List (Nat×Int)}(h:(l.all small)=true):sf (terms l) (numbersOf l).reverse:=by
 refine sf.reverse ?_
 unfold numbersOf
 have aux:∀(l:List (Nat×Int)) (i:Nat),l.all small=true→sf ((l.zipIdx i).map term) ((l.zipIdx i).map fun(x:(Nat×Int)×Nat)=>if x.2%2=0 then just x.1.1 x.1.2 else opposite EXT (just x.1.1 x.1.2)):=by
  intro l
  induction l with
  |nil=>intro i _;exact .nil
  |cons a l ih=>
   intro i h
   rw[List.all_cons,Bool.and_eq_true]at h
   exact .cons (Jl (x:=(a,i)) h.1) (ih (i+1) h.2)
 exact aux l 0 h
theorem Kp{u:Num}{y:F}(hu:Rep EXT u y)(ou:Ok EXT u 0):∀{ns xs} (h:sf ns xs) {a:Num} {x:F} {c:Int},Rep EXT a x→Ok EXT a c→0≤c→c+ns.length<16384→
  Rep EXT (ns.foldl (fun a b=>bL EXT (bC EXT a u) b) a) (xs.foldl (fun(a b:F)=>plus (times a y) b) x)∧Ok EXT (ns.foldl (fun a b=>bL EXT (bC EXT a u) b) a) (c+ns.length):=by
 intro ns xs h
 induction h with
 |nil=>intro a x c ha oa _ _;exact⟨ha,by simpa using oa⟩
 |@cons n z ns zs r _ ih=>
  intro a x c ha oa h0 hl
  simp only[List.length_cons]at hl
  obtain⟨t1,t2⟩:=fu ha hu oa ou (by lia) (by lia)
  rw[Int.add_zero]at t2
  obtain⟨s1,s2⟩:=zL t1 r.1 t2 (r.2.mono h0) (by lia) (by lia)
  have:=ih s1 s2 (by lia) (by lia)
  refine⟨this.1,this.2.mono ?_⟩
  simp only[List.length_cons]
  lia
theorem sH{l:List (Nat×Int)}{u:Num}{y:F}(h:(l.all small)=true)(hu:Rep EXT u y)(ou:Ok EXT u 0)(hn:l.length≤11)(h0:l≠[]):Rep EXT (e8 (terms l) u) (horner y (numbersOf l))∧Ok EXT (e8 (terms l) u) 10:=by
 have h1:=Gy h
 have h2:(terms l).length=l.length:=by unfold terms;simp
 unfold horner e8
 generalize terms l=ts at*
 generalize (numbersOf l).reverse=xs at*
 cases h1 with
 |nil=>
  exfalso
  apply h0
  cases l with
  |nil=>rfl
  |cons=>simp at h2
 |@cons n z ns zs r hr=>
  have:=Kp hu ou hr r.1 r.2 (by lia) (by simp at h2;lia)
  simp at h2
  exact⟨this.1,this.2.mono (by lia)⟩
theorem Eu{m d X:Nat}(hd:0<d)(h:m≤X*2^d):cut m d false≤X:=by
 by_cases e:m=X*2^d
 ·have:=lV (m:=X) (Nat.le_refl d) hd
  rw[e,this,Nat.sub_self,Nat.pow_zero,Nat.mul_one]
  exact Nat.le_refl _
 ·exact xB (by rw[Nat.mul_comm];lia) _
theorem yU{w:Nat}(h:64<bl w):2^63≤cut w (bl w - 64) false∧cut w (bl w - 64) false≤2^64:=by
 have hw:w≠0:=by intro z;rw[z]at h;simp[bl]at h
 have h1:=(xE hw).1
 have h2:=nZ w
 constructor
 ·refine Ik ?_ _
  rw[←Nat.pow_add]
  have:63+(bl w - 64)=bl w - 1:=by lia
  rw[this];exact h1
 ·refine xB ?_ _
  rw[←Nat.pow_add]
  have:bl w - 64+64=bl w:=by lia
  rw[this];exact h2
theorem HR{m w:Nat}{e p:Int}(k:Kind)(hm:m≠0)(h:Eqv m e w p):n_ k m e false=n_ k w p false∧q_ k m e=q_ k w p:=by
 rcases h.cases with⟨j,rfl,rfl⟩|⟨j,rfl,rfl⟩
 ·have hw:w≠0:=by intro z;rw[z,Nat.zero_mul]at hm;exact hm rfl
  exact⟨z8 hw p j,uP hw p j⟩
 ·exact⟨(z8 hm e j).symm,(uP hm e j).symm⟩
theorem ud{s:Bool}{m w:Nat}{e p:Int}(h:Eqv m e w p)(hb:64<bl w)(hp: -16445≤p):
  Eqv (bX EXT s m e).w (bX EXT s m e).p (cut w (bl w - 64) false) (p+((bl w - 64:Nat):Int)):=by
 have hw:w≠0:=by intro z;rw[z]at hb;simp[bl]at hb
 have hm:m≠0:=fun z=>hw (h.zero.mp z)
 have h1:=jX (k:=EXT) (s:=s) (p:=e) hm
 obtain⟨e1,e2⟩:=HR EXT hm h
 rw[e1,e2]at h1
 have ho:=CM (k:=EXT) (p:=p) hw
 have hov:over EXT w p=((bl w - 64:Nat):Int):=by
  unfold over
  rw[dQ]
  show max ((bl w:Int) - ((64:Nat):Int)) _=_
  lia
 rw[hov]at ho
 unfold n_ at h1
 rw[if_neg (by lia),ho]at h1
 have e3:(p+((bl w - 64:Nat):Int) - p).toNat=bl w - 64:=by lia
 rw[e3]at h1
 exact h1
def Aw(f:Nat)(fp:Int)(a b:Nat×Int):Nat×Int:=
 let o:=bl (a.1*f) - 64
 let P:=a.2+fp+(o:Int)
 let r:=b.1*2^(b.2 - P).toNat - cut (a.1*f) o false
 (cut r (bl r - 64) false,P+((bl r - 64:Nat):Int))
structure Av(f:Nat)(fp:Int)(a b:Nat×Int):Prop where
 o1:64<bl (a.1*f)
 Ot:bl (a.1*f)≤200
 sh:a.2+fp+((bl (a.1*f) - 64:Nat):Int)≤b.2
 Oo:b.2 - (a.2+fp+((bl (a.1*f) - 64:Nat):Int))≤2000
 c:cut (a.1*f) (bl (a.1*f) - 64) false≤b.1*2^(b.2 - (a.2+fp+((bl (a.1*f) - 64:Nat):Int))).toNat
 o2:64<bl (b.1*2^(b.2 - (a.2+fp+((bl (a.1*f) - 64:Nat):Int))).toNat - cut (a.1*f) (bl (a.1*f) - 64) false)
 Oq:bl (b.1*2^(b.2 - (a.2+fp+((bl (a.1*f) - 64:Nat):Int))).toNat - cut (a.1*f) (bl (a.1*f) - 64) false)≤3000
 wa:a.1≤2^64
 wf:f<2^64
 wb:b.1<2^64
def xN(f:Nat)(fp:Int):Nat×Int→List (Nat×Int)→Prop
 |_,[]=>True
 |a,b::r=>Av f fp a b∧xN f fp (Aw f fp a b) r
structure N8(a b:Nat×Int):Prop where
 w1:2^63≤a.1
 w2:a.1≤2^64
 p1:b.2 - 1≤a.2
 p2:a.2≤b.2
 le:a.1≤b.1*2^(b.2 - a.2).toNat
def AK(a b:Nat×Int):Bool:=decide (a.2≤b.2)&&(decide (3*a.1≤b.1*2^(b.2 - a.2).toNat)&&(decide (2^63≤b.1)&&(decide (b.1<2^64)&&(decide (-200≤b.2)&&decide (b.2≤0)))))
structure Jc(f:Nat)(fp:Int):Prop where
 f1:2^63≤f
 f2:f<2^64
 p1: -400≤fp
 p2:fp≤ -63
 le:f≤2^(-fp).toNat
theorem IX{w n:Nat}(h:2^n≤w):n<bl w:=by
 have:=nZ w
 exact(Nat.pow_lt_pow_iff_right (by decide:1<2)).mp (Nat.lt_of_le_of_lt h this)
theorem GK{f:Nat}{fp:Int}{a b0 b:Nat×Int}(F:Jc f fp)(s:N8 a b0)(h0:b0.1<2^64)(l0: -200≤b0.2)(ht:AK b0 b=true):Av f fp a b∧N8 (Aw f fp a b) b:=by
 obtain⟨W,P⟩:=a
 obtain⟨T0,t0⟩:=b0
 obtain⟨T,t⟩:=b
 unfold AK at ht
 simp only[Bool.and_eq_true,decide_eq_true_eq]at ht
 obtain⟨ht1,ht2,ht3,ht4,ht5,ht6⟩:=ht
 obtain⟨s1,s2,s3,s4,s5⟩:=s
 obtain⟨f1,f2,f3,f4,f5⟩:=F
 simp only at*
 have hpr1:2^126≤W*f:=Nat.le_trans (by decide) (Nat.mul_le_mul s1 f1)
 have hpr2:W*f≤T0*2^(t0 - P - fp).toNat:=by
  refine Nat.le_trans (Nat.mul_le_mul s5 f5) ?_
  rw[Nat.mul_assoc,←Nat.pow_add]
  have:(t0 - P).toNat+(-fp).toNat=(t0 - P - fp).toNat:=by lia
  rw[this]
  exact Nat.le_refl _
 have hb1:126<bl (W*f):=IX hpr1
 have hb2:bl (W*f)≤64+(t0 - P - fp).toNat:=by
  refine dB (Nat.lt_of_le_of_lt hpr2 ?_)
  rw[Nat.pow_add]
  exact Nat.mul_lt_mul_of_pos_right h0 (two_pos _)
 have hb3:bl (W*f)≤129:=by
  refine dB ?_
  have:W*f≤2^64*2^64:=Nat.mul_le_mul s2 (Nat.le_of_lt f2)
  exact Nat.lt_of_le_of_lt this (by decide)
 have hcr:=yU (w:=W*f) (by lia)
 generalize hP1:P+fp+((bl (W*f) - 64:Nat):Int)=P1
 have hP1t:P1≤t0:=by lia
 have hc0:cut (W*f) (bl (W*f) - 64) false≤T0*2^(t0 - P1).toNat:=by
  refine Eu (by lia) (Nat.le_trans hpr2 ?_)
  rw[Nat.mul_assoc,←Nat.pow_add]
  have:(t0 - P1).toNat+(bl (W*f) - 64)=(t0 - P - fp).toNat:=by omega
  rw[this]
  exact Nat.le_refl _
 have hc3:3*cut (W*f) (bl (W*f) - 64) false≤T*2^(t - P1).toNat:=by
  have h1:3*T0*2^(t0 - P1).toNat≤T*2^(t - t0).toNat*2^(t0 - P1).toNat:=Nat.mul_le_mul_right _ ht2
  rw[Nat.mul_assoc T,←Nat.pow_add]at h1
  have e:(t - t0).toNat+(t0 - P1).toNat=(t - P1).toNat:=by lia
  rw[e]at h1
  have h2:3*cut (W*f) (bl (W*f) - 64) false≤3*(T0*2^(t0 - P1).toNat):=Nat.mul_le_mul_left _ hc0
  rw[←Nat.mul_assoc]at h2
  exact Nat.le_trans h2 h1
 generalize hcc:cut (W*f) (bl (W*f) - 64) false=c at*
 generalize hsh:(t - P1).toNat=sh at*
 have hr1:2^64≤T*2^sh - c:=by
  have:2*2^63≤2*c:=Nat.mul_le_mul_left _ hcr.1
  lia
 have hbr1:64<bl (T*2^sh - c):=IX hr1
 have hbr2:bl (T*2^sh - c)≤64+sh:=by
  refine dB (Nat.lt_of_le_of_lt (Nat.sub_le _ _) ?_)
  rw[Nat.pow_add]
  exact Nat.mul_lt_mul_of_pos_right ht4 (two_pos _)
 have hbr3:62+sh<bl (T*2^sh - c):=by
  refine IX ?_
  have h1:2^63*2^sh≤T*2^sh:=Nat.mul_le_mul_right _ ht3
  have e1:(2:Nat)^63*2^sh=2*2^(62+sh):=by rw[Nat.pow_add 2 62 sh,←Nat.mul_assoc]
  rw[e1]at h1
  have h2:=two_pos (62+sh)
  generalize 2^(62+sh)=X at*
  lia
 have hw:=yU hbr1
 refine⟨⟨?_,?_,?_,?_,?_,?_,?_,s2,f2,ht4⟩,?_⟩
 ·show 64<bl (W*f);lia
 ·show bl (W*f)≤200;lia
 ·show P+fp+((bl (W*f) - 64:Nat):Int)≤t;lia
 ·show t - (P+fp+((bl (W*f) - 64:Nat):Int))≤2000;lia
 ·show cut (W*f) (bl (W*f) - 64) false≤T*2^(t - (P+fp+((bl (W*f) - 64:Nat):Int))).toNat
  rw[hP1,hsh,hcc];lia
 ·show 64<bl (T*2^(t - (P+fp+((bl (W*f) - 64:Nat):Int))).toNat - cut (W*f) (bl (W*f) - 64) false)
  rw[hP1,hsh,hcc];exact hbr1
 ·show bl (T*2^(t - (P+fp+((bl (W*f) - 64:Nat):Int))).toNat - cut (W*f) (bl (W*f) - 64) false)≤3000
  rw[hP1,hsh,hcc];lia
 ·unfold Aw
  simp only
  rw[hP1,hsh,hcc]
  refine⟨hw.1,hw.2,?_,?_,?_⟩
  ·show t - 1≤P1+((bl (T*2^sh - c) - 64:Nat):Int);lia
  ·show P1+((bl (T*2^sh - c) - 64:Nat):Int)≤t;lia
  ·show cut (T*2^sh - c) (bl (T*2^sh - c) - 64) false≤T*2^(t - (P1+((bl (T*2^sh - c) - 64:Nat):Int))).toNat
   refine Eu (by lia) (Nat.le_trans (Nat.sub_le _ _) ?_)
   rw[Nat.mul_assoc,←Nat.pow_add]
   have:(t - (P1+((bl (T*2^sh - c) - 64:Nat):Int))).toNat+(bl (T*2^sh - c) - 64)=sh:=by lia
   rw[this]
   exact Nat.le_refl _
theorem sgn_not(s:Bool):sgn (!s)=- sgn s:=by cases s<;>rfl
theorem GJ{a u b:Num}{w:Nat×Int}{f:Nat}{fp:Int}(us:u.s=false)(bs:b.s= !a.s)(ea:Eqv a.w a.p w.1 w.2)(eu:Eqv u.w u.p f fp)(S:Av f fp w (b.w,b.p))(hp: -1000≤w.2+fp):
  (bL EXT (bC EXT a u) b).s=b.s∧Eqv (bL EXT (bC EXT a u) b).w (bL EXT (bC EXT a u) b).p (Aw f fp w (b.w,b.p)).1 (Aw f fp w (b.w,b.p)).2:=by
 obtain⟨W,P⟩:=w
 have hm:=ud (s:=a.s != u.s) (ea.mul eu) S.o1 (by show -16445≤P+fp;simp only at hp;lia)
 have hms:(bC EXT a u).s=a.s:=by unfold bC;rw[gE,us];cases a.s<;>rfl
 change Eqv (bC EXT a u).w (bC EXT a u).p _ _ at hm
 have hc:=S.c
 have ho2:=S.o2
 have hsh:=S.sh
 unfold Aw
 simp only at hm hc ho2 hsh hp⊢
 generalize bC EXT a u=m at*
 generalize hcc:cut (W*f) (bl (W*f) - 64) false=c at*
 have hP1l: -1000≤P+fp+((bl (W*f) - 64:Nat):Int):=by lia
 generalize P+fp+((bl (W*f) - 64:Nat):Int)=P1 at*
 generalize hr:b.w*2^(b.p - P1).toNat - c=r at*
 have hrc:r+c=b.w*2^(b.p - P1).toNat:=by omega
 have hT:dS m b*((2^(min m.p b.p - min (min m.p b.p) P1).toNat:Nat):Int)=(sgn b.s*(r:Int))*((2^(P1 - min (min m.p b.p) P1).toNat:Nat):Int):=by
  unfold dS
  rw[sD (by lia) (by lia) (by lia),hm.at (G:=min (min m.p b.p) P1) (by omega) (by lia),hms,bs,sgn_not]
  have e1:sc b.w b.p (min (min m.p b.p) P1)=(r+c)*2^(P1 - min (min m.p b.p) P1).toNat:=by
   rw[hrc]
   unfold sc
   rw[Nat.mul_assoc,←Nat.pow_add]
   congr 2
   lia
  rw[e1]
  unfold sc
  generalize 2^(P1 - min (min m.p b.p) P1).toNat=X
  push_cast
  generalize sgn a.s=σ
  rw[Int.neg_mul,Int.neg_mul,Int.neg_mul,Int.add_mul,Int.mul_add,Int.mul_assoc]
  lia
 obtain⟨t1,t2,t3⟩:=Dt (A:=0) (B:=0) (by lia) (by lia) hT
 have hr0:r≠0:=by intro z;rw[z]at ho2;simp[bl]at ho2
 have hQ0:sgn b.s*(r:Int)≠0:=by cases b.s<;>simp[sgn]<;>exact hr0
 rw[jx,Int.natAbs_natCast]at t1
 have hz:dS m b≠0:=fun z=>hQ0 (t2.mp z)
 unfold bL
 rw[if_neg hz]
 refine⟨?_,ud t1 ho2 (by lia)⟩
 rw[gE]
 have:(dS m b<0)↔b.s=true:=by
  rw[t3]
  cases b.s
  ·simp[sgn]
  ·simp[sgn];lia
 by_cases hb:b.s=true
 ·rw[hb,decide_eq_true (this.mpr hb)]
 ·rw[decide_eq_false (fun z=>hb (this.mp z))]
  cases h:b.s
  ·rfl
  ·exact absurd h hb
def chain(s:Bool)(b0:Nat×Int):List Num→Bool
 |[]=>true
 |b::r=>(b.s== !s)&&(AK b0 (b.w,b.p)&&chain b.s (b.w,b.p) r)
def wp(b:Num):Nat×Int:=(b.w,b.p)
def lastOf(a:Num):List Num→Num
 |[]=>a
 |b::r=>lastOf b r
theorem IS{u:Num}{f:Nat}{fp:Int}(us:u.s=false)(eu:Eqv u.w u.p f fp)(F:Jc f fp):∀(ns:List Num) (a:Num) (w b0:Nat×Int),Eqv a.w a.p w.1 w.2→N8 w b0→b0.1<2^64→ -200≤b0.2→b0.2≤0→chain a.s b0 ns=true→
  xN f fp w (ns.map wp)∧(ns.foldl (fun a b=>bL EXT (bC EXT a u) b) a).s=(lastOf a ns).s∧
  Eqv (ns.foldl (fun a b=>bL EXT (bC EXT a u) b) a).w (ns.foldl (fun a b=>bL EXT (bC EXT a u) b) a).p ((ns.map wp).foldl (Aw f fp) w).1 ((ns.map wp).foldl (Aw f fp) w).2∧
  2^63≤((ns.map wp).foldl (Aw f fp) w).1∧((ns.map wp).foldl (Aw f fp) w).1≤2^64∧ -201≤((ns.map wp).foldl (Aw f fp) w).2∧((ns.map wp).foldl (Aw f fp) w).2≤0:=by
 intro ns
 induction ns with
 |nil=>
  intro a w b0 e s _ h1 h2 _
  exact⟨trivial,rfl,e,s.w1,s.w2,by have:=s.p1;show -201≤w.2;lia,by have:=s.p2;show w.2≤0;lia⟩
 |cons b r ih=>
  intro a w b0 e s h0 h1 h2 hc
  unfold chain at hc
  simp only[Bool.and_eq_true,beq_iff_eq]at hc
  obtain⟨c1,c2,c3⟩:=hc
  obtain⟨o,s'⟩:=GK F s h0 h1 c2
  obtain⟨n1,n2⟩:=GJ us c1 e eu o (by have:=s.p1;have:=F.p1;lia)
  unfold AK at c2
  simp only[Bool.and_eq_true,decide_eq_true_eq]at c2
  obtain⟨ht1,ht2,ht3,ht4,ht5,ht6⟩:=c2
  rw[←n1]at c3
  obtain⟨i1,i2,i3⟩:=ih (bL EXT (bC EXT a u) b) (Aw f fp w (b.w,b.p)) (b.w,b.p) n2 s' ht4 ht5 ht6 c3
  refine⟨⟨o,i1⟩,?_,i3⟩
  rw[List.foldl_cons,i2]
  cases r with
  |nil=>exact n1
  |cons=>rfl
theorem ER{a u b:Num}(h:u.w=0)(hb0:b.w≠0)(hb:b.w<2^64)(hl: -16445≤b.p):(bL EXT (bC EXT a u) b).s=b.s∧Eqv (bL EXT (bC EXT a u) b).w (bL EXT (bC EXT a u) b).p b.w b.p:=by
 have hm:bC EXT a u=⟨a.s != u.s,0,max (a.p+u.p) (-16445)⟩:=by unfold bC;rw[h,Nat.mul_zero,fF,dQ]
 rw[hm]
 generalize hmm:(⟨a.s != u.s,0,max (a.p+u.p) (-16445)⟩:Num)=m
 have hw:m.w=0:=by rw[←hmm]
 have hpl: -16445≤m.p:=by rw[←hmm];show -16445≤max (a.p+u.p) (-16445);lia
 have ht:dS m b=sgn b.s*((b.w*2^(b.p - min m.p b.p).toNat:Nat):Int):=by unfold dS;rw[hw];simp
 have hpos:0<b.w*2^(b.p - min m.p b.p).toNat:=Nat.mul_pos (Nat.pos_of_ne_zero hb0) (two_pos _)
 have habs:(dS m b).natAbs=b.w*2^(b.p - min m.p b.p).toNat:=by rw[ht,jx,Int.natAbs_natCast]
 have hz:dS m b≠0:=by
  intro z
  rw[z]at habs
  simp only[Int.natAbs_zero]at habs
  lia
 unfold bL
 rw[if_neg hz,habs]
 have ev:Eqv (b.w*2^(b.p - min m.p b.p).toNat) (min m.p b.p) b.w b.p:=by
  have:=Eqv.shift b.w b.p (b.p - min m.p b.p).toNat
  have e1:b.p - ((b.p - min m.p b.p).toNat:Int)=min m.p b.p:=by lia
  rw[e1]at this
  exact this
 refine⟨?_,?_⟩
 ·rw[gE,ht]
  generalize b.w*2^(b.p - min m.p b.p).toNat=X at hpos
  cases b.s
  ·simp[sgn]
  ·simp[sgn];omega
 ·have h1:=jX (k:=EXT) (s:=decide (dS m b<0)) (p:=min m.p b.p) (w:=b.w*2^(b.p - min m.p b.p).toNat) (by lia)
  obtain⟨e1,e2⟩:=HR EXT (by lia) ev
  rw[e1,e2]at h1
  refine h1.trans ?_
  have h2:=jX (k:=EXT) (s:=b.s) (p:=b.p) hb0
  have h3:=rD (k:=EXT) (s:=b.s) (w:=b.w) (p:=b.p) hb (by rw[dQ];exact hl)
  rw[h3]at h2
  exact h2.symm
theorem Dh{u:Num}(h:u.w=0):∀(ns:List Num) (a:Num) (b0:Nat×Int) (s:Bool),chain s b0 ns=true→ns≠[]→
  (ns.foldl (fun a b=>bL EXT (bC EXT a u) b) a).s=(lastOf a ns).s∧Eqv (ns.foldl (fun a b=>bL EXT (bC EXT a u) b) a).w (ns.foldl (fun a b=>bL EXT (bC EXT a u) b) a).p (lastOf a ns).w (lastOf a ns).p:=by
 intro ns
 induction ns with
 |nil=>intro a b0 s _ h0;exact absurd rfl h0
 |cons b r ih=>
  intro a b0 s hc _
  unfold chain at hc
  simp only[Bool.and_eq_true,beq_iff_eq]at hc
  obtain⟨c1,c2,c3⟩:=hc
  unfold AK at c2
  simp only[Bool.and_eq_true,decide_eq_true_eq]at c2
  obtain⟨ht1,ht2,ht3,ht4,ht5,ht6⟩:=c2
  cases r with
  |nil=>exact ER h (by lia) ht4 (by lia)
  |cons b' r'=>exact ih (bL EXT (bC EXT a u) b) (b.w,b.p) b.s c3 (by simp)
def nN(u:Num):Nat:=u.w*2^(64 - bl u.w)
def DZ(u:Num):Int:=u.p - ((64 - bl u.w:Nat):Int)
def gw(ts:List (Nat×Int))(u:Num):Num:=match ts with
 |[]=>⟨false,0,0⟩
 |t::r=>if u.w=0 then⟨false,(r.getLastD t).1,(r.getLastD t).2⟩else⟨false,(r.foldl (Aw (nN u) (DZ u)) t).1,(r.foldl (Aw (nN u) (DZ u)) t).2⟩
structure Mp(u:Num):Prop where
 s:u.s=false
 w:u.w<2^64
 p1: -200≤u.p
 le:gT u.w u.p 0
 p2:u.p≤0
theorem IC{u:Num}(o:Mp u)(h:u.w≠0):Jc (nN u) (DZ u)∧Eqv u.w u.p (nN u) (DZ u):=by
 have hb:bl u.w≤64:=dB o.w
 have hb1:=xE h
 have hev:=(Eqv.shift u.w u.p (64 - bl u.w)).symm
 have hw1:2^63≤nN u:=by
  unfold nN
  have:=Nat.mul_le_mul_right (2^(64 - bl u.w)) hb1.1
  rw[←Nat.pow_add]at this
  have e:bl u.w - 1+(64 - bl u.w)=63:=by lia
  rwa [e]at this
 have hw2:nN u<2^64:=by
  unfold nN
  have:=Nat.mul_lt_mul_of_pos_right (nZ u.w) (two_pos (64 - bl u.w))
  rw[←Nat.pow_add]at this
  have e:bl u.w+(64 - bl u.w)=64:=by lia
  rwa [e]at this
 have hlp:gT (nN u) (DZ u) 0:=gT.eqv hev o.le
 have hlog:=hlp.log (by lia)
 have hl63:63≤Nat.log2 (nN u):=(Nat.le_log2 (by lia)).mpr hw1
 have hp:=o.p1
 refine⟨⟨hw1,hw2,by unfold DZ;lia,by lia,?_⟩,hev⟩
 have:=hlp.le (by lia)
 have e:(0 - DZ u).toNat=(-DZ u).toNat:=by lia
 rwa [e]at this
theorem getLastD_map(a:Num):∀ns:List Num,(ns.map wp).getLastD (wp a)=wp (lastOf a ns):=by
 intro ns
 induction ns generalizing a with
 |nil=>rfl
 |cons b r ih=>rw[List.map_cons,List.getLastD_cons];exact ih b
theorem Bm{a:Num}{ns:List Num}{u:Num}(o:Mp u)(ha1:2^63≤a.w)(ha2:a.w<2^64)(hp: -200≤a.p)(hp0:a.p≤0)(hc:chain a.s (a.w,a.p) ns=true)(hl:(lastOf a ns).s=false)(hn:ns≠[])(hlw:(lastOf a ns).w<2^64)(hlp: -201≤(lastOf a ns).p)(hlp0:(lastOf a ns).p≤0):
  (e8 (a::ns) u).s=false∧Eqv (e8 (a::ns) u).w (e8 (a::ns) u).p (gw ((a::ns).map wp) u).w (gw ((a::ns).map wp) u).p∧
  (gw ((a::ns).map wp) u).s=false∧(gw ((a::ns).map wp) u).w≤2^64∧ -201≤(gw ((a::ns).map wp) u).p∧(gw ((a::ns).map wp) u).p≤0∧
  (u.w≠0→xN (nN u) (DZ u) (a.w,a.p) (ns.map wp)):=by
 unfold e8 gw
 rw[List.map_cons]
 simp only
 by_cases h:u.w=0
 ·rw[if_pos h]
  obtain⟨c1,c2⟩:=Dh h ns a _ _ hc hn
  rw[getLastD_map]
  refine⟨by rw[c1,hl],c2,rfl,?_,?_,?_,fun z=>absurd h z⟩
  ·exact Nat.le_of_lt hlw
  ·exact hlp
  ·exact hlp0
 ·rw[if_neg h]
  obtain⟨F,ev⟩:=IC o h
  obtain⟨c1,c2,c3,c4,c5,c6,c7⟩:=IS o.s ev F ns a (wp a) (wp a) (Eqv.refl _ _) ⟨ha1,Nat.le_of_lt ha2,by show a.p - 1≤a.p;lia,Int.le_refl _,by show a.w≤a.w*2^(a.p - a.p).toNat;rw[Int.sub_self];simp⟩ ha2 hp hp0 hc
  exact⟨by rw[c2,hl],c3,rfl,c5,c6,c7,fun _=>c1⟩
def MD:List Nat:=[4294967295,6074000999,8589934591,12148001999,17179869183,24296003999,34359738367,48592007999,68719476735,97184015999,137438953471,194368031998,274877906943,388736063996,549755813887,777472127993,1099511627775,1554944255987,2199023255551,3109888511975,4398046511103,6219777023950,8796093022207,12439554047901,17592186044415,24879108095803,35184372088831,49758216191607,70368744177663,99516432383215,140737488355327,199032864766430,281474976710655,398065729532860,562949953421311,796131459065721,1125899906842623,1592262918131443,2251799813685247,3184525836262886,4503599627370495,6369051672525772,9007199254740991,12738103345051545,18014398509481983,25476206690103090,36028797018963967,50952413380206180,72057594037927935,101904826760412361,144115188075855871,203809653520824722,288230376151711743,407619307041649444,576460752303423487,815238614083298888,1152921504606846975,1630477228166597776,2305843009213693951,3260954456333195553]
def ME:Nat→Bool:=fun d=>decide (2^(64+d)≤(MD.getD d 0+1)*(MD.getD d 0+1))&&decide (d=0∨MD.getD d 0*MD.getD d 0+2^(d - 1)<2^(64+d))
theorem Ly:((List.range 60).all ME)=true:=by decide+kernel
theorem Lx{y d:Nat}(hd:0<d)(hd2:d<60)(h:y*y<2^(64+d)):cut (y*y) d false<2^64:=by
 have hs:=List.all_eq_true.mp Ly d (List.mem_range.mpr hd2)
 unfold ME at hs
 simp only[Bool.and_eq_true,decide_eq_true_eq]at hs
 obtain⟨s1,s2⟩:=hs
 generalize MD.getD d 0=s at*
 have hy:y<s+1:=by
  refine Nat.lt_of_not_le fun z=>?_
  have:=Nat.mul_le_mul z z
  omega
 have hy2:y*y≤s*s:=Nat.mul_le_mul (by omega) (by omega)
 have h3:y*y+2^(d - 1)<2^(64+d):=by
  rcases s2 with z|z<;>omega
 unfold cut
 have hdm:=Nat.div_add_mod (y*y) (2^d)
 have e2:2^d=2*2^(d - 1):=by
  have:d=d - 1+1:=by lia
  conv=>lhs;rw[this,Nat.pow_succ]
  lia
 have e3:2^(64+d)=2^d*2^64:=by rw[Nat.pow_add,Nat.mul_comm]
 have hq:y*y / 2^d<2^64:=Nat.div_lt_of_lt_mul (by lia)
 by_cases hq1:y*y / 2^d+1<2^64
 ·split<;>omega
 ·have hq2:y*y / 2^d=2^64 - 1:=by lia
  rw[hq2]at hdm
  have e4:2^d*(2^64 - 1)=2^d*2^64 - 2^d:=by rw[Nat.mul_sub,Nat.mul_one]
  rw[e4]at hdm
  have h5:=two_pos (d - 1)
  have hge:2^d≤2^d*2^64:=Nat.le_mul_of_pos_right _ (by decide)
  have hlt:y*y%2^d<2^(d - 1):=by
   rw[e3]at h3
   clear e4 e3 hq hq1 hq2 h s1 s2 hy hy2
   generalize 2^d*2^64=Z at h3 hdm hge
   generalize 2^d=D at hdm hge e2⊢
   generalize 2^(d - 1)=X at h3 e2 h5⊢
   omega
  rw[if_neg (by rintro(z|⟨z,_⟩)<;>omega),Nat.add_zero,hq2]
  decide
theorem Ol{y:Nat}(hy:y≤2^61):Mp (bC EXT ⟨false,y,-61⟩ ⟨false,y,-61⟩):=by
 have hy2:y*y≤2^122:=Nat.le_trans (Nat.mul_le_mul hy hy) (by decide)
 have hy3:y*y≤2^((0:Int) - (-61+ -61)).toNat:=by
  have e:((0:Int) - (-61+ -61)).toNat=122:=by decide
  rw[e];exact hy2
 obtain⟨r,h1,h2,h3⟩:=gD gG (s:=false) (w:=y*y) (p:= -61+ -61) (c:=0) (by decide) (gT.of_le (by decide) hy3) (by decide) (by decide)
 have hs:(bC EXT ⟨false,y,-61⟩ ⟨false,y,-61⟩).s=false:=by unfold bC;rw[gE];rfl
 refine⟨hs,?_,?_,h3.le,h3.hi⟩
 ·unfold bC bX
  dsimp only
  have hbl:bl (y*y)≤123:=dB (by lia)
  have hov:over EXT (y*y) (-61+ -61)=(bl (y*y):Int) - 64:=by
   unfold over
   rw[dQ]
   show max ((bl (y*y):Int) - ((64:Nat):Int)) _=_
   lia
  rw[hov]
  by_cases ho:(bl (y*y):Int) - 64≤0
  ·rw[if_pos ho]
   exact Nat.lt_of_lt_of_le (nZ (y*y)) (Nat.pow_le_pow_right (by decide) (by lia))
  ·rw[if_neg ho]
   refine Lx (by lia) (by lia) ?_
   have:=nZ (y*y)
   have e:64+((bl (y*y):Int) - 64).toNat=bl (y*y):=by lia
   rw[e];exact this
 ·unfold bC bX
  simp only
  split
  ·show -200≤(-61+ -61:Int);decide
  ·rename_i ho
   show -200≤(-61+ -61:Int)+over EXT (y*y) (-61+ -61)
   lia
end TM
end
noncomputable section
namespace TM
open Rb50
def iC:List (Nat×Int):=(terms COSINE).map wp
def fV:List (Nat×Int):=(terms SINE).map wp
def dj(p:Nat):Num:=⟨false,if p / 2^61%2=1 then 2^61 - p%2^61 else p%2^61,-61⟩
def Ax(p:Nat):Num:=gw iC (bC EXT (dj p) (dj p))
def zJ(p:Nat):Num:=bC EXT (dj p) (gw fV (bC EXT (dj p) (dj p)))
def cI(p:Nat):Num:=
 let e:=p / 2^61
 let w:=if e=1∨e=2∨e=5∨e=6 then zJ p else Ax p
 if e=2∨e=3∨e=4∨e=5 then fB w else w
def gq(p:Nat):Num:=cI ((p+3*2^62)%2^64)
def Li(p:Nat):F:=just (if p / 2^61%8%2=0 then p%2^61 else 2^61 - p%2^61) (-61)
def IU(p:Nat):F:=horner (times (Li p) (Li p)) (numbersOf COSINE)
def G7(p:Nat):F:=times (Li p) (horner (times (Li p) (Li p)) (numbersOf SINE))
theorem yV(p:Nat):cosSin p=(match p / 2^61%8 with
 |0=>(IU p,G7 p)
 |1=>(G7 p,IU p)
 |2=>(opposite EXT (G7 p),IU p)
 |3=>(opposite EXT (IU p),G7 p)
 |4=>(opposite EXT (IU p),opposite EXT (G7 p))
 |5=>(opposite EXT (G7 p),opposite EXT (IU p))
 |6=>(G7 p,opposite EXT (IU p))
 |_=>(IU p,opposite EXT (G7 p))):=rfl
theorem qZ(p:Nat):Rep EXT (dj p) (Li p)∧Ok EXT (dj p) 0:=by
 have hm:p%2^61<2^61:=Nat.mod_lt _ (by decide)
 unfold dj Li
 have e:(if p / 2^61%2=1 then 2^61 - p%2^61 else p%2^61)=(if p / 2^61%8%2=0 then p%2^61 else 2^61 - p%2^61):=by
  by_cases h:p / 2^61%2=1
  ·rw[if_pos h,if_neg (by lia)]
  ·rw[if_neg h,if_pos (by lia)]
 rw[e]
 have hle:(if p / 2^61%8%2=0 then p%2^61 else 2^61 - p%2^61)≤2^61:=by split<;>omega
 generalize (if p / 2^61%8%2=0 then p%2^61 else 2^61 - p%2^61)=v at hle
 exact Eh (by lia) (by decide) (by decide) hle (by decide)
theorem nG(p:Nat):Mp (bC EXT (dj p) (dj p)):=by
 unfold dj
 refine Ol ?_
 have hm:p%2^61<2^61:=Nat.mod_lt _ (by decide)
 split<;>lia
theorem Ku{u:Num}(o:Mp u):(e8 (terms COSINE) u).s=false∧Eqv (e8 (terms COSINE) u).w (e8 (terms COSINE) u).p (gw iC u).w (gw iC u).p∧
  (gw iC u).s=false∧(gw iC u).w≤2^64∧ -201≤(gw iC u).p∧(gw iC u).p≤0∧(u.w≠0→xN (nN u) (DZ u) (17849762340095794292,-132) iC.tail):=
 Bm (a:=⟨false,17849762340095794292,-132⟩) (ns:=(terms COSINE).tail) o (by decide) (by decide) (by decide) (by decide) (by decide+kernel) (by decide+kernel) (by decide+kernel) (by decide+kernel) (by decide+kernel) (by decide+kernel)
theorem Jy{u:Num}(o:Mp u):(e8 (terms SINE) u).s=false∧Eqv (e8 (terms SINE) u).w (e8 (terms SINE) u).p (gw fV u).w (gw fV u).p∧
  (gw fV u).s=false∧(gw fV u).w≤2^64∧ -201≤(gw fV u).p∧(gw fV u).p≤0∧(u.w≠0→xN (nN u) (DZ u) (10681272806851181676,-136) fV.tail):=
 Bm (a:=⟨false,10681272806851181676,-136⟩) (ns:=(terms SINE).tail) o (by decide) (by decide) (by decide) (by decide) (by decide+kernel) (by decide+kernel) (by decide+kernel) (by decide+kernel) (by decide+kernel) (by decide+kernel)
theorem DR{k:Kind}{a b:Num}{x:F}(h:Rep k a x)(hs:b.s=a.s)(e:Eqv a.w a.p b.w b.p):Rep k b x:=⟨by rw[hs];exact h.sg,e.symm.trans h.eqv,h.lt,h.fin⟩
theorem Lc(p:Nat):(Rep EXT (Ax p) (IU p)∧Ok EXT (Ax p) 10)∧(Rep EXT (zJ p) (G7 p)∧Ok EXT (zJ p) 10):=by
 obtain⟨r,o⟩:=qZ p
 obtain⟨r2,o2⟩:=fu r r o o (by decide) (by decide)
 have hu:=nG p
 refine⟨?_,?_⟩
 ·obtain⟨r3,o3⟩:=sH (l:=COSINE) (by decide+kernel) r2 o2 (by decide) (by decide)
  obtain⟨c1,c2,c3,c4,c5,c6,_⟩:=Ku hu
  exact⟨DR r3 (by rw[c1];exact c3) c2,⟨c4,by rw[dQ];show -16445≤(gw iC _).p;lia,by show(gw iC _).p≤10;lia,gT.eqv c2 o3.le⟩⟩
 ·obtain⟨r3,o3⟩:=sH (l:=SINE) (by decide+kernel) r2 o2 (by decide) (by decide)
  obtain⟨c1,c2,c3,c4,c5,c6,_⟩:=Jy hu
  have r4:=DR (b:=gw fV (bC EXT (dj p) (dj p))) r3 (by rw[c1];exact c3) c2
  have o4:Ok EXT (gw fV (bC EXT (dj p) (dj p))) 10:=⟨c4,by rw[dQ];lia,by lia,gT.eqv c2 o3.le⟩
  exact fu r r4 o o4 (by decide) (by decide)
theorem jJ{p:Nat}(h:p<2^64):Rep EXT (cI p) (cosSin p).1∧Ok EXT (cI p) 10:=by
 obtain⟨⟨c1,c2⟩,⟨s1,s2⟩⟩:=Lc p
 have hk:p / 2^61<8:=by omega
 rw[yV,Nat.mod_eq_of_lt hk]
 unfold cI
 generalize Ax p=C at*
 generalize zJ p=S at*
 generalize IU p=cc at*
 generalize G7 p=ss at*
 generalize p / 2^61=k at hk
 match k,hk with
 |0,_=>exact⟨c1,c2⟩
 |1,_=>exact⟨s1,s2⟩
 |2,_=>exact⟨gM s1,iI s2⟩
 |3,_=>exact⟨gM c1,iI c2⟩
 |4,_=>exact⟨gM c1,iI c2⟩
 |5,_=>exact⟨gM s1,iI s2⟩
 |6,_=>exact⟨s1,s2⟩
 |7,_=>exact⟨c1,c2⟩
theorem Hy{p q:Nat}(h:dj q=dj p):Ax q=Ax p∧zJ q=zJ p:=by
 unfold Ax zJ
 rw[h]
 exact⟨rfl,rfl⟩
theorem GS{p q:Nat}(hk:p / 2^61<8)(e1:q / 2^61=(p / 2^61+6)%8)(e2:q%2^61=p%2^61):Rep EXT (cI q) (cosSin p).2∧Ok EXT (cI q) 10:=by
 obtain⟨⟨c1,c2⟩,⟨s1,s2⟩⟩:=Lc p
 have e3:dj q=dj p:=by
  unfold dj
  rw[e1,e2]
  have:(p / 2^61+6)%8%2=p / 2^61%2:=by lia
  rw[this]
 obtain⟨e4,e5⟩:=Hy e3
 rw[yV,Nat.mod_eq_of_lt hk]
 unfold cI
 rw[e1,e4,e5]
 clear e1 e2 e3 e4 e5
 generalize Ax p=C at*
 generalize zJ p=S at*
 generalize IU p=cc at*
 generalize G7 p=ss at*
 generalize p / 2^61=k at hk
 match k,hk with
 |0,_=>exact⟨s1,s2⟩
 |1,_=>exact⟨c1,c2⟩
 |2,_=>exact⟨c1,c2⟩
 |3,_=>exact⟨s1,s2⟩
 |4,_=>exact⟨gM s1,iI s2⟩
 |5,_=>exact⟨gM c1,iI c2⟩
 |6,_=>exact⟨gM c1,iI c2⟩
 |7,_=>exact⟨gM s1,iI s2⟩
theorem qN{p:Nat}(h:p<2^64):Rep EXT (gq p) (cosSin p).2∧Ok EXT (gq p) 10:=
 GS (by lia) (by omega) (by lia)
structure j4(w:Wave):Prop where
 high:w.high.natAbs≤2^31
 lt:w.factor<2^32
 fin:finite SINGLE w.factor=true
 le:(worth SINGLE w.factor).natAbs≤16*2^149
structure vc(s:Surge):Prop where
 high:s.high.natAbs≤2^31
 pos:0<s.half_
 lt:s.half_<2^31
structure ze(h:Harbour):Prop where
 mean:h.mean.natAbs≤1000000000
 len:h.waves.length≤64
 waves:∀w,w∈h.waves→j4 w
 surge:∀s,h.surge=some s→vc s
theorem pK{f:F}{n:Nat}(h:(worth SINGLE f).natAbs≤2^(n+149)):gT (whole SINGLE f).1 (whole SINGLE f).2 n:=by
 unfold worth at h
 have hl:=gU SINGLE f
 rw[dw]at hl
 refine⟨-149,hl,by lia,?_⟩
 rw[ng]
 have e:((n:Int) - -149).toNat=n+149:=by lia
 rw[e]
 rw[Int.natAbs_mul,Int.natAbs_natCast]at h
 have e2:(if negative SINGLE f=true then(-1:Int)else 1).natAbs=1:=by split<;>rfl
 rw[e2,Nat.one_mul,dw]at h
 exact h
theorem qF{f:F}(c:Int)(hf:finite SINGLE f=true)(hc:gT (whole SINGLE f).1 (whole SINGLE f).2 c)(h: -149≤c):(whole SINGLE f).2≤c:=by
 by_cases h0:(whole SINGLE f).1=0
 ·have:=x9 SINGLE f (by rw[h0];exact two_pos _)
  rw[this,dw];exact h
 ·have:=hc.log h0
  lia
def rC(w:Wave)(m:Int):Num:=bC EXT (bC EXT (dW w.high) (gX SINGLE w.factor)) (cI (at_ w m))
theorem r8(w:Wave)(m:Int):at_ w m<2^64:=by
 unfold at_
 have h1:=Int.emod_nonneg ((w.phase:Int)+(w.speed:Int)*m) (by decide:((2^64:Nat):Int)≠0)
 have h2:=Int.emod_lt_of_pos ((w.phase:Int)+(w.speed:Int)*m) (by decide:(0:Int)<((2^64:Nat):Int))
 lia
theorem Dq{w:Wave}(h:j4 w)(m:Int):Rep EXT (rC w m) (given w m)∧Ok EXT (rC w m) 45:=by
 have hf:=pK (n:=4) (Nat.le_trans h.le (by decide))
 have hp:=qF _ h.fin hf (by decide)
 obtain⟨f1,f2⟩:=rM hp hf (by decide)
 obtain⟨i1,i2⟩:=fM (z:=w.high) (c:=31) h.high (by decide) (by decide)
 obtain⟨t1,t2⟩:=fu i1 f1 i2 f2 (by decide) (by decide)
 obtain⟨c1,c2⟩:=jJ (r8 w m)
 exact fu t1 c1 t2 c2 (by decide) (by decide)
def wg(s:Surge)(m:Int):Num:=
 uR EXT (bC EXT (dW s.high) (fD EXT (dW 1) (nR EXT (dW ((((m - s.begins).toNat%s.half_:Nat)):Int)) (dW ((2*s.half_:Nat):Int))))) (-((min ((m - s.begins).toNat / s.half_) 20000:Nat):Int))
theorem AS{s:Surge}(h:vc s)(m:Int):Rep EXT (wg s m) (leftOf s m)∧Ok EXT (wg s m) 63:=by
 have hpos:=h.pos
 have hlt:=h.lt
 have hr:(m - s.begins).toNat%s.half_<s.half_:=Nat.mod_lt _ h.pos
 obtain⟨a1,a2⟩:=fM (z:=((((m - s.begins).toNat%s.half_:Nat)):Int)) (c:=31) (by rw[Int.natAbs_natCast];show _≤2^31;lia) (by decide) (by decide)
 obtain⟨b1,b2⟩:=fM (z:=((2*s.half_:Nat):Int)) (c:=32) (by rw[Int.natAbs_natCast];show _≤2^32;lia) (by decide) (by decide)
 obtain⟨d1,d2⟩:=Ey (d:=31) a1 b1 a2 (by show((2*s.half_:Nat):Int).natAbs≠0;rw[Int.natAbs_natCast];lia) (by show(31:Int) - 0≤31;decide) (by decide) (by decide)
 obtain⟨o1,o2⟩:=fM (z:=1) (c:=31) (by decide) (by decide) (by decide)
 obtain⟨l1,l2⟩:=Ed o1 d1 o2 d2 (by decide) (by decide)
 obtain⟨i1,i2⟩:=fM (z:=s.high) (c:=31) h.high (by decide) (by decide)
 obtain⟨t1,t2⟩:=fu i1 l1 i2 l2 (by decide) (by decide)
 obtain⟨s1,s2⟩:=EZ (d:= -((min ((m - s.begins).toNat / s.half_) 20000:Nat):Int)) t1 t2 (Int.neg_nonpos_of_nonneg (Int.natCast_nonneg _)) (by decide) (by decide)
 exact⟨s1,s2.mono (by decide)⟩
def cB(h:Harbour)(m:Int):Num:=
 let t:=h.waves.foldl (fun a w=>bL EXT a (rC w m)) (dW h.mean)
 match h.surge with
 |none=>t
 |some s=>if m<s.begins then t else bL EXT t (wg s m)
theorem vg(m:Int):∀(l:List Wave),(∀w,w∈l→j4 w)→∀{a:Num} {x:F} {c:Int},Rep EXT a x→Ok EXT a c→45≤c→c+l.length<16384→
  Rep EXT (l.foldl (fun a w=>bL EXT a (rC w m)) a) (l.foldl (fun(a:F) (w:Wave)=>plus a (given w m)) x)∧Ok EXT (l.foldl (fun a w=>bL EXT a (rC w m)) a) (c+l.length)
 |[],_,a,x,c,ha,oa,_,_=>⟨ha,by simpa using oa⟩
 |w::l,hw,a,x,c,ha,oa,h0,hl=>by
  simp only[List.length_cons]at hl
  obtain⟨g1,g2⟩:=Dq (hw w (List.mem_cons_self)) m
  obtain⟨p1,p2⟩:=zL ha g1 oa (g2.mono h0) (by lia) (by lia)
  have:=vg m l (fun w' h'=>hw w' (List.mem_cons_of_mem _ h')) p1 p2 (by lia) (by lia)
  refine⟨this.1,this.2.mono ?_⟩
  simp only[List.length_cons]
  lia
theorem gk{h:Harbour}(o:ze h)(m:Int):Rep EXT (cB h m) (height h m)∧Ok EXT (cB h m) 110:=by
 obtain⟨i1,i2⟩:=fM (z:=h.mean) (c:=45) (Nat.le_trans o.mean (by decide)) (by decide) (by decide)
 have hl:=o.len
 obtain⟨w1,w2⟩:=vg m h.waves o.waves i1 i2 (by decide) (by lia)
 have w3:=w2.mono (c':=109) (by lia)
 unfold cB Rb50.height
 have hs:=o.surge
 cases e:h.surge with
 |none=>exact⟨w1,w3.mono (by decide)⟩
 |some s=>
  obtain⟨s1,s2⟩:=AS (hs s e) m
  by_cases hb:m<s.begins
  ·simp only[hb,if_true]
   exact⟨w1,w3.mono (by decide)⟩
  ·simp only[hb,if_false]
   exact zL w1 s1 w3 (s2.mono (by decide)) (by decide) (by decide)
def eG(a:Num):Num:=nR EXT a (dW 10000)
def LJ(a:Num):Num:=nR EXT a (dW 10)
theorem fU{a:Num}{x:F}{c:Int}(ha:Rep EXT a x)(oa:Ok EXT a c)(hl: -16445≤c)(hm:c<16384):Rep EXT (eG a) (metres x)∧Ok EXT (eG a) c:=by
 obtain⟨i1,i2⟩:=fM (z:=10000) (c:=31) (by decide) (by decide) (by decide)
 exact Ey ha i1 oa (by decide) (by show c - 0≤c;lia) hl hm
theorem MQ{a:Num}{x:F}{c:Int}(ha:Rep EXT a x)(oa:Ok EXT a c)(hl: -16445≤c)(hm:c<16384):Rep EXT (LJ a) (millimetres x)∧Ok EXT (LJ a) c:=by
 obtain⟨i1,i2⟩:=fM (z:=10) (c:=31) (by decide) (by decide) (by decide)
 exact Ey ha i1 oa (by decide) (by show c - 0≤c;lia) hl hm
end TM
end
noncomputable section
namespace TM
open Rb50
theorem IM{m d:Nat}(hd:0<d):2*(cut m d false*2^d)≤2*m+2^d∧2*m≤2*(cut m d false*2^d)+2^d:=by
 unfold cut
 have e:=Nat.div_add_mod m (2^d)
 have hr:m%2^d<2^d:=Nat.mod_lt _ (two_pos d)
 have h2:2^d=2*2^(d - 1):=by
  have:d=(d - 1)+1:=by lia
  conv=>lhs;rw[this,Nat.pow_succ]
  lia
 generalize hQ:m / 2^d=Q at*
 generalize hR:m%2^d=R at*
 generalize 2^(d - 1)=h at*
 generalize 2^d=B at*
 have e2:Q*B=B*Q:=Nat.mul_comm _ _
 by_cases c:h<R∨(R=h∧(false=true∨Q%2=1))
 ·rw[if_pos c,Nat.add_mul,Nat.one_mul]
  lia
 ·rw[if_neg c,Nat.add_zero]
  lia
theorem CF{k:Kind}{s:Bool}{w:Nat}{p G:Int}(hG:G≤p)(hl:G≤k.least):
  2^(k.frac+1)*sc (bX k s w p).w (bX k s w p).p G≤2^(k.frac+1)*sc w p G+(sc w p G+2^(k.frac+(k.least - G).toNat))∧
  2^(k.frac+1)*sc w p G≤2^(k.frac+1)*sc (bX k s w p).w (bX k s w p).p G+(sc w p G+2^(k.frac+(k.least - G).toNat)):=by
 by_cases hw:w=0
 ·subst hw
  rw[fF]
  simp only[kh]
  exact⟨by simp,by simp⟩
 ·unfold bX
  by_cases ho:over k w p≤0
  ·rw[if_pos ho]
   exact⟨Nat.le_add_right _ _,Nat.le_add_right _ _⟩
  ·rw[if_neg ho]
   simp only
   have hd:0<(over k w p).toNat:=by lia
   obtain⟨c1,c2⟩:=IM (m:=w) hd
   have hov:((over k w p).toNat:Int)=over k w p:=by lia
   have e1:sc (cut w (over k w p).toNat false) (p+over k w p) G=cut w (over k w p).toNat false*2^(over k w p).toNat*2^(p - G).toNat:=by
    unfold sc
    rw[Nat.mul_assoc,←Nat.pow_add]
    congr 2
    lia
   have e2:sc w p G=w*2^(p - G).toNat:=rfl
   have key:2^k.frac*2^(over k w p).toNat*2^(p - G).toNat≤sc w p G+2^(k.frac+(k.least - G).toNat):=by
    rw[←Nat.pow_add,←Nat.pow_add]
    by_cases h:over k w p=k.least - p
    ·have:k.frac+(over k w p).toNat+(p - G).toNat=k.frac+(k.least - G).toNat:=by lia
     rw[this]
     exact Nat.le_add_left _ _
    ·have h2:over k w p=(bl w:Int) - ((k.frac+1:Nat):Int):=by unfold over at h⊢;lia
     obtain⟨b1,b2⟩:=xE hw
     have h3:2^(k.frac+(over k w p).toNat+(p - G).toNat)≤sc w p G:=by
      rw[Nat.pow_add,e2]
      refine Nat.mul_le_mul_right _ (Nat.le_trans ?_ b1)
      exact Nat.pow_le_pow_right (by decide) (by lia)
     exact Nat.le_trans h3 (Nat.le_add_right _ _)
   rw[e1]
   rw[e2]at key⊢
   generalize cut w (over k w p).toNat false=C at*
   generalize 2^(over k w p).toNat=B at*
   generalize 2^(k.frac+(k.least - G).toNat)=T at*
   rw[Nat.pow_succ]
   generalize 2^k.frac=Fr at*
   generalize 2^(p - G).toNat=S at*
   have m1:2*(C*B)*(Fr*S)≤(2*w+B)*(Fr*S):=Nat.mul_le_mul_right _ c1
   have m2:2*w*(Fr*S)≤(2*(C*B)+B)*(Fr*S):=Nat.mul_le_mul_right _ c2
   rw[Nat.add_mul]at m1 m2
   have r1:2*(C*B)*(Fr*S)=Fr*2*(C*B*S):=by simp only[Nat.mul_assoc,Nat.mul_left_comm,Nat.mul_comm]
   have r2:2*w*(Fr*S)=Fr*2*(w*S):=by simp only[Nat.mul_assoc,Nat.mul_left_comm,Nat.mul_comm]
   have r3:B*(Fr*S)=Fr*B*S:=by simp only[Nat.mul_assoc,Nat.mul_left_comm,Nat.mul_comm]
   rw[r1,r2,r3]at m1
   rw[r1,r2,r3]at m2
   lia
end TM
end
noncomputable section
namespace TM
open Rb50
theorem Lj:(2:Rat)≠0:=by decide
theorem gr(p:Int):(0:Rat)<2^p:=Rat.zpow_pos (by decide)
theorem jL(p q:Int):(2:Rat)^(p+q)=2^p*2^q:=Rat.zpow_add Lj p q
theorem jK(n:Nat):(2:Rat)^(n:Int)=((2^n:Nat):Rat):=by rw[Rat.zpow_natCast,Rat.natCast_pow];rfl
def mv(w:Nat)(p:Int):Rat:=(w:Rat)*2^p
def sg(s:Bool):Rat:=if s=true then -1 else 1
def rv(n:Num):Rat:=sg n.s*mv n.w n.p
theorem lO(w:Nat)(p:Int):0≤mv w p:=Rat.mul_nonneg Rat.natCast_nonneg (Rat.le_of_lt (gr p))
theorem jZ{w:Nat}{p G:Int}(h:G≤p):(sc w p G:Rat)=mv w p*2^(-G):=by
 unfold sc mv
 rw[Rat.natCast_mul,←jK,Rat.mul_assoc,←jL]
 congr 2
 lia
theorem HV(a b:Nat)(p q:Int):mv (a*b) (p+q)=mv a p*mv b q:=by
 unfold mv
 rw[Rat.natCast_mul,jL]
 grind
theorem GU(s t:Bool):sg (s != t)=sg s*sg t:=by cases s<;>cases t<;>decide+kernel
theorem vB(s:Bool):sg s=1∨sg s=-1:=by cases s<;>simp[sg]
theorem eL{a b c:Rat}(h:a*c≤b*c)(hc:0<c):a≤b:=Rat.le_of_mul_le_mul_right h hc
def Ay(k:Kind):Rat:=2^(-((k.frac+1:Nat):Int))
def eta(k:Kind):Rat:=2^(k.least - 1)
theorem E5(k:Kind)(s:Bool)(w:Nat)(p:Int):k.least≤(bX k s w p).p:=by
 unfold bX
 by_cases ho:over k w p≤0
 ·rw[if_pos ho];unfold over at ho;show k.least≤p;omega
 ·rw[if_neg ho];show k.least≤p+over k w p;unfold over;omega
theorem E4{k:Kind}{s:Bool}{w:Nat}{p:Int}:
  mv (bX k s w p).w (bX k s w p).p≤mv w p+(mv w p*Ay k+eta k)∧mv w p≤mv (bX k s w p).w (bX k s w p).p+(mv w p*Ay k+eta k):=by
 have hp:=E5 k s w p
 have hG1:min p k.least≤p:=by lia
 have hG2:min p k.least≤k.least:=by lia
 obtain⟨h1,h2⟩:=CF (k:=k) (s:=s) (w:=w) hG1 hG2
 generalize min p k.least=G at*
 have hp':G≤(bX k s w p).p:=by lia
 have i1:=Rat.natCast_le_natCast.mpr h1
 have i2:=Rat.natCast_le_natCast.mpr h2
 have hS:(0:Rat)<2^(-G):=gr _
 have hE:(0:Rat)<((2^(k.frac+1):Nat):Rat):=by rw[←jK];exact gr _
 have hT:((2^(k.frac+(k.least - G).toNat):Nat):Rat)=eta k*((2^(k.frac+1):Nat):Rat)*2^(-G):=by
  unfold eta
  rw[←jK,←jK,←jL,←jL]
  congr 1
  lia
 have hEe:Ay k*((2^(k.frac+1):Nat):Rat)=1:=by
  unfold Ay
  rw[←jK,←jL]
  have: -((k.frac+1:Nat):Int)+((k.frac+1:Nat):Int)=0:=by lia
  rw[this,Rat.zpow_zero]
 rw[Rat.natCast_add,Rat.natCast_add,Rat.natCast_mul,Rat.natCast_mul,jZ hp',jZ hG1,hT]at i1
 rw[Rat.natCast_add,Rat.natCast_add,Rat.natCast_mul,Rat.natCast_mul,jZ hp',jZ hG1,hT]at i2
 generalize ((2^(k.frac+1):Nat):Rat)=E at*
 generalize (2:Rat)^(-G)=S at*
 generalize mv (bX k s w p).w (bX k s w p).p=R at*
 generalize mv w p=V at*
 generalize eta k=T at*
 generalize Ay k=e at*
 have hES:0<E*S:=Rat.mul_pos hE hS
 constructor
 ·refine eL ?_ hES
  have:(V+(V*e+T))*(E*S)=E*(V*S)+(V*S*(e*E)+T*E*S):=by grind
  rw[this,hEe]
  grind
 ·refine eL ?_ hES
  have:(R+(V*e+T))*(E*S)=E*(R*S)+(V*S*(e*E)+T*E*S):=by grind
  rw[this,hEe]
  grind
def jG(x y d:Rat):Prop:=x≤y+d∧y≤x+d
theorem nJ{k:Kind}{s:Bool}{w:Nat}{p:Int}{A:Rat}(hA:mv w p≤A):jG (rv (bX k s w p)) (sg s*mv w p) (A*Ay k+eta k):=by
 obtain⟨h1,h2⟩:=E4 (k:=k) (s:=s) (w:=w) (p:=p)
 have he:0<Ay k:=gr _
 have h3:mv w p*Ay k≤A*Ay k:=Rat.mul_le_mul_of_nonneg_right hA (Rat.le_of_lt he)
 unfold rv jG
 rw[gE]
 rcases vB s with e|e<;>rw[e]<;>grind
theorem oZ{k:Kind}{a b:Num}{A:Rat}(h1:rv a*rv b≤A)(h2: -A≤rv a*rv b):jG (rv (bC k a b)) (rv a*rv b) (A*Ay k+eta k):=by
 have e:rv a*rv b=sg (a.s != b.s)*mv (a.w*b.w) (a.p+b.p):=by
  unfold rv
  rw[GU,HV]
  grind
 rw[e]at h1 h2⊢
 refine nJ ?_
 rcases vB (a.s != b.s)with e|e<;>rw[e]at h1 h2<;>grind
theorem qO(s:Bool):((sgn s:Int):Rat)=sg s:=by cases s<;>rfl
theorem DU(a b:Num):((dS a b:Int):Rat)*2^(min a.p b.p)=rv a+rv b:=by
 unfold dS rv mv
 rw[Rat.intCast_add,Rat.intCast_mul,Rat.intCast_mul,Rat.intCast_natCast,Rat.intCast_natCast,qO,qO,Rat.natCast_mul,Rat.natCast_mul,←jK,←jK]
 have h1:(2:Rat)^(((a.p - min a.p b.p).toNat:Nat):Int)*2^(min a.p b.p)=2^a.p:=by
  rw[←jL];congr 1;lia
 have h2:(2:Rat)^(((b.p - min a.p b.p).toNat:Nat):Int)*2^(min a.p b.p)=2^b.p:=by
  rw[←jL];congr 1;lia
 grind
theorem yK{k:Kind}{a b:Num}{A:Rat}(h1:rv a+rv b≤A)(h2: -A≤rv a+rv b)(h0:0≤A):jG (rv (bL k a b)) (rv a+rv b) (A*Ay k+eta k):=by
 have he:0<Ay k:=gr _
 have ht:0<eta k:=gr _
 have hAe:0≤A*Ay k:=Rat.mul_nonneg h0 (Rat.le_of_lt he)
 have hs:=DU a b
 unfold bL
 by_cases hz:dS a b=0
 ·rw[if_pos hz]
  rw[hz]at hs
  have:rv a+rv b=0:=by rw[←hs];exact Rat.zero_mul _
  rw[this]
  have e0:rv ⟨a.s&&b.s,0,min a.p b.p⟩=0:=by
   unfold rv mv
   show _*((0:Rat)*_)=0
   grind
  rw[e0]
  unfold jG
  grind
 ·rw[if_neg hz]
  have e:rv a+rv b=sg (decide (dS a b<0))*mv (dS a b).natAbs (min a.p b.p):=by
   rw[←hs]
   unfold mv
   by_cases hn:dS a b<0
   ·rw[decide_eq_true hn]
    have:((dS a b:Int):Rat)=-(((dS a b).natAbs:Nat):Rat):=by
     rw[←Rat.intCast_natCast,←Rat.intCast_neg]
     congr 1
     lia
    rw[this]
    show _=(-1:Rat)*_
    grind
   ·rw[decide_eq_false hn]
    have:((dS a b:Int):Rat)=(((dS a b).natAbs:Nat):Rat):=by
     rw[←Rat.intCast_natCast]
     congr 1
     lia
    rw[this]
    show _=(1:Rat)*_
    grind
  rw[e]at h1 h2⊢
  refine nJ ?_
  rcases vB (decide (dS a b<0))with e|e<;>rw[e]at h1 h2<;>grind
theorem wA{k:Kind}{a:Num}{A:Rat}(h1:rv a≤A)(h2: -A≤rv a):jG (rv (dR k a)) (rv a) (A*Ay k+eta k):=by
 refine nJ ?_
 unfold rv at h1 h2
 rcases vB a.s with e|e<;>rw[e]at h1 h2<;>grind
theorem rE(a:Num):rv (fB a)=-rv a:=by
 unfold rv fB
 cases a.s<;>simp[sg]<;>grind
theorem Dn{w:Nat}{p b:Int}:gT w p b↔mv w p≤2^b:=by
 have hS:(0:Rat)<2^(-(min p b)):=gr _
 constructor
 ·intro h
  have h1:=Rat.natCast_le_natCast.mpr (h.at (G:=min p b) (by lia) (by lia))
  rw[jZ (by lia),jZ (by lia)]at h1
  have h2:=eL h1 hS
  have e:mv 1 b=2^b:=by unfold mv;show(1:Rat)*_=_;grind
  rwa [e]at h2
 ·intro h
  refine⟨min p b,by lia,by lia,?_⟩
  apply Rat.natCast_le_natCast.mp
  rw[jZ (by lia),jZ (by lia)]
  have e:mv 1 b=2^b:=by unfold mv;show(1:Rat)*_=_;grind
  rw[e]
  exact Rat.mul_le_mul_of_nonneg_right h (Rat.le_of_lt hS)
theorem Ok.vY{k:Kind}{n:Num}{c:Int}(o:Ok k n c):rv n≤2^c∧ -(2^c)≤rv n:=by
 have h:=Dn.mp o.le
 have h0:=lO n.w n.p
 unfold rv
 rcases vB n.s with e|e<;>rw[e]<;>grind
end TM
end
noncomputable section
namespace TM
open Rb50
theorem Mx{p q:Int}(h:p≤q):(2:Rat)^p≤2^q:=by
 have e:(2:Rat)^q=2^p*2^(((q - p).toNat:Nat):Int):=by rw[←jL];congr 1;lia
 rw[e,jK]
 have h1:(1:Rat)≤((2^(q - p).toNat:Nat):Rat):=by
  have:((1:Nat):Rat)≤((2^(q - p).toNat:Nat):Rat):=Rat.natCast_le_natCast.mpr (two_pos _)
  exact this
 have h2:=Rat.mul_le_mul_of_nonneg_left h1 (Rat.le_of_lt (gr p))
 grind
theorem uY{A:Rat}(h0:0≤A)(h:A≤4):A*Ay EXT+eta EXT≤1 / 10^15:=by
 have e1:Ay EXT≤1 / 10^17:=by decide+kernel
 have e2:eta EXT≤1 / 10^17:=by
  have:eta EXT≤2^(-64:Int):=Mx (by decide)
  exact Rat.le_trans this (by decide+kernel)
 have h1:A*Ay EXT≤A*(1 / 10^17):=Rat.mul_le_mul_of_nonneg_left e1 h0
 grind
theorem Aa{t u B:Rat}(hu0:0≤u)(hu1:u≤1)(h1:t≤B)(h2: -B≤t)(hB:0≤B):t*u≤B∧ -B≤t*u:=by
 have a1:0≤(B - t)*u:=Rat.mul_nonneg (by grind) hu0
 have a2:0≤(B+t)*u:=Rat.mul_nonneg (by grind) hu0
 have a3:0≤B*(1 - u):=Rat.mul_nonneg hB (by grind)
 constructor<;>grind
theorem hstep{t u C:Num}(hu0:0≤rv u)(hu1:rv u≤1)(h1:rv t≤2)(h2: -2≤rv t)(c1:rv C≤1)(c2: -1≤rv C):jG (rv (bL EXT (bC EXT t u) C)) (rv t*rv u+rv C) (1 / 10^14):=by
 obtain⟨m1,m2⟩:=Aa hu0 hu1 h1 h2 (by decide+kernel)
 obtain⟨n1,n2⟩:=oZ (k:=EXT) (a:=t) (b:=u) (A:=2) m1 m2
 have e1:=uY (A:=2) (by decide+kernel) (by decide+kernel)
 obtain⟨p1,p2⟩:=yK (k:=EXT) (a:=bC EXT t u) (b:=C) (A:=4) (by grind) (by grind) (by decide+kernel)
 have e2:=uY (A:=4) (by decide+kernel) (by decide+kernel)
 unfold jG
 grind
theorem hbound{t u C:Num}{B c:Rat}(hu0:0≤rv u)(hu1:rv u≤1)(h1:rv t≤B)(h2: -B≤rv t)(c1:rv C≤c)(c2: -c≤rv C)(hB0:0≤B)(hB:B≤2)(hc:c≤1)(D:Rat)(hD:B+c+1 / 10^14≤D):
  rv (bL EXT (bC EXT t u) C)≤D∧ -D≤rv (bL EXT (bC EXT t u) C):=by
 obtain⟨n1,n2⟩:=hstep (t:=t) (u:=u) (C:=C) hu0 hu1 (by grind) (by grind) (by grind) (by grind)
 obtain⟨m1,m2⟩:=Aa hu0 hu1 h1 h2 hB0
 constructor<;>grind
theorem uq{u C0 C1 C2:Num}{t3:Num}(hu0:0≤rv u)(hu1:rv u≤1)(ht:rv t3≤0)(ht2: -(1 / 1000)≤rv t3)(a0:rv C0≤1)(b0: -1≤rv C0)(a1:rv C1≤0)(b1: -(1 / 2)≤rv C1)(a2:rv C2≤1 / 10)(b2:0≤rv C2):
  rv (bL EXT (bC EXT (bL EXT (bC EXT (bL EXT (bC EXT t3 u) C2) u) C1) u) C0)≤rv C0+rv u*rv C1+rv u*rv u*rv C2+1 / 10^13∧
  rv C0+rv C1 - 1 / 500≤rv (bL EXT (bC EXT (bL EXT (bC EXT (bL EXT (bC EXT t3 u) C2) u) C1) u) C0):=by
 obtain⟨x1,x2⟩:=hstep (t:=t3) (u:=u) (C:=C2) hu0 hu1 (by grind) (by grind) (by grind) (by grind)
 have q3:0≤ -rv t3*rv u:=Rat.mul_nonneg (by grind) hu0
 have q3':0≤(rv t3+1 / 1000)*rv u:=Rat.mul_nonneg (by grind) hu0
 generalize bL EXT (bC EXT t3 u) C2=t2 at*
 have l2:rv t2≤rv C2+1 / 10^14:=by grind
 have l2':rv C2 - 1 / 1000 - 1 / 10^14≤rv t2:=by grind
 obtain⟨y1,y2⟩:=hstep (t:=t2) (u:=u) (C:=C1) hu0 hu1 (by grind) (by grind) (by grind) (by grind)
 have q2:0≤(rv C2+1 / 10^14 - rv t2)*rv u:=Rat.mul_nonneg (by grind) hu0
 have q2':0≤(rv t2+1 / 900)*rv u:=Rat.mul_nonneg (by grind) hu0
 have q2c:0≤rv C2*rv u:=Rat.mul_nonneg b2 hu0
 have q2d:0≤rv C2*(1 - rv u):=Rat.mul_nonneg b2 (by grind)
 generalize bL EXT (bC EXT t2 u) C1=t1 at*
 have l1:rv t1≤rv C2*rv u+rv C1+2 / 10^14:=by grind
 have l1':rv C1 - 1 / 800≤rv t1:=by grind
 obtain⟨z1,z2⟩:=hstep (t:=t1) (u:=u) (C:=C0) hu0 hu1 (by grind) (by grind) (by grind) (by grind)
 have q1:0≤(rv C2*rv u+rv C1+2 / 10^14 - rv t1)*rv u:=Rat.mul_nonneg (by grind) hu0
 have q1':0≤(rv t1 - rv C1+1 / 800)*rv u:=Rat.mul_nonneg (by grind) hu0
 have q1c:0≤ -rv C1*(1 - rv u):=Rat.mul_nonneg (by grind) (by grind)
 constructor<;>grind
end TM
end
noncomputable section
namespace TM
open Rb50
def My:Num:=⟨false,9223372036854775808,-63⟩
def Lp:Num:=⟨true,11378879155978302162,-65⟩
def Lo:Num:=⟨false,9358752983108951451,-69⟩
def KZ:Num:=⟨true,12315625284106702819,-75⟩
def KY:Num:=⟨false,17364335643740985251,-82⟩
def KW:Num:=⟨true,15233699865907453261,-89⟩
def KU:Num:=⟨false,18224314089870857327,-97⟩
def KS:Num:=⟨true,15812463344898832750,-105⟩
def KR:Num:=⟨false,10404183854725178700,-113⟩
def KQ:Num:=⟨true,10738319347695526467,-122⟩
def AN:Num:=⟨false,17849762340095794292,-132⟩
theorem Gx:terms COSINE=[AN,KQ,KR,KS,KU,KW,KY,KZ,Lo,Lp,My]:=rfl
theorem EY(u:Num):e8 (terms COSINE) u=bL EXT (bC EXT (bL EXT (bC EXT (bL EXT (bC EXT (bL EXT (bC EXT (bL EXT (bC EXT (bL EXT (bC EXT (bL EXT (bC EXT (bL EXT (bC EXT (bL EXT (bC EXT (bL EXT (bC EXT (AN) u) KQ) u) KR) u) KS) u) KU) u) KW) u) KY) u) KZ) u) Lo) u) Lp) u) My:=by rw[Gx];unfold e8;simp only[List.foldl_cons,List.foldl_nil]
theorem L0{u:Num}(hu0:0≤rv u)(hu1:rv u≤1):rv (bL EXT (bC EXT (bL EXT (bC EXT (bL EXT (bC EXT (bL EXT (bC EXT (bL EXT (bC EXT (bL EXT (bC EXT (bL EXT (bC EXT (AN) u) KQ) u) KR) u) KS) u) KU) u) KW) u) KY) u) KZ)≤0∧ -(1 / 1000)≤rv (bL EXT (bC EXT (bL EXT (bC EXT (bL EXT (bC EXT (bL EXT (bC EXT (bL EXT (bC EXT (bL EXT (bC EXT (bL EXT (bC EXT (AN) u) KQ) u) KR) u) KS) u) KU) u) KW) u) KY) u) KZ):=by
 have b10:rv AN≤(1 / 1000000000000)∧ -(1 / 1000000000000)≤rv AN:=by decide+kernel
 have c9:rv KQ≤(1 / 1000000000000)∧ -(1 / 1000000000000)≤rv KQ:=by decide+kernel
 have b9:=hbound hu0 hu1 b10.1 b10.2 c9.1 c9.2 (by decide+kernel) (by decide+kernel) (by decide+kernel) (3 / 1000000000000) (by decide+kernel)
 have c8:rv KR≤(1 / 1000000000000)∧ -(1 / 1000000000000)≤rv KR:=by decide+kernel
 have b8:=hbound hu0 hu1 b9.1 b9.2 c8.1 c8.2 (by decide+kernel) (by decide+kernel) (by decide+kernel) (1 / 200000000000) (by decide+kernel)
 have c7:rv KS≤(1 / 1000000000000)∧ -(1 / 1000000000000)≤rv KS:=by decide+kernel
 have b7:=hbound hu0 hu1 b8.1 b8.2 c7.1 c7.2 (by decide+kernel) (by decide+kernel) (by decide+kernel) (7 / 1000000000000) (by decide+kernel)
 have c6:rv KU≤(29 / 250000000000)∧ -(29 / 250000000000)≤rv KU:=by decide+kernel
 have b6:=hbound hu0 hu1 b7.1 b7.2 c6.1 c6.2 (by decide+kernel) (by decide+kernel) (by decide+kernel) (31 / 250000000000) (by decide+kernel)
 have c5:rv KW≤(6153 / 250000000000)∧ -(6153 / 250000000000)≤rv KW:=by decide+kernel
 have b5:=hbound hu0 hu1 b6.1 b6.2 c5.1 c5.2 (by decide+kernel) (by decide+kernel) (by decide+kernel) (24737 / 1000000000000) (by decide+kernel)
 have c4:rv KY≤(3590861 / 1000000000000)∧ -(3590861 / 1000000000000)≤rv KY:=by decide+kernel
 have b4:=hbound hu0 hu1 b5.1 b5.2 c4.1 c4.2 (by decide+kernel) (by decide+kernel) (by decide+kernel) (3615599 / 1000000000000) (by decide+kernel)
 generalize bL EXT (bC EXT (bL EXT (bC EXT (bL EXT (bC EXT (bL EXT (bC EXT (bL EXT (bC EXT (bL EXT (bC EXT (AN) u) KQ) u) KR) u) KS) u) KU) u) KW) u) KY=t4 at*
 have c3:rv KZ≤ -(1 / 100000)*3∧ -(1 / 2000)≤rv KZ:=by decide+kernel
 obtain⟨n1,n2⟩:=hstep (t:=t4) (u:=u) (C:=KZ) hu0 hu1 (by grind) (by grind) (by grind) (by grind)
 obtain⟨m1,m2⟩:=Aa hu0 hu1 b4.1 b4.2 (by decide+kernel)
 constructor<;>grind
def Mq:Num:=⟨false,14488038916154245685,-64⟩
def Ll:Num:=⟨true,11915934387502487029,-67⟩
def Lk:Num:=⟨false,11760555847398657682,-72⟩
def KP:Num:=⟨true,11054479404832665075,-78⟩
def KO:Num:=⟨false,12122593176187571656,-85⟩
def KN:Num:=⟨true,17402938031173335826,-93⟩
def KL:Num:=⟨false,17616421926600382868,-101⟩
def KJ:Num:=⟨true,13247018314531216523,-109⟩
def KI:Num:=⟨false,15381509442165721424,-118⟩
def KH:Num:=⟨true,14204389547209013294,-127⟩
def AI:Num:=⟨false,10681272806851181676,-136⟩
theorem Gw:terms SINE=[AI,KH,KI,KJ,KL,KN,KO,KP,Lk,Ll,Mq]:=rfl
theorem EX(u:Num):e8 (terms SINE) u=bL EXT (bC EXT (bL EXT (bC EXT (bL EXT (bC EXT (bL EXT (bC EXT (bL EXT (bC EXT (bL EXT (bC EXT (bL EXT (bC EXT (bL EXT (bC EXT (bL EXT (bC EXT (bL EXT (bC EXT (AI) u) KH) u) KI) u) KJ) u) KL) u) KN) u) KO) u) KP) u) Lk) u) Ll) u) Mq:=by rw[Gw];unfold e8;simp only[List.foldl_cons,List.foldl_nil]
theorem LZ{u:Num}(hu0:0≤rv u)(hu1:rv u≤1):rv (bL EXT (bC EXT (bL EXT (bC EXT (bL EXT (bC EXT (bL EXT (bC EXT (bL EXT (bC EXT (bL EXT (bC EXT (bL EXT (bC EXT (AI) u) KH) u) KI) u) KJ) u) KL) u) KN) u) KO) u) KP)≤0∧ -(1 / 1000)≤rv (bL EXT (bC EXT (bL EXT (bC EXT (bL EXT (bC EXT (bL EXT (bC EXT (bL EXT (bC EXT (bL EXT (bC EXT (bL EXT (bC EXT (AI) u) KH) u) KI) u) KJ) u) KL) u) KN) u) KO) u) KP):=by
 have b10:rv AI≤(1 / 1000000000000)∧ -(1 / 1000000000000)≤rv AI:=by decide+kernel
 have c9:rv KH≤(1 / 1000000000000)∧ -(1 / 1000000000000)≤rv KH:=by decide+kernel
 have b9:=hbound hu0 hu1 b10.1 b10.2 c9.1 c9.2 (by decide+kernel) (by decide+kernel) (by decide+kernel) (3 / 1000000000000) (by decide+kernel)
 have c8:rv KI≤(1 / 1000000000000)∧ -(1 / 1000000000000)≤rv KI:=by decide+kernel
 have b8:=hbound hu0 hu1 b9.1 b9.2 c8.1 c8.2 (by decide+kernel) (by decide+kernel) (by decide+kernel) (1 / 200000000000) (by decide+kernel)
 have c7:rv KJ≤(1 / 1000000000000)∧ -(1 / 1000000000000)≤rv KJ:=by decide+kernel
 have b7:=hbound hu0 hu1 b8.1 b8.2 c7.1 c7.2 (by decide+kernel) (by decide+kernel) (by decide+kernel) (7 / 1000000000000) (by decide+kernel)
 have c6:rv KL≤(7 / 1000000000000)∧ -(7 / 1000000000000)≤rv KL:=by decide+kernel
 have b6:=hbound hu0 hu1 b7.1 b7.2 c6.1 c6.2 (by decide+kernel) (by decide+kernel) (by decide+kernel) (3 / 200000000000) (by decide+kernel)
 have c5:rv KN≤(879 / 500000000000)∧ -(879 / 500000000000)≤rv KN:=by decide+kernel
 have b5:=hbound hu0 hu1 b6.1 b6.2 c5.1 c5.2 (by decide+kernel) (by decide+kernel) (by decide+kernel) (887 / 500000000000) (by decide+kernel)
 have c4:rv KO≤(156681 / 500000000000)∧ -(156681 / 500000000000)≤rv KO:=by decide+kernel
 have b4:=hbound hu0 hu1 b5.1 b5.2 c4.1 c4.2 (by decide+kernel) (by decide+kernel) (by decide+kernel) (315137 / 1000000000000) (by decide+kernel)
 generalize bL EXT (bC EXT (bL EXT (bC EXT (bL EXT (bC EXT (bL EXT (bC EXT (bL EXT (bC EXT (bL EXT (bC EXT (AI) u) KH) u) KI) u) KJ) u) KL) u) KN) u) KO=t4 at*
 have c3:rv KP≤ -(1 / 100000)*3∧ -(1 / 2000)≤rv KP:=by decide+kernel
 obtain⟨n1,n2⟩:=hstep (t:=t4) (u:=u) (C:=KP) hu0 hu1 (by grind) (by grind) (by grind) (by grind)
 obtain⟨m1,m2⟩:=Aa hu0 hu1 b4.1 b4.2 (by decide+kernel)
 constructor<;>grind
theorem Hf{a b:Num}(ha:a.s=false)(hb:b.s=false)(e:Eqv a.w a.p b.w b.p):rv a=rv b:=by
 unfold rv
 rw[ha,hb]
 obtain⟨G,h1,h2,h3⟩:=e
 have k1:=jZ (w:=a.w) h1
 have k2:=jZ (w:=b.w) h2
 rw[h3,k2]at k1
 have hp:=gr (-G)
 have i1:mv a.w a.p≤mv b.w b.p:=eL (by rw[k1];exact Rat.le_refl) hp
 have i2:mv b.w b.p≤mv a.w a.p:=eL (by rw[k1];exact Rat.le_refl) hp
 rw[Rat.le_antisymm i1 i2]
theorem JD(p:Nat):0≤rv (dj p)∧rv (dj p)≤1:=by
 obtain⟨_,o⟩:=qZ p
 have h:=o.vY.1
 refine⟨?_,by simpa using h⟩
 unfold rv dj
 show 0≤(1:Rat)*mv _ _
 have:=lO (if p / 2^61%2=1 then 2^61 - p%2^61 else p%2^61) (-61)
 grind
theorem NC{x:Num}(h0:0≤rv x)(h1:rv x≤1):0≤rv (bC EXT x x)∧jG (rv (bC EXT x x)) (rv x*rv x) (1 / 10^15):=by
 have a1:0≤rv x*rv x:=Rat.mul_nonneg h0 h0
 have a2:0≤rv x*(1 - rv x):=Rat.mul_nonneg h0 (by grind)
 obtain⟨n1,n2⟩:=oZ (k:=EXT) (a:=x) (b:=x) (A:=1) (by grind) (by grind)
 have e1:=uY (A:=1) (by decide+kernel) (by decide+kernel)
 refine⟨?_,?_,?_⟩
 ·unfold rv
  have hs:(bC EXT x x).s=false:=by unfold bC;rw[gE];cases x.s<;>rfl
  rw[hs]
  have:=lO (bC EXT x x).w (bC EXT x x).p
  show 0≤(1:Rat)*_
  grind
 ·grind
 ·grind
theorem ND(p:Nat):rv (bC EXT (dj p) (dj p))≤1:=by
 obtain⟨r,o⟩:=qZ p
 obtain⟨_,o2⟩:=fu r r o o (by decide) (by decide)
 have:=o2.vY.1
 simpa using this
theorem F9(p:Nat):rv (Ax p)*rv (Ax p)+rv (zJ p)*rv (zJ p)≤1+1 / 400:=by
 obtain⟨x0,x1⟩:=JD p
 obtain⟨u0,un1,un2⟩:=NC x0 x1
 have u1:=ND p
 have hu:=nG p
 obtain⟨cq1,cq2,cq3,_⟩:=Ku hu
 obtain⟨sq1,sq2,sq3,_⟩:=Jy hu
 unfold Ax zJ
 rw[Hf (a:=gw iC _) cq3 cq1 cq2.symm]
 have hsr:=Hf (a:=gw fV (bC EXT (dj p) (dj p))) sq3 sq1 sq2.symm
 generalize gw fV (bC EXT (dj p) (dj p))=sM at*
 clear cq1 cq2 cq3 sq1 sq2 sq3 hu
 generalize dj p=x at*
 generalize bC EXT x x=u at*
 rw[EY]
 rw[EX]at hsr
 obtain⟨c31,c32⟩:=L0 u0 u1
 obtain⟨s31,s32⟩:=LZ u0 u1
 generalize hX:bL EXT (bC EXT (bL EXT (bC EXT (bL EXT (bC EXT (bL EXT (bC EXT (bL EXT (bC EXT (bL EXT (bC EXT (bL EXT (bC EXT (AN) u) KQ) u) KR) u) KS) u) KU) u) KW) u) KY) u) KZ=X at*
 generalize hY:bL EXT (bC EXT (bL EXT (bC EXT (bL EXT (bC EXT (bL EXT (bC EXT (bL EXT (bC EXT (bL EXT (bC EXT (bL EXT (bC EXT (AI) u) KH) u) KI) u) KJ) u) KL) u) KN) u) KO) u) KP=Y at*
 clear hX hY
 have k0:rv My=1:=by decide+kernel
 have k1:rv Lp≤ -(308 / 1000)∧ -(309 / 1000)≤rv Lp:=by decide+kernel
 have k2:rv Lo≤16 / 1000∧0≤rv Lo:=by decide+kernel
 have l0:rv Mq≤7854 / 10000∧785 / 1000≤rv Mq:=by decide+kernel
 have l1:rv Ll≤ -(807 / 10000)∧ -(81 / 1000)≤rv Ll:=by decide+kernel
 have l2:rv Lk≤25 / 10000∧0≤rv Lk:=by decide+kernel
 obtain⟨f1,f2⟩:=uq (C0:=My) (C1:=Lp) (C2:=Lo) u0 u1 c31 c32 (by grind) (by grind) (by grind) (by grind) (by grind) (by grind)
 obtain⟨g1,g2⟩:=uq (C0:=Mq) (C1:=Ll) (C2:=Lk) u0 u1 s31 s32 (by grind) (by grind) (by grind) (by grind) (by grind) (by grind)
 generalize bL EXT (bC EXT (bL EXT (bC EXT (bL EXT (bC EXT X u) Lo) u) Lp) u) My=cN at*
 generalize bL EXT (bC EXT (bL EXT (bC EXT (bL EXT (bC EXT Y u) Lk) u) Ll) u) Mq=sN at*
 rw[←hsr]at g1 g2
 clear hsr
 clear sN
 generalize sM=sN at*
 have uu:0≤rv u*rv u:=Rat.mul_nonneg u0 u0
 have d1:0≤rv u*(-(308 / 1000) - rv Lp):=Rat.mul_nonneg u0 (by grind)
 have d2:0≤rv u*rv u*(16 / 1000 - rv Lo):=Rat.mul_nonneg uu (by grind)
 have hc:rv cN≤1 - 308 / 1000*rv u+16 / 1000*(rv u*rv u)+1 / 10^13:=by grind
 have hc0:0≤rv cN:=by grind
 have d3:0≤rv u*(-(807 / 10000) - rv Ll):=Rat.mul_nonneg u0 (by grind)
 have d4:0≤rv u*rv u*(25 / 10000 - rv Lk):=Rat.mul_nonneg uu (by grind)
 have hs:rv sN≤7854 / 10000 - 807 / 10000*rv u+25 / 10000*(rv u*rv u)+1 / 10^13:=by grind
 have hs0:0≤rv sN:=by grind
 have uv:0≤rv u*(1 - rv u):=Rat.mul_nonneg u0 (by grind)
 have hs1:rv sN≤8 / 10:=by grind
 have xs0:0≤rv x*rv sN:=Rat.mul_nonneg x0 hs0
 have xs1:0≤(1 - rv x)*rv sN:=Rat.mul_nonneg (by grind) hs0
 obtain⟨p1,p2⟩:=oZ (k:=EXT) (a:=x) (b:=sN) (A:=1) (by grind) (by grind)
 have e1:=uY (A:=1) (by decide+kernel) (by decide+kernel)
 generalize rv (bC EXT x sN)=P at*
 generalize rv x=X at*
 generalize rv sN=S at*
 generalize rv cN=C at*
 generalize rv u=U at*
 clear f1 f2 g1 g2 d1 d2 d3 d4 k0 k1 k2 l0 l1 l2
 have A:C*C≤(1 - 308 / 1000*U+16 / 1000*(U*U)+1 / 10^13)*(1 - 308 / 1000*U+16 / 1000*(U*U)+1 / 10^13):=by
  have z1:0≤(1 - 308 / 1000*U+16 / 1000*(U*U)+1 / 10^13 - C)*C:=Rat.mul_nonneg (by grind) hc0
  have z2:0≤(1 - 308 / 1000*U+16 / 1000*(U*U)+1 / 10^13 - C)*(1 - 308 / 1000*U+16 / 1000*(U*U)+1 / 10^13):=Rat.mul_nonneg (by grind) (by grind)
  grind
 have B:P*P≤(X*S+1 / 10^15)*(X*S+1 / 10^15):=by
  have z1:0≤(X*S+1 / 10^15 - P)*(X*S+1 / 10^15+P):=Rat.mul_nonneg (by grind) (by grind)
  grind
 have SS:0≤S*S:=Rat.mul_nonneg hs0 hs0
 have SS1:S*S≤1:=by
  have z1:0≤(8 / 10 - S)*S:=Rat.mul_nonneg (by grind) hs0
  grind
 have Dd:0≤(U+1 / 10^15 - X*X)*(S*S):=Rat.mul_nonneg (by grind) SS
 have E0:S*S≤(7854 / 10000 - 807 / 10000*U+25 / 10000*(U*U)+1 / 10^13)*(7854 / 10000 - 807 / 10000*U+25 / 10000*(U*U)+1 / 10^13):=by
  have z1:0≤(7854 / 10000 - 807 / 10000*U+25 / 10000*(U*U)+1 / 10^13 - S)*S:=Rat.mul_nonneg (by grind) hs0
  have z2:0≤(7854 / 10000 - 807 / 10000*U+25 / 10000*(U*U)+1 / 10^13 - S)*(7854 / 10000 - 807 / 10000*U+25 / 10000*(U*U)+1 / 10^13):=Rat.mul_nonneg (by grind) (by grind)
  grind
 have Ee:0≤U*((7854 / 10000 - 807 / 10000*U+25 / 10000*(U*U)+1 / 10^13)*(7854 / 10000 - 807 / 10000*U+25 / 10000*(U*U)+1 / 10^13) - S*S):=Rat.mul_nonneg u0 (by grind)
 have W:P*P≤U*((7854 / 10000 - 807 / 10000*U+25 / 10000*(U*U)+1 / 10^13)*(7854 / 10000 - 807 / 10000*U+25 / 10000*(U*U)+1 / 10^13))+1 / 10^13:=by grind
 clear B Dd Ee E0 SS SS1 xs0 xs1 p1 p2
 have u3:0≤U*U*(1 - U):=Rat.mul_nonneg uu (by grind)
 have uu3:0≤U*U*U:=Rat.mul_nonneg uu u0
 have u4:0≤U*U*U*(1 - U):=Rat.mul_nonneg uu3 (by grind)
 have uu4:0≤U*U*U*U:=Rat.mul_nonneg uu3 u0
 have u5:0≤U*U*U*U*(1 - U):=Rat.mul_nonneg uu4 (by grind)
 grind
end TM
end
noncomputable section
namespace TM
open Rb50
theorem I0{s:Bool}{m A:Rat}(h0:0≤m)(h1:sg s*m≤A)(h2: -A≤sg s*m):m≤A:=by
 rcases vB s with e|e<;>rw[e]at h1 h2<;>grind
theorem yw(a b:Num):rv a*rv b=sg (a.s != b.s)*mv (a.w*b.w) (a.p+b.p):=by
 unfold rv
 rw[GU,HV]
 grind
theorem D6{k:Kind}(g:Good k){a b:Num}{x y:F}{d:Int}(ha:Rep k a x)(hb:Rep k b y)(h1:rv a*rv b≤2^d)(h2: -(2^d)≤rv a*rv b)(hp:a.p+b.p≤d)(hl:k.least≤d)(hm:d<top k):
  ∃z,mul k x y=some z∧Rep k (bC k a b) z∧Ok k (bC k a b) d:=by
 rw[yw]at h1 h2
 obtain⟨z,e1,e2,e3⟩:=gD g (s:=a.s != b.s) (w:=a.w*b.w) (p:=a.p+b.p) (c:=d) hp (Dn.mpr (I0 (lO _ _) h1 h2)) hl hm
 refine⟨z,?_,e2,e3⟩
 unfold mul
 rw[ha.sg,hb.sg,←jd (ha.eqv.mul hb.eqv)]
 exact e1
theorem DV(a b:Num):rv a+rv b=sg (decide (dS a b<0))*mv (dS a b).natAbs (min a.p b.p):=by
 rw[←DU]
 unfold mv
 by_cases hn:dS a b<0
 ·rw[decide_eq_true hn]
  have:((dS a b:Int):Rat)=-(((dS a b).natAbs:Nat):Rat):=by
   rw[←Rat.intCast_natCast,←Rat.intCast_neg]
   congr 1
   lia
  rw[this]
  show _=(-1:Rat)*_
  grind
 ·rw[decide_eq_false hn]
  have:((dS a b:Int):Rat)=(((dS a b).natAbs:Nat):Rat):=by
   rw[←Rat.intCast_natCast]
   congr 1
   lia
  rw[this]
  show _=(1:Rat)*_
  grind
theorem HD{k:Kind}(g:Good k){a b:Num}{d:Int}(la:k.least≤a.p)(lb:k.least≤b.p)(h1:rv a+rv b≤2^d)(h2: -(2^d)≤rv a+rv b)(hp:min a.p b.p≤d)(hl:k.least≤d)(hm:d<top k):Ok k (bL k a b) d:=by
 unfold bL
 by_cases hz:dS a b=0
 ·rw[if_pos hz]
  exact⟨Nat.zero_le _,by show k.least≤min a.p b.p;lia,hp,gT.zero _ _⟩
 ·rw[if_neg hz]
  rw[DV]at h1 h2
  obtain⟨z,e1,e2,e3⟩:=gD g (s:=decide (dS a b<0)) (w:=(dS a b).natAbs) (p:=min a.p b.p) (c:=d) hp (Dn.mpr (I0 (lO _ _) h1 h2)) hl hm
  exact e3
theorem As{k:Kind}(g:Good k){a b:Num}{x y:F}{c d:Int}(ha:Rep k a x)(hb:Rep k b y)(oa:Ok k a c)(ob:Ok k b c)(hc:c+1<top k)(h1:rv a+rv b≤2^d)(h2: -(2^d)≤rv a+rv b)(hp:min a.p b.p≤d)(hl:k.least≤d)(hm:d<top k):
  ∃z,add k x y=some z∧Rep k (bL k a b) z∧Ok k (bL k a b) d:=by
 have:=oa.lo
 have:=oa.hi
 obtain⟨z,e1,e2,_⟩:=Au g ha hb oa ob (by lia) hc
 exact⟨z,e1,e2,HD g oa.lo ob.lo h1 h2 hp hl hm⟩
theorem fW(x:Rat):0≤x*x:=by
 rcases @Rat.le_total 0 x with z|z
 ·exact Rat.mul_nonneg z z
 ·have:=Rat.mul_nonneg (show 0≤ -x by grind) (show 0≤ -x by grind)
  grind
theorem G5:Ay SINGLE=1 / 16777216:=by decide+kernel
theorem G4:eta SINGLE≤1 / 10^30∧0<eta SINGLE:=by decide+kernel
theorem Gv{a b g h L X Y p1 p2 p3 p4:Rat}(hL:1≤L)(hM:a*a+b*b≤L*L)(hG:g*g+h*h≤1+1 / 300)
  (n1:jG p1 (a*g) (2*L*(1 / 16777216)+1 / 10^30))(n2:jG p2 (b*h) (2*L*(1 / 16777216)+1 / 10^30))(nX:jG X (p1 - p2) (4*L*(1 / 16777216)+1 / 10^30))
  (n3:jG p3 (b*g) (2*L*(1 / 16777216)+1 / 10^30))(n4:jG p4 (a*h) (2*L*(1 / 16777216)+1 / 10^30))(nY:jG Y (p3+p4) (4*L*(1 / 16777216)+1 / 10^30)):
  X*X+Y*Y≤(L*(257 / 256)+1)*(L*(257 / 256)+1):=by
 have l0:0≤L*L:=Rat.mul_nonneg (by grind) (by grind)
 have c1:(a*g - b*h)*(a*g - b*h)+(b*g+a*h)*(b*g+a*h)=(a*a+b*b)*(g*g+h*h):=by grind
 have g0:0≤g*g+h*h:=by
  have z1:0≤g*g:=fW g
  have z2:0≤h*h:=fW h
  grind
 have c2:(a*a+b*b)*(g*g+h*h)≤L*L*(1+1 / 300):=by
  have z1:0≤(L*L - (a*a+b*b))*(g*g+h*h):=Rat.mul_nonneg (by grind) g0
  have z2:0≤L*L*(1+1 / 300 - (g*g+h*h)):=Rat.mul_nonneg l0 (by grind)
  grind
 have eX1:X≤(a*g - b*h)+L / 500000:=by unfold jG at*;grind
 have eX2:(a*g - b*h)≤X+L / 500000:=by unfold jG at*;grind
 have eY1:Y≤(b*g+a*h)+L / 500000:=by unfold jG at*;grind
 have eY2:(b*g+a*h)≤Y+L / 500000:=by unfold jG at*;grind
 clear n1 n2 n3 n4 nX nY
 generalize a*g - b*h=x at*
 generalize b*g+a*h=y at*
 have sq:x*x+y*y≤L*L*(1+1 / 300):=by grind
 clear c1 c2 g0 hG hM
 have xx:0≤x*x:=fW x
 have yy:0≤y*y:=fW y
 have aux:∀x X:Rat,X≤x+L / 500000→x≤X+L / 500000→X*X≤x*x+(x*x+L*L) / 1000:=by
  intro x X h1 h2
  have z1:0≤(x+L / 500000 - X)*(X - x+L / 500000):=Rat.mul_nonneg (by grind) (by grind)
  have z2:=fW (x - 1000*(X - x))
  have z3:0≤x*x:=fW x
  grind
 have a1:=aux x X eX1 eX2
 have a2:=aux y Y eY1 eY2
 grind
end TM
end
noncomputable section
namespace TM
open Rb50
theorem jb{a b:Num}{x y:F}{c:Int}(ha:Rep SINGLE a x)(hb:Rep SINGLE b y)(oa:Ok SINGLE a c)(ob:Ok SINGLE b c)(hm:c+1<128):Rep SINGLE (bL SINGLE a b) (sPlus x y)∧Ok SINGLE (bL SINGLE a b) (c+1):=by
 have:=oa.lo
 have:=oa.hi
 obtain⟨z,h1,h2,h3⟩:=Au dh ha hb oa ob (by lia) (by rw[jN];exact hm)
 refine⟨?_,h3⟩
 unfold sPlus
 rw[h1]
 exact h2
theorem jc{a b:Num}{x y:F}{c:Int}(ha:Rep SINGLE a x)(hb:Rep SINGLE b y)(oa:Ok SINGLE a c)(ob:Ok SINGLE b c)(hm:c+1<128):Rep SINGLE (fD SINGLE a b) (sLess x y)∧Ok SINGLE (fD SINGLE a b) (c+1):=by
 have:=oa.lo
 have:=oa.hi
 obtain⟨z,h1,h2,h3⟩:=GI dh ha hb oa ob (by lia) (by rw[jN];exact hm)
 refine⟨?_,h3⟩
 unfold sLess
 rw[h1]
 exact h2
theorem sS{a b:Num}{x y:F}{c d:Int}(ha:Rep SINGLE a x)(hb:Rep SINGLE b y)(oa:Ok SINGLE a c)(ob:Ok SINGLE b d)(hl: -149≤c+d)(hm:c+d<128):Rep SINGLE (bC SINGLE a b) (sTimes x y)∧Ok SINGLE (bC SINGLE a b) (c+d):=by
 obtain⟨z,h1,h2,h3⟩:=HX dh ha hb oa ob (by rw[dw];exact hl) (by rw[jN];exact hm)
 refine⟨?_,h3⟩
 unfold sTimes
 rw[h1]
 exact h2
theorem G8{a b:Num}{x y:F}{c d:Int}(ha:Rep SINGLE a x)(hb:Rep SINGLE b y)(oa:Ok SINGLE a c)(hb0:b.w≠0)(hd:c - b.p≤d)(hl: -149≤d)(hm:d<128):Rep SINGLE (nR SINGLE a b) (sBy x y)∧Ok SINGLE (nR SINGLE a b) d:=by
 obtain⟨z,h1,h2,h3⟩:=IK dh (by decide) ha hb oa hb0 hd (by rw[dw];exact hl) (by rw[jN];exact hm)
 refine⟨?_,h3⟩
 unfold sBy
 rw[h1]
 exact h2
theorem sW{k:Kind}{s:Bool}{w:Nat}{p d:Int}(hp:p≤d)(hv:gT w p (d+k.frac))(hl:k.least≤d):(bX k s w p).p≤d:=by
 by_cases hw:w=0
 ·subst hw
  rw[fF]
  show max p k.least≤d
  lia
 ·unfold bX
  by_cases ho:over k w p≤0
  ·rw[if_pos ho];exact hp
  ·rw[if_neg ho]
   have:=hv.log hw
   show p+over k w p≤d
   unfold over bl
   rw[if_neg hw]
   omega
theorem M4(p:Nat):(Ax p).p≤0∧(zJ p).p≤0:=by
 obtain⟨r,o⟩:=qZ p
 obtain⟨r2,o2⟩:=fu r r o o (by decide) (by decide)
 obtain⟨_,_,_,_,_,c6,_⟩:=Ku (nG p)
 obtain⟨_,q2,_,_,q5,q6,_⟩:=Jy (nG p)
 obtain⟨r3,o3⟩:=sH (l:=SINE) (by decide+kernel) r2 o2 (by decide) (by decide)
 have h3:=gT.eqv q2 o3.le
 refine⟨c6,?_⟩
 unfold zJ
 generalize gw fV (bC EXT (dj p) (dj p))=S at*
 unfold bC
 have hp1:(dj p).p=-61:=rfl
 exact sW (by lia) ((o.le.mul h3).mono (by decide)) (by decide)
theorem tK(p:Nat):(cI p).p≤0:=by
 obtain⟨h1,h2⟩:=M4 p
 unfold cI
 simp only
 generalize Ax p=C at*
 generalize zJ p=S at*
 split<;>split<;>first|exact h2|exact h1
theorem DB(p:Nat):(gq p).p≤0:=tK _
theorem AF{p q:Nat}(hk:p / 2^61<8)(e1:q / 2^61=(p / 2^61+6)%8)(e2:q%2^61=p%2^61):rv (cI p)*rv (cI p)+rv (cI q)*rv (cI q)=rv (Ax p)*rv (Ax p)+rv (zJ p)*rv (zJ p):=by
 have e3:dj q=dj p:=by
  unfold dj
  rw[e1,e2]
  have:(p / 2^61+6)%8%2=p / 2^61%2:=by lia
  rw[this]
 obtain⟨e4,e5⟩:=Hy e3
 unfold cI
 rw[e1,e4,e5]
 clear e1 e2 e3 e4 e5
 generalize Ax p=C at*
 generalize zJ p=S at*
 generalize p / 2^61=k at hk
 have hc:=rE C
 have hs:=rE S
 match k,hk with
 |0,_=>show rv C*rv C+rv S*rv S=_;rfl
 |1,_=>show rv S*rv S+rv C*rv C=_;grind
 |2,_=>show rv (fB S)*rv (fB S)+rv C*rv C=_;rw[hs];grind
 |3,_=>show rv (fB C)*rv (fB C)+rv S*rv S=_;rw[hc];grind
 |4,_=>show rv (fB C)*rv (fB C)+rv (fB S)*rv (fB S)=_;rw[hc,hs];grind
 |5,_=>show rv (fB S)*rv (fB S)+rv (fB C)*rv (fB C)=_;rw[hc,hs];grind
 |6,_=>show rv S*rv S+rv (fB C)*rv (fB C)=_;rw[hc];grind
 |7,_=>show rv C*rv C+rv (fB S)*rv (fB S)=_;rw[hs];grind
theorem Ds{p:Nat}(h:p<2^64):rv (cI p)*rv (cI p)+rv (gq p)*rv (gq p)≤1+1 / 400:=by
 have h1:rv (cI p)*rv (cI p)+rv (gq p)*rv (gq p)=_:=AF (p:=p) (q:=(p+3*2^62)%2^64) (by lia) (by omega) (by lia)
 rw[h1]
 exact F9 p
structure tP(g h:Num)(x y:F):Prop where
 rg:Rep SINGLE g x
 rh:Rep SINGLE h y
 og:Ok SINGLE g 10
 oh:Ok SINGLE h 10
 pg:g.p≤0
 ph:h.p≤0
 sq:rv g*rv g+rv h*rv h≤1+1 / 300
theorem Jj{p:Nat}(h:p<2^64):tP (dR SINGLE (cI p)) (dR SINGLE (gq p)) (other EXT SINGLE (cosSin p).1) (other EXT SINGLE (cosSin p).2):=by
 obtain⟨c1,c2⟩:=jJ h
 obtain⟨s1,s2⟩:=qN h
 obtain⟨g1,g2⟩:=jY dh c1 c2 (by decide) (by decide)
 obtain⟨h1,h2⟩:=jY dh s1 s2 (by decide) (by decide)
 have hc:=tK p
 have hs:=DB p
 have sq:=Ds h
 refine⟨g1,h1,g2,h2,sW hc (c2.le.mono (by decide)) (by decide),sW hs (s2.le.mono (by decide)) (by decide),?_⟩
 have q1:=fW (rv (cI p))
 have q2:=fW (rv (gq p))
 have b1:rv (cI p)≤2:=by
  have:=fW (rv (cI p) - 1)
  grind
 have b2: -2≤rv (cI p):=by
  have:=fW (rv (cI p)+1)
  grind
 have b3:rv (gq p)≤2:=by
  have:=fW (rv (gq p) - 1)
  grind
 have b4: -2≤rv (gq p):=by
  have:=fW (rv (gq p)+1)
  grind
 obtain⟨n1,n2⟩:=wA (k:=SINGLE) (a:=cI p) (A:=2) b1 b2
 obtain⟨m1,m2⟩:=wA (k:=SINGLE) (a:=gq p) (A:=2) b3 b4
 have e1:=G5
 have e2:=G4
 rw[e1]at n1 n2 m1 m2
 generalize rv (dR SINGLE (cI p))=G at*
 generalize rv (dR SINGLE (gq p))=S at*
 generalize rv (cI p)=c at*
 generalize rv (gq p)=s at*
 have aux:∀c G:Rat,c≤2→ -2≤c→G≤c+1 / 4000000→c≤G+1 / 4000000→G*G≤c*c+1 / 500000:=by
  intro c G a1 a2 a3 a4
  have z1:0≤(c+1 / 4000000 - G)*(G+1 / 4000000 - c):=Rat.mul_nonneg (by grind) (by grind)
  have z2:0≤(c+1 / 4000000 - G)*(2 - c):=Rat.mul_nonneg (by grind) (by grind)
  have z3:0≤(G+1 / 4000000 - c)*(2+c):=Rat.mul_nonneg (by grind) (by grind)
  have z4:0≤(c+1 / 4000000 - G)*(2+c):=Rat.mul_nonneg (by grind) (by grind)
  have z5:0≤(G+1 / 4000000 - c)*(2 - c):=Rat.mul_nonneg (by grind) (by grind)
  grind
 have a1:=aux c G b1 b2 (by grind) (by grind)
 have a2:=aux s S b3 b4 (by grind) (by grind)
 grind
end TM
end
noncomputable section
namespace TM
open Rb50
structure Dl(a b:Num)(x y:F)(L:Rat):Prop where
 ra:Rep SINGLE a x
 rb:Rep SINGLE b y
 oa:Ok SINGLE a 99
 ob:Ok SINGLE b 99
 len:rv a*rv a+rv b*rv b≤L*L
theorem jg{a L:Rat}(hL:0≤L)(h:a*a≤L*L):a≤L∧ -L≤a:=by
 constructor
 ·rcases @Rat.le_total a L with z|z
  ·exact z
  ·have z1:0≤(a - L)*(a - L):=fW _
   have z2:0≤(a - L)*L:=Rat.mul_nonneg (by grind) hL
   have z3:(a - L)*(a - L)=0:=by grind
   have z4:a - L=0:=by
    rcases Rat.mul_eq_zero.mp z3 with q|q<;>exact q
   grind
 ·rcases @Rat.le_total (-L) a with z|z
  ·exact z
  ·have z1:0≤(a+L)*(a+L):=fW _
   have z2:0≤(-a - L)*L:=Rat.mul_nonneg (by grind) hL
   have z3:(a+L)*(a+L)=0:=by grind
   have z4:a+L=0:=by
    rcases Rat.mul_eq_zero.mp z3 with q|q<;>exact q
   grind
theorem rN{a g L:Rat}(hL:0≤L)(a1:a≤L)(a2: -L≤a)(g1:g≤101 / 100)(g2: -(101 / 100)≤g):a*g≤L*(101 / 100)∧ -(L*(101 / 100))≤a*g:=by
 have z1:0≤(L - a)*(101 / 100 - g):=Rat.mul_nonneg (by grind) (by grind)
 have z2:0≤(L+a)*(101 / 100+g):=Rat.mul_nonneg (by grind) (by grind)
 have z3:0≤(L - a)*(101 / 100+g):=Rat.mul_nonneg (by grind) (by grind)
 have z4:0≤(L+a)*(101 / 100 - g):=Rat.mul_nonneg (by grind) (by grind)
 constructor<;>grind
theorem tP.le{g h:Num}{x y:F}(t:tP g h x y):(rv g≤101 / 100∧ -(101 / 100)≤rv g)∧(rv h≤101 / 100∧ -(101 / 100)≤rv h):=by
 have q1:=fW (rv g)
 have q2:=fW (rv h)
 have:=t.sq
 exact⟨jg (by decide+kernel) (by grind),jg (by decide+kernel) (by grind)⟩
theorem i6{a g:Num}{x u:F}{L:Rat}(ra:Rep SINGLE a x)(rg:Rep SINGLE g u)(oa:Ok SINGLE a 99)(pg:g.p≤0)(hL:1≤L)(hL2:L≤2^(96:Int))(a1:rv a≤L)(a2: -L≤rv a)(g1:rv g≤101 / 100)(g2: -(101 / 100)≤rv g):
  Rep SINGLE (bC SINGLE a g) (sTimes x u)∧Ok SINGLE (bC SINGLE a g) 99∧jG (rv (bC SINGLE a g)) (rv a*rv g) (2*L*(1 / 16777216)+1 / 10^30):=by
 obtain⟨m1,m2⟩:=rN (by grind) a1 a2 g1 g2
 have e96:(2:Rat)^(99:Int)=2^(96:Int)*8:=by decide+kernel
 have hp:=oa.hi
 obtain⟨z,h1,h2,h3⟩:=D6 dh ra rg (d:=99) (by rw[e96];grind) (by rw[e96];grind) (by lia) (by decide) (by decide)
 obtain⟨n1,n2⟩:=oZ (k:=SINGLE) (a:=a) (b:=g) (A:=2*L) (by grind) (by grind)
 have ee:=G4
 rw[G5]at n1 n2
 refine⟨?_,h3,?_,?_⟩
 ·unfold sTimes
  rw[h1]
  exact h2
 ·grind
 ·grind
theorem AH{a b:Num}{x y:F}{L X Y:Rat}(ra:Rep SINGLE a x)(rb:Rep SINGLE b y)(oa:Ok SINGLE a 99)(ob:Ok SINGLE b 99)(hL:1≤L)(hL2:L≤2^(96:Int))(hX1:rv a≤2*L)(hX2: -(2*L)≤rv a)(hY1:rv b≤2*L)(hY2: -(2*L)≤rv b):
  Rep SINGLE (bL SINGLE a b) (sPlus x y)∧Ok SINGLE (bL SINGLE a b) 99∧jG (rv (bL SINGLE a b)) (rv a+rv b) (4*L*(1 / 16777216)+1 / 10^30):=by
 have e96:(2:Rat)^(99:Int)=2^(96:Int)*8:=by decide+kernel
 have hp:=oa.hi
 obtain⟨z,h1,h2,h3⟩:=As dh ra rb oa ob (by decide) (d:=99) (by rw[e96];grind) (by rw[e96];grind) (by lia) (by decide) (by decide)
 obtain⟨n1,n2⟩:=yK (k:=SINGLE) (a:=a) (b:=b) (A:=4*L) (by grind) (by grind) (by grind)
 have ee:=G4
 rw[G5]at n1 n2
 refine⟨?_,h3,?_,?_⟩
 ·unfold sPlus
  rw[h1]
  exact h2
 ·grind
 ·grind
def pre(a b g h:Num):Num:=fD SINGLE (bC SINGLE a g) (bC SINGLE b h)
def Of(a b g h:Num):Num:=bL SINGLE (bC SINGLE b g) (bC SINGLE a h)
theorem Ji{a b g h:Num}{x y u v:F}{L:Rat}(p:Dl a b x y L)(t:tP g h u v)(hL:1≤L)(hL2:L≤2^(96:Int)):
  Dl (pre a b g h) (Of a b g h) (sLess (sTimes x u) (sTimes y v)) (sPlus (sTimes y u) (sTimes x v)) (L*(257 / 256)+1):=by
 obtain⟨⟨g1,g2⟩,⟨k1,k2⟩⟩:=t.le
 have qa:=fW (rv a)
 have qb:=fW (rv b)
 have hl:=p.len
 obtain⟨a1,a2⟩:=jg (a:=rv a) (L:=L) (by grind) (by grind)
 obtain⟨b1,b2⟩:=jg (a:=rv b) (L:=L) (by grind) (by grind)
 obtain⟨r1,o1,n1⟩:=i6 p.ra t.rg p.oa t.pg hL hL2 a1 a2 g1 g2
 obtain⟨r2,o2,n2⟩:=i6 p.rb t.rh p.ob t.ph hL hL2 b1 b2 k1 k2
 obtain⟨r3,o3,n3⟩:=i6 p.rb t.rg p.ob t.pg hL hL2 b1 b2 g1 g2
 obtain⟨r4,o4,n4⟩:=i6 p.ra t.rh p.oa t.ph hL hL2 a1 a2 k1 k2
 obtain⟨c1,c2⟩:=rN (by grind) a1 a2 g1 g2
 obtain⟨c3,c4⟩:=rN (by grind) b1 b2 k1 k2
 obtain⟨c5,c6⟩:=rN (by grind) b1 b2 g1 g2
 obtain⟨c7,c8⟩:=rN (by grind) a1 a2 k1 k2
 have n1':=n1
 have n2':=n2
 have n3':=n3
 have n4':=n4
 unfold jG at n1' n2' n3' n4'
 have eo:rv (fB (bC SINGLE b h))=-rv (bC SINGLE b h):=rE _
 obtain⟨r5,o5,n5⟩:=AH (L:=L) (X:=0) (Y:=0) r1 (gM r2) o1 (iI o2) hL hL2 (by grind) (by grind) (by rw[eo];grind) (by rw[eo];grind)
 obtain⟨r6,o6,n6⟩:=AH (L:=L) (X:=0) (Y:=0) r3 r4 o3 o4 hL hL2 (by grind) (by grind) (by grind) (by grind)
 rw[eo]at n5
 have n5':jG (rv (bL SINGLE (bC SINGLE a g) (fB (bC SINGLE b h)))) (rv (bC SINGLE a g) - rv (bC SINGLE b h)) (4*L*(1 / 16777216)+1 / 10^30):=by
  unfold jG at n5⊢
  grind
 have hh:=Gv hL hl t.sq n1 n2 n5' n3 n4 n6
 exact⟨r5,r6,o5,o6,hh⟩
def Lg:Nat→Rat
 |0=>2^(33:Int)
 |n+1=>Lg n*(257 / 256)+1
theorem Le:∀n,Lg n+256=(2^(33:Int)+256)*(257 / 256)^n
 |0=>by unfold Lg;rw[Rat.pow_zero];grind
 |n+1=>by
  have ih:=Le n
  show Lg n*(257 / 256)+1+256=_
  rw[Rat.pow_succ]
  grind
theorem Dm(n:Nat):1≤Lg n:=by
 induction n with
 |zero=>decide+kernel
 |succ n ih=>show 1≤Lg n*(257 / 256)+1;grind
theorem KD(n:Nat):Lg n≤Lg (n+1):=by
 have:=Dm n
 show Lg n≤Lg n*(257 / 256)+1
 grind
theorem Na{m n:Nat}(h:m≤n):Lg m≤Lg n:=by
 induction h with
 |refl=>exact Rat.le_refl
 |step _ ih=>exact Rat.le_trans ih (KD _)
theorem Bf(q:Rat)(m:Nat):∀n,q^(m+n)=q^m*q^n
 |0=>by rw[Nat.add_zero,Rat.pow_zero];grind
 |n+1=>by rw[←Nat.add_assoc,Rat.pow_succ,Bf q m n,Rat.pow_succ];grind
theorem block:((257 / 256:Rat))^177≤2:=by decide+kernel
theorem blocks:∀n,((257 / 256:Rat))^(177*n)≤2^n
 |0=>by rw[Nat.mul_zero,Rat.pow_zero,Rat.pow_zero];exact Rat.le_refl
 |n+1=>by
  rw[Nat.mul_succ,Bf,Rat.pow_succ 2 n]
  have h1:=blocks n
  have h2:=block
  have p1:(0:Rat)<(257 / 256:Rat)^(177*n):=Rat.pow_pos (by decide+kernel)
  have p2:(0:Rat)<2^n:=Rat.pow_pos (by decide+kernel)
  generalize (257 / 256:Rat)^(177*n)=A at*
  generalize (257 / 256:Rat)^177=B at*
  generalize (2:Rat)^n=C at*
  have z1:0≤A*(2 - B):=Rat.mul_nonneg (Rat.le_of_lt p1) (by grind)
  grind
theorem KC{n N:Nat}(h:n≤N)(hN:(257 / 256:Rat)^N≤2^57):Lg n≤2^(96:Int):=by
 refine Rat.le_trans (Na h) ?_
 have h1:=Le N
 have h3:(2^(33:Int)+256)*(2:Rat)^57≤2^(96:Int):=by decide+kernel
 generalize (257 / 256:Rat)^N=A at*
 generalize (2:Rat)^57=B at*
 generalize Lg N=L at*
 have z1:(0:Rat)≤(2^(33:Int)+256)*(B - A):=Rat.mul_nonneg (by decide+kernel) (by grind)
 generalize (2:Rat)^(33:Int)=C at*
 generalize (2:Rat)^(96:Int)=D at*
 grind
theorem Jb{n:Nat}(h:n≤10000):Lg n≤2^(96:Int):=KC (N:=177*57) (by lia) (blocks 57)
end TM
end
noncomputable section
namespace TM
open Rb50
structure eB where
 f:Num
 a:Num
 b:Num
 g:Num
 h:Num
 deriving Inhabited
def lJ(w:Wave)(m:Int):eB:=⟨gX SINGLE w.factor,dR SINGLE (eG (bC EXT (dW w.high) (cI (at_ w m)))),dR SINGLE (eG (bC EXT (dW w.high) (gq (at_ w m)))),dR SINGLE (cI w.speed),dR SINGLE (gq w.speed)⟩
def gI(x:eB):eB:=⟨x.f,pre x.a x.b x.g x.h,Of x.a x.b x.g x.h,x.g,x.h⟩
structure tR(p:eB)(x:Hand)(L:Rat):Prop where
 rf:Rep SINGLE p.f x.factor
 of:Ok SINGLE p.f 4
 pair:Dl p.a p.b x.re x.im L
 turn:tP p.g p.h x.cos x.sin
theorem EI{a b:Rat}(h:a*a+b*b≤1+1 / 400):(a≤2∧ -2≤a)∧(b≤2∧ -2≤b):=by
 have q1:=fW a
 have q2:=fW b
 exact⟨jg (by decide+kernel) (by grind),jg (by decide+kernel) (by grind)⟩
theorem BO{z:Int}{n:Num}{x:F}(hz:z.natAbs≤2^31)(rn:Rep EXT n x)(h1:rv n≤2)(h2: -2≤rv n)(hp:n.p≤0):Rep EXT (bC EXT (dW z) n) (times (ofInt z) x)∧Ok EXT (bC EXT (dW z) n) 32:=by
 obtain⟨i1,i2⟩:=fM (z:=z) (c:=31) hz (by decide) (by decide)
 obtain⟨v1,v2⟩:=i2.vY
 have e:(2:Rat)^(32:Int)=2*2^(31:Int):=by decide+kernel
 have p31:(0:Rat)<2^(31:Int):=gr _
 have b1:rv (dW z)*rv n≤2^(32:Int)∧ -(2^(32:Int))≤rv (dW z)*rv n:=by
  rw[e]
  generalize (2:Rat)^(31:Int)=B at*
  have z1:0≤(B - rv (dW z))*(2 - rv n):=Rat.mul_nonneg (by grind) (by grind)
  have z2:0≤(B+rv (dW z))*(2+rv n):=Rat.mul_nonneg (by grind) (by grind)
  have z3:0≤(B - rv (dW z))*(2+rv n):=Rat.mul_nonneg (by grind) (by grind)
  have z4:0≤(B+rv (dW z))*(2 - rv n):=Rat.mul_nonneg (by grind) (by grind)
  constructor<;>grind
 obtain⟨y,e1,e2,e3⟩:=D6 gG i1 rn (d:=32) b1.1 b1.2 (by show(0:Int)+n.p≤32;lia) (by decide) (by decide)
 refine⟨?_,e3⟩
 unfold times
 rw[e1]
 exact e2
theorem Km{w:Wave}(h:j4 w)(hs:w.speed<2^64)(m:Int):tR (lJ w m) (hand w m) (Lg 0):=by
 have ha:=r8 w m
 obtain⟨⟨b1,b2⟩,⟨b3,b4⟩⟩:=EI (Ds ha)
 obtain⟨c1,_⟩:=jJ ha
 obtain⟨s1,_⟩:=qN ha
 obtain⟨t1,t2⟩:=BO h.high c1 b1 b2 (tK _)
 obtain⟨u1,u2⟩:=BO h.high s1 b3 b4 (DB _)
 obtain⟨m1,m2⟩:=fU t1 t2 (by decide) (by decide)
 obtain⟨n1,n2⟩:=fU u1 u2 (by decide) (by decide)
 obtain⟨o1,o2⟩:=jY dh m1 m2 (by decide) (by decide)
 obtain⟨q1,q2⟩:=jY dh n1 n2 (by decide) (by decide)
 have hf:=pK (n:=4) (Nat.le_trans h.le (by decide))
 have hp:=qF _ h.fin hf (by decide)
 obtain⟨f1,f2⟩:=wM (k:=SINGLE) h.lt h.fin hp hf
 obtain⟨x1,x2⟩:=o2.vY
 obtain⟨y1,y2⟩:=q2.vY
 have hsp:w.speed%2^64=w.speed:=Nat.mod_eq_of_lt hs
 have ht:=Jj hs
 refine⟨f1,f2,⟨o1,q1,o2.mono (by decide),q2.mono (by decide),?_⟩,?_⟩
 ·show rv (dR SINGLE _)*rv (dR SINGLE _)+rv (dR SINGLE _)*rv (dR SINGLE _)≤2^(33:Int)*2^(33:Int)
  have e:(2:Rat)^(33:Int)=2*2^(32:Int):=by decide+kernel
  rw[e]
  have p32:(0:Rat)<2^(32:Int):=gr _
  revert x1 x2 y1 y2
  generalize rv (dR SINGLE (eG (bC EXT (dW w.high) (cI (at_ w m)))))=X
  generalize rv (dR SINGLE (eG (bC EXT (dW w.high) (gq (at_ w m)))))=Y
  generalize (2:Rat)^(32:Int)=B at*
  intro x1 x2 y1 y2
  have z1:0≤(B - X)*(B+X):=Rat.mul_nonneg (by grind) (by grind)
  have z2:0≤(B - Y)*(B+Y):=Rat.mul_nonneg (by grind) (by grind)
  have z3:=fW B
  grind
 ·show tP _ _ (other EXT SINGLE (cosSin (w.speed%2^64)).1) (other EXT SINGLE (cosSin (w.speed%2^64)).2)
  rw[hsp]
  exact ht
theorem EJ{p:eB}{x:Hand}{n:Nat}(h:tR p x (Lg n))(hn:n≤10000):tR (gI p) (turned x) (Lg (n+1)):=
 ⟨h.rf,h.of,Ji h.pair h.turn (Dm n) (Jb hn),h.turn⟩
inductive dZ(L:Rat):List eB→List Hand→Prop
 |nil:dZ L [] []
 |cons {p x ps xs}:tR p x L→dZ L ps xs→dZ L (p::ps) (x::xs)
theorem dZ.length{L ps xs}(h:dZ L ps xs):ps.length=xs.length:=by
 induction h with
 |nil=>rfl
 |cons _ _ ih=>simp[ih]
theorem dZ.turned{n:Nat}{ps xs}(h:dZ (Lg n) ps xs)(hn:n≤10000):dZ (Lg (n+1)) (ps.map gI) (xs.map turned):=by
 induction h with
 |nil=>exact .nil
 |cons r _ ih=>exact .cons (EJ r hn) ih
theorem xm(m:Int):∀{l:List Wave},(∀w,w∈l→j4 w∧w.speed<2^64)→dZ (Lg 0) (l.map fun w=>lJ w m) (l.map fun w=>hand w m)
 |[],_=>.nil
 |w::l,h=>.cons (Km (h w List.mem_cons_self).1 (h w List.mem_cons_self).2 m) (xm m fun x hx=>h x (List.mem_cons_of_mem _ hx))
structure Ja(p:eB)(x:Hand):Prop where
 rf:Rep SINGLE p.f x.factor
 of:Ok SINGLE p.f 4
 ra:Rep SINGLE p.a x.re
 oa:Ok SINGLE p.a 99
def z0:Num:=⟨false,0,0⟩
def Nk:eB:=⟨z0,z0,z0,z0,z0⟩
theorem CC:Rep SINGLE z0 0:=kK dh false 0
theorem HH{c:Int}(h:0≤c):Ok SINGLE z0 c:=⟨by decide,by decide,h,gT.zero _ _⟩
theorem LO:Ja Nk ⟨0,0,0,0,0⟩:=⟨CC,HH (by decide),CC,HH (by decide)⟩
theorem wC{L:Rat}:∀{ps xs},dZ L ps xs→∀i,Ja (ps.getD i Nk) (xs.getD i ⟨0,0,0,0,0⟩)
 |_,_,.nil,i=>by simp;exact LO
 |_,_,.cons r _,0=>⟨r.rf,r.of,r.pair.ra,r.pair.oa⟩
 |_,_,.cons _ t,i+1=>wC t i
def nL(l:List eB)(j:Nat):Num:=bC SINGLE (l.getD j Nk).f (l.getD j Nk).a
def yF(l:List eB)(i:Nat):Num:=bL SINGLE (bL SINGLE (nL l (4*i)) (nL l (4*i+1))) (bL SINGLE (nL l (4*i+2)) (nL l (4*i+3)))
def mR(mean:Num)(l:List eB):Num:=(List.range ((l.length+3) / 4)).foldl (fun a i=>bL SINGLE a (yF l i)) mean
theorem ku{L:Rat}{ps xs}(h:dZ L ps xs)(j:Nat):Rep SINGLE (nL ps j) (sTimes (xs.getD j ⟨0,0,0,0,0⟩).factor (xs.getD j ⟨0,0,0,0,0⟩).re)∧Ok SINGLE (nL ps j) 103:=by
 have p:=wC h j
 exact sS p.rf p.ra p.of p.oa (by decide) (by decide)
theorem En{L:Rat}{ps xs}(h:dZ L ps xs)(i:Nat):Rep SINGLE (yF ps i) (fourOf ((List.range 4).map fun(j:Nat)=>xs.getD (4*i+j) ⟨0,0,0,0,0⟩))∧Ok SINGLE (yF ps i) 105:=by
 obtain⟨a1,a2⟩:=ku h (4*i)
 obtain⟨b1,b2⟩:=ku h (4*i+1)
 obtain⟨c1,c2⟩:=ku h (4*i+2)
 obtain⟨d1,d2⟩:=ku h (4*i+3)
 obtain⟨e1,e2⟩:=jb a1 b1 a2 b2 (by decide)
 obtain⟨f1,f2⟩:=jb c1 d1 c2 d2 (by decide)
 exact jb e1 f1 e2 f2 (by decide)
theorem sV{L:Rat}{ps xs}(h:dZ L ps xs):∀(is:List Nat) {a:Num} {x:F} {c:Int},Rep SINGLE a x→Ok SINGLE a c→105≤c→c+is.length<128→
  Rep SINGLE (is.foldl (fun a i=>bL SINGLE a (yF ps i)) a) (is.foldl (fun(a:F) (i:Nat)=>sPlus a (fourOf ((List.range 4).map fun(j:Nat)=>xs.getD (4*i+j) ⟨0,0,0,0,0⟩))) x)∧Ok SINGLE (is.foldl (fun a i=>bL SINGLE a (yF ps i)) a) (c+is.length)
 |[],a,x,c,ra,oa,_,_=>⟨ra,by simpa using oa⟩
 |i::is,a,x,c,ra,oa,h0,hl=>by
  simp only[List.length_cons]at hl
  obtain⟨f1,f2⟩:=En h i
  obtain⟨p1,p2⟩:=jb ra f1 oa (f2.mono h0) (by lia)
  have:=sV h is p1 p2 (by lia) (by lia)
  refine⟨this.1,this.2.mono ?_⟩
  simp only[List.length_cons]
  lia
theorem JB{L:Rat}{ps xs}(h:dZ L ps xs)(hl:xs.length≤64){a:Num}{x:F}(ra:Rep SINGLE a x)(oa:Ok SINGLE a 105):Rep SINGLE (mR a ps) (rowHeight x xs)∧Ok SINGLE (mR a ps) 121:=by
 unfold rowHeight fours mR
 rw[List.foldl_map,h.length]
 have:=sV h (List.range ((xs.length+3) / 4)) ra oa (by decide) (by rw[List.length_range];lia)
 refine⟨this.1,this.2.mono ?_⟩
 rw[List.length_range]
 lia
def wj(mean:Num):Nat→List eB→List Num
 |0,_=>[]
 |n+1,l=>mR mean l::wj mean n (l.map gI)
inductive lY:List Num→List F→Prop
 |nil:lY [] []
 |cons {n x ns xs}:Rep SINGLE n x→Ok SINGLE n 121→lY ns xs→lY (n::ns) (x::xs)
theorem Bg{a:Num}{x:F}(ra:Rep SINGLE a x)(oa:Ok SINGLE a 105):∀(n k:Nat) {ps xs},dZ (Lg k) ps xs→xs.length≤64→k+n≤10001→lY (wj a n ps) (rowOf x n xs)
 |0,k,ps,xs,h,hl,hk=>.nil
 |n+1,k,ps,xs,h,hl,hk=>by
  obtain⟨r,o⟩:=JB h hl ra oa
  exact .cons r o (Bg ra oa n (k+1) (h.turned (by lia)) (by rw[List.length_map];exact hl) (by lia))
def pY(z:Int):Num:=dR SINGLE (eG (dW z))
theorem D9{z:Int}(h:z.natAbs≤1000000000):Rep SINGLE (pY z) (other EXT SINGLE (metres (ofInt z)))∧Ok SINGLE (pY z) 105:=by
 obtain⟨i1,i2⟩:=fM (z:=z) (c:=31) (Nat.le_trans h (by decide)) (by decide) (by decide)
 obtain⟨m1,m2⟩:=fU i1 i2 (by decide) (by decide)
 obtain⟨o1,o2⟩:=jY dh m1 m2 (by decide) (by decide)
 exact⟨o1,o2.mono (by decide)⟩
def Bo(h:Harbour)(m:Int)(n:Nat):List Num:=wj (pY h.mean) n (h.waves.map fun w=>lJ w m)
theorem Hi{h:Harbour}(o:ze h)(hs:∀w,w∈h.waves→w.speed<2^64)(m:Int){n:Nat}(hn:n≤10000):lY (Bo h m n) (row h m n):=by
 obtain⟨r1,r2⟩:=D9 o.mean
 have hl:=o.len
 exact Bg r1 r2 n 0 (xm m fun w hw=>⟨o.waves w hw,hs w hw⟩) (by rw[List.length_map];exact hl) (by lia)
end TM
end
noncomputable section
namespace TM
open Rb50
def j7(R M:Nat):Prop:=R*R≤M∧M<(R+1)*(R+1)
theorem nF:∀(n lo hi m:Nat),lo*lo≤m→m<hi*hi→hi≤lo+2^n→j7 (rootFrom n lo hi m) m
 |0,lo,hi,m,h1,h2,h3=>by
  have h4:hi≤lo+1:=by simpa using h3
  show j7 lo m
  exact⟨h1,Nat.lt_of_lt_of_le h2 (Nat.mul_le_mul h4 h4)⟩
 |n+1,lo,hi,m,h1,h2,h3=>by
  unfold rootFrom
  by_cases c:hi≤lo+1
  ·rw[if_pos c]
   exact⟨h1,Nat.lt_of_lt_of_le h2 (Nat.mul_le_mul c c)⟩
  ·rw[if_neg c]
   rw[Nat.pow_succ]at h3
   show j7 (if(lo+hi) / 2*((lo+hi) / 2)≤m then _ else _) m
   by_cases d:(lo+hi) / 2*((lo+hi) / 2)≤m
   ·rw[if_pos d]
    exact nF n _ hi m d h2 (by lia)
   ·rw[if_neg d]
    exact nF n lo _ m h1 (by lia) (by lia)
theorem rV(m:Nat):j7 (floorRoot m) m:=by
 unfold floorRoot
 refine nF _ 0 (m+1) m (Nat.zero_le _) ?_ ?_
 ·have:=Nat.mul_le_mul (show m+1≤m+1 from Nat.le_refl _) (show 1≤m+1 by lia)
  lia
 ·have h1:m<2^(Nat.log2 m+1):=Nat.lt_log2_self
  have h2:2^(Nat.log2 m+1)≤2^(2*Nat.log2 m+4):=Nat.pow_le_pow_right (by decide) (by lia)
  lia
theorem Bh{R S M i:Nat}(h:j7 R M)(h':j7 S (M*2^(2*i))):S / 2^i=R∧((decide (S%2^i≠0)||decide (S*S≠M*2^(2*i)))=decide (R*R≠M)):=by
 have e4:2^(2*i)=2^i*2^i:=by rw[←Nat.pow_add];congr 1;lia
 rw[e4]at h'⊢
 have hB:=two_pos i
 generalize 2^i=B at*
 obtain⟨a,b⟩:=h
 obtain⟨c,d⟩:=h'
 have r1:∀x y:Nat,x*B*(y*B)=x*y*(B*B):=fun x y=>by simp only[Nat.mul_assoc,Nat.mul_left_comm]
 have hlo:R*B≤S:=by
  have h1:R*B*(R*B)≤M*(B*B):=by rw[r1];exact Nat.mul_le_mul_right _ a
  rcases Nat.lt_or_ge S (R*B)with z|z
  ·have:=Nat.mul_le_mul (show S+1≤R*B from z) (show S+1≤R*B from z)
   lia
  ·exact z
 have hhi:S<(R+1)*B:=by
  have h1:(M+1)*(B*B)≤(R+1)*B*((R+1)*B):=by rw[r1];exact Nat.mul_le_mul_right _ b
  rcases Nat.lt_or_ge S ((R+1)*B)with z|z
  ·exact z
  ·have h2:=Nat.mul_le_mul z z
   have h3:M*(B*B)<(M+1)*(B*B):=by rw[Nat.add_mul];have:=Nat.mul_pos hB hB;lia
   lia
 have hdiv:S / B=R:=by
  refine Nat.le_antisymm ?_ ((Nat.le_div_iff_mul_le hB).mpr hlo)
  have:=(Nat.div_lt_iff_lt_mul hB).mpr hhi
  lia
 refine⟨hdiv,?_⟩
 have key:(S%B=0∧S*S=M*(B*B))↔R*R=M:=by
  have e:=Nat.div_add_mod S B
  rw[hdiv]at e
  constructor
  ·rintro⟨z1,z2⟩
   rw[z1,Nat.add_zero]at e
   have e2:S=R*B:=by rw[←e,Nat.mul_comm]
   rw[e2,r1]at z2
   exact Nat.eq_of_mul_eq_mul_right (Nat.mul_pos hB hB) z2
  ·intro z
   have e2:S=R*B:=by
    rw[←z]at d c
    rw[←r1]at d c
    rcases Nat.lt_or_ge (R*B) S with y|y
    ·have:=Nat.mul_le_mul (show R*B+1≤S from y) (show R*B+1≤S from y)
     have h2:R*B*(R*B)<(R*B+1)*(R*B+1):=by
      rw[Nat.add_mul,Nat.mul_add]
      lia
     lia
    ·lia
   refine⟨by rw[e2];exact Nat.mul_mod_left _ _,by rw[e2,r1,z]⟩
 by_cases hz:R*R=M
 ·obtain⟨p,q⟩:=key.mpr hz
  simp[p,q,hz]
 ·by_cases p:S%B=0
  ·by_cases q:S*S=M*(B*B)
   ·exact absurd (key.mp ⟨p,q⟩) hz
   ·simp[q,hz]
  ·simp[p,hz]
theorem Bj{R M n:Nat}(h:j7 R M)(hM:2^(2*n)≤M):n≤Nat.log2 R:=by
 have hR:2^n≤R:=by
  rcases Nat.lt_or_ge R (2^n)with z|z
  ·have h1:=Nat.mul_le_mul (show R+1≤2^n from z) (show R+1≤2^n from z)
   rw[←Nat.pow_add]at h1
   have e:n+n=2*n:=by lia
   rw[e]at h1
   have:=h.2
   lia
  ·exact z
 have h0:R≠0:=by have:=two_pos n;lia
 exact(Nat.le_log2 h0).mpr hR
theorem zF{k:Kind}{neg:Bool}{R S A B:Nat}{p q:Int}(hR:j7 R A)(hS:j7 S B)(h:Eqv A (2*p) B (2*q))(l1:k.frac+1≤Nat.log2 R)(l2:k.frac+1≤Nat.log2 S):
  rounded k neg R p (decide (R*R≠A))=rounded k neg S q (decide (S*S≠B)):=by
 rcases h.cases with⟨j,e1,e2⟩|⟨j,e1,e2⟩
 ·-- A is the finer
  have ej:j=2*(q - p).toNat:=by lia
  rw[ej]at e2
  rw[e2]at hR
  obtain⟨d1,d2⟩:=Bh hS hR
  rw[e2,←d2]
  have:=kr (k:=k) (neg:=neg) (M:=R) (i:=(q - p).toNat) (E:=p) (more:=decide (R*R≠B*2^(2*(q - p).toNat))) (by rw[d1];exact l2)
  rw[←this,d1]
  congr 1
  lia
 ·have ej:j=2*(p - q).toNat:=by lia
  rw[ej]at e2
  rw[e2]at hS
  obtain⟨d1,d2⟩:=Bh hR hS
  rw[e2,←d2]
  have:=kr (k:=k) (neg:=neg) (M:=S) (i:=(p - q).toNat) (E:=q) (more:=decide (S*S≠A*2^(2*(p - q).toNat))) (by rw[d1];exact l1)
  rw[←this,d1]
  congr 1
  lia
theorem JC{k:Kind}(g:Good k)(hk:k.frac≤70){a:Num}{x:F}{c d:Int}{J R:Nat}(ha:Rep k a x)(oa:Ok k a c)(hs:a.s=false)(hw:a.w≠0)(hJ:(a.p - J)%2=0)(hR:j7 R (a.w*2^J))(hl:k.frac+1≤Nat.log2 R)
  (hc:c≤2*d)(hld:k.least≤d)(hm:d<top k):
  ∃z,root k x=some z∧Rep k (bX k false (R*2+(if R*R=a.w*2^J then 0 else 1)) ((a.p - J) / 2 - 1)) z∧Ok k (bX k false (R*2+(if R*R=a.w*2^J then 0 else 1)) ((a.p - J) / 2 - 1)) d:=by
 have hhi:=oa.hi
 have hlo:=oa.lo
 have hm0:(whole k x).1≠0:=fun z=>hw (ha.eqv.zero.mpr z)
 have hneg:negative k x=false:=by rw[ha.sg,hs]
 have e2p:2*((a.p - J) / 2)=a.p - J:=by lia
 have hlt:R*2+(if R*R=a.w*2^J then 0 else 1)≤2^(d - ((a.p - J) / 2 - 1)).toNat:=by
  have h1:=oa.le.at (G:=min a.p c - (J:Int)) (by lia) (by lia)
  have h2:a.w*2^J≤2^(2*(d - (a.p - J) / 2).toNat):=by
   have h3:a.w*2^J=sc a.w a.p (a.p - J):=by unfold sc;congr 2;lia
   rw[h3]
   have h4:=oa.le.at (G:=a.p - (J:Int)) (by lia) (by lia)
   rw[ng]at h4
   refine Nat.le_trans h4 (Nat.pow_le_pow_right (by decide) ?_)
   lia
  have e5:(d - ((a.p - J) / 2 - 1)).toNat=(d - (a.p - J) / 2).toNat+1:=by lia
  rw[e5,Nat.pow_succ]
  generalize (d - (a.p - J) / 2).toNat=T at*
  have e6:2^(2*T)=2^T*2^T:=by rw[←Nat.pow_add];congr 1;lia
  rw[e6]at h2
  have h7:R≤2^T:=by
   rcases Nat.lt_or_ge (2^T) R with z|z
   ·have:=Nat.mul_le_mul (show 2^T+1≤R from z) (show 2^T+1≤R from z)
    have h8:2^T*2^T<(2^T+1)*(2^T+1):=by rw[Nat.add_mul,Nat.mul_add];lia
    have:=hR.1
    lia
   ·exact z
  by_cases z:R*R=a.w*2^J
  ·rw[if_pos z];lia
  ·rw[if_neg z]
   rcases Nat.lt_or_ge R (2^T)with y|y
   ·lia
   ·have:R=2^T:=by lia
    rw[this]at z
    have:=hR.1
    rw[‹R=2^T›]at this
    lia
 obtain⟨z,z1,z2,z3⟩:=gD g (s:=false) (w:=R*2+(if R*R=a.w*2^J then 0 else 1)) (p:=(a.p - J) / 2 - 1) (c:=d) (by lia) (gT.of_le (by lia) hlt) hld hm
 refine⟨z,?_,z2,z3⟩
 have em:(if R*R=a.w*2^J then 0 else 1)=(if decide (R*R≠a.w*2^J)=true then 1 else 0):=by
  by_cases q:R*R=a.w*2^J<;>simp[q]
 rw[em,←qY hl]at z1
 show(if(whole k x).1=0 then some x else if negative k x=true then none else rounded k false (floorRoot ((whole k x).1*2^(if(whole k x).2%2=0 then 160 else 161))) (((whole k x).2 - ((if(whole k x).2%2=0 then 160 else 161:Nat):Int)) / 2)
  (floorRoot ((whole k x).1*2^(if(whole k x).2%2=0 then 160 else 161))*floorRoot ((whole k x).1*2^(if(whole k x).2%2=0 then 160 else 161)) != (whole k x).1*2^(if(whole k x).2%2=0 then 160 else 161)))=some z
 rw[if_neg hm0,hneg,if_neg (by decide),←z1]
 have qa:=ha.eqv
 have hwl:=gU k x
 revert hm0 qa hwl
 generalize (whole k x).1=m
 generalize (whole k x).2=e
 intro hm0 qa hwl
 have hj:∃j:Nat,(if e%2=0 then 160 else 161)=j∧(e - (j:Int))%2=0∧160≤j:=by
  by_cases q:e%2=0
  ·exact⟨160,by rw[if_pos q],by lia,by decide⟩
  ·exact⟨161,by rw[if_neg q],by lia,by decide⟩
 obtain⟨j,ej,hj2,hj3⟩:=hj
 rw[ej]
 have hS:=rV (m*2^j)
 generalize floorRoot (m*2^j)=S at*
 have en:(S*S != m*2^j)=decide (S*S≠m*2^j):=by
  by_cases q:S*S=m*2^j<;>simp[q]
 rw[en]
 refine zF hS hR ?_ ?_ hl
 ·have e1:2*((e - (j:Int)) / 2)=e - j:=by lia
  rw[e1,e2p]
  exact((Eqv.shift m e j).trans qa.symm).trans (Eqv.shift a.w a.p J).symm
 ·refine Bj hS ?_
  have h1:1*2^j≤m*2^j:=Nat.mul_le_mul_right _ (Nat.pos_of_ne_zero hm0)
  rw[Nat.one_mul]at h1
  exact Nat.le_trans (Nat.pow_le_pow_right (by decide) (by lia)) h1
end TM
end
noncomputable section
namespace TM
open Rb50
theorem AB{k:Kind}{a:Num}{x:F}(ha:Rep k a x)(hp:k.least≤a.p):((worth k x:Int):Rat)=rv a*2^(-k.least):=by
 rw[x6 ha hp,Rat.intCast_mul,qO,Rat.intCast_natCast,jZ hp]
 unfold rv
 grind
theorem BY{k:Kind}{a b:Num}{x y:F}(ha:Rep k a x)(hb:Rep k b y)(la:k.least≤a.p)(lb:k.least≤b.p):below k x y=decide (rv a<rv b):=by
 unfold below
 have h1:=AB ha la
 have h2:=AB hb lb
 have hS:(0:Rat)<2^(-k.least):=gr _
 have key:worth k x<worth k y↔rv a<rv b:=by
  rw[←Rat.intCast_lt_intCast,h1,h2]
  constructor
  ·intro h
   by_cases c:rv a<rv b
   ·exact c
   ·have z:rv b≤rv a:=Rat.not_lt.mp c
    have:=Rat.mul_le_mul_of_nonneg_right z (Rat.le_of_lt hS)
    grind
  ·intro h
   exact(Rat.mul_lt_mul_right hS).mpr h
 by_cases c:rv a<rv b
 ·rw[decide_eq_true c,decide_eq_true (key.mpr c)]
 ·rw[decide_eq_false c,decide_eq_false (fun z=>c (key.mp z))]
def kQ(a:Num):Num:=⟨false,a.w,a.p⟩
theorem size_rep{k:Kind}{a:Num}{x:Nat}(ha:Rep k a x):Rep k (kQ a) (size k x):=by
 have hs:=vA k
 have hlt:x%k.sign<k.sign:=Nat.mod_lt _ hs
 refine⟨?_,?_,?_,?_⟩
 ·show negative k (x%k.sign)=false
  unfold negative
  exact decide_eq_false (by lia)
 ·show Eqv a.w a.p (whole k (x%k.sign)).1 (whole k (x%k.sign)).2
  rw[oK]
  exact ha.eqv
 ·show x%k.sign<2*k.sign
  lia
 ·show finite k (x%k.sign)=true
  unfold finite
  rw[lU]
  exact ha.fin
theorem mw{k:Kind}{a:Num}{c:Int}(o:Ok k a c):Ok k (kQ a) c:=⟨o.w,o.lo,o.hi,o.le⟩
theorem JR(a:Num):rv (kQ a)=mv a.w a.p:=by unfold rv kQ sg;simp
theorem Hj{k:Kind}{s:Bool}{w m:Nat}{p e:Int}(hm:m<2^(k.frac+1))(he:k.least≤e)(h:mv w p≤mv m e):mv (bX k s w p).w (bX k s w p).p≤mv m e:=by
 by_cases hw:w=0
 ·subst hw
  rw[fF]
  have:mv 0 (max p k.least)=0:=by unfold mv;show(0:Rat)*_=0;grind
  show mv 0 (max p k.least)≤_
  rw[this]
  exact lO _ _
 ·-- at one scale
  have hG:∀{w m:Nat} {p e G:Int},G≤p→G≤e→(mv w p≤mv m e↔sc w p G≤sc m e G):=by
   intro w m p e G h1 h2
   have hS:(0:Rat)<2^(-G):=gr _
   rw[←Rat.natCast_le_natCast,jZ h1,jZ h2]
   exact⟨fun h=>Rat.mul_le_mul_of_nonneg_right h (Rat.le_of_lt hS),fun h=>eL h hS⟩
  have hle:=(hG (G:=min p e) (by lia) (by lia)).mp h
  have hE:=jX (k:=k) (s:=s) (p:=p) hw
  have heq:mv (bX k s w p).w (bX k s w p).p=mv (n_ k w p false) (q_ k w p):=by
   have a1:=hE.at (G:=min (bX k s w p).p (q_ k w p)) (by lia) (by lia)
   have hS:(0:Rat)<2^(-(min (bX k s w p).p (q_ k w p))):=gr _
   have a2:=congrArg (fun n:Nat=>(n:Rat)) a1
   rw[jZ (by lia),jZ (by lia)]at a2
   exact Rat.le_antisymm (eL (by rw[a2];exact Rat.le_refl) hS) (eL (by rw[a2];exact Rat.le_refl) hS)
  rw[heq]
  have hL:=Nat.log2_self_le hw
  have hq:q_ k w p≤e∨(k.least<q_ k w p∧e<q_ k w p):=by have:=DT k w p;lia
  rcases hq with hq|hq
  ·rw[hG (G:=q_ k w p) (by lia) hq,ki]
   unfold n_
   by_cases hqp:q_ k w p≤p
   ·rw[if_pos hqp]
    have h2:=(hG (G:=q_ k w p) hqp hq).mp h
    unfold sc at h2
    exact h2
   ·rw[if_neg hqp]
    have h2:=(hG (G:=p) (by lia) (by lia)).mp h
    rw[ki]at h2
    have h3:sc m e p=sc m e (q_ k w p)*2^(q_ k w p - p).toNat:=g9 m (by lia) hq
    rw[h3]at h2
    generalize (q_ k w p - p).toNat=D at*
    generalize sc m e (q_ k w p)=N at*
    rcases Nat.lt_or_ge w (N*2^D)with z|z
    ·exact xB (by rw[Nat.mul_comm];exact z) false
    ·have:w=N*2^D:=by lia
     by_cases d0:D=0
     ·subst d0
      have e0:w=N:=by simpa using this
      unfold cut
      rw[e0,Nat.pow_zero,Nat.mod_one]
      simp
     ·have h5:=lV (m:=N) (Nat.le_refl D) (by lia)
      rw[←this,Nat.sub_self,Nat.pow_zero,Nat.mul_one]at h5
      lia
  ·exfalso
   have hq1:q_ k w p=p+(Nat.log2 w:Int) - (k.frac:Int):=by unfold q_ at hq⊢;lia
   have h1:2^(Nat.log2 w)*2^(p - min p e).toNat≤sc w p (min p e):=Nat.mul_le_mul_right _ hL
   have h2:sc m e (min p e)<2^(k.frac+1)*2^(e - min p e).toNat:=Nat.mul_lt_mul_of_pos_right hm (two_pos _)
   rw[←Nat.pow_add]at h1 h2
   have h3:2^(k.frac+1+(e - min p e).toNat)≤2^(Nat.log2 w+(p - min p e).toNat):=Nat.pow_le_pow_right (by decide) (by omega)
   lia
theorem um{k:Kind}{s:Bool}{w m:Nat}{p e:Int}(hm:m<2^(k.frac+1))(he:k.least≤e)(h:mv m e<mv (bX k s w p).w (bX k s w p).p):mv m e≤mv w p:=by
 rcases @Rat.le_total (mv m e) (mv w p)with z|z
 ·exact z
 ·have:=Hj (s:=s) hm he z
  grind
end TM
end
noncomputable section
namespace TM
open Rb50
theorem HW{w:Nat}{p:Int}(h:mv w p=0):w=0:=by
 by_cases hw:w=0
 ·exact hw
 ·exfalso
  unfold mv at h
  rcases Rat.mul_eq_zero.mp h with q|q
  ·have:((w:Nat):Rat)=((0:Nat):Rat):=q
   exact hw (Rat.natCast_inj.mp this)
  ·have:=gr p
   grind
theorem yC{k:Kind}{s:Bool}{w:Nat}{p:Int}(h:0≤sg s*mv w p):0≤rv (bX k s w p):=by
 cases s with
 |false=>
  unfold rv
  rw[gE]
  have:=lO (bX k false w p).w (bX k false w p).p
  show 0≤(1:Rat)*_
  grind
 |true=>
  have h0:=lO w p
  have h1:mv w p=0:=by
   have h2:(0:Rat)≤ -1*mv w p:=h
   grind
  have:=HW h1
  subst this
  rw[fF]
  unfold rv mv
  show(0:Rat)≤ -1*((0:Rat)*_)
  grind
theorem JK{k:Kind}{a b:Num}(ha:0≤rv a)(hb:0≤rv b):0≤rv (bC k a b):=by
 refine yC ?_
 rw[←yw]
 exact Rat.mul_nonneg ha hb
theorem JP{k:Kind}{a b:Num}(ha:0≤rv a)(hb:b.s=false):0≤rv (nR k a b):=by
 refine yC ?_
 rw[hb]
 cases hs:a.s with
 |false=>exact(by show(0:Rat)≤1*_;have:=lO (a.w*2^dc k a b / b.w*2+(if a.w*2^dc k a b%b.w=0 then 0 else 1)) (a.p - b.p - dc k a b - 1);grind)
 |true=>
  have h0:=lO a.w a.p
  have h1:mv a.w a.p=0:=by
   unfold rv at ha
   rw[hs]at ha
   have h2:(0:Rat)≤ -1*mv a.w a.p:=ha
   grind
  have hw:=HW h1
  rw[hw]
  simp only[Nat.zero_mul,Nat.zero_div,Nat.zero_mod,if_true,Nat.add_zero]
  unfold mv
  show(0:Rat)≤ -1*((0:Rat)*_)
  grind
theorem G9{a:Num}(h:0≤rv a):rv a=mv a.w a.p:=by
 have h0:=lO a.w a.p
 unfold rv at h⊢
 rcases vB a.s with e|e<;>rw[e]at h⊢<;>grind
theorem Ae{k:Kind}{s:Bool}{w:Nat}{p:Int}{n:Num}{c:Int}(o:Ok k n c)(h:mv n.w n.p<mv (bX k s w p).w (bX k s w p).p):mv n.w n.p≤mv w p:=by
 rcases Nat.lt_or_ge n.w (2^(k.frac+1))with z|z
 ·exact um z o.lo h
 ·have e1:n.w=2^(k.frac+1):=Nat.le_antisymm o.w z
  have e2:mv n.w n.p=mv (2^k.frac) (n.p+1):=by
   unfold mv
   rw[e1,←jK,←jK,←jL,←jL]
   congr 1
   lia
  rw[e2]at h⊢
  refine um ?_ ?_ h
  ·rw[Nat.pow_succ];have:=two_pos k.frac;lia
  ·have:=o.lo;lia
def fZ(sluice area r:Num):Num:=nR SINGLE (bC SINGLE sluice r) area
def oX(goal level sluice area r:Num):Num:=
 let d:=fD SINGLE goal level
 let s:=fZ sluice area r
 if rv s<rv (kQ d)then bL SINGLE level (if d.s=true then fB s else s)else goal
theorem EM{goal level sluice area r:Num}{xg xl xs xa:F}(rg:Rep SINGLE goal xg)(rl:Rep SINGLE level xl)(rs:Rep SINGLE sluice xs)(ra:Rep SINGLE area xa)(rr:Rep SINGLE r (sRoot (size SINGLE (sLess xg xl))))
  (og:Ok SINGLE goal 110)(ol:Ok SINGLE level 110)(os:Ok SINGLE sluice 20)(or_:Ok SINGLE r 56)(ha0:area.w≠0)(hap: -33≤area.p)(has:area.s=false)(hs0:0≤rv sluice)(hr0:0≤rv r):
  Rep SINGLE (oX goal level sluice area r) (toward xg xl xs xa)∧Ok SINGLE (oX goal level sluice area r) 110:=by
 obtain⟨d1,d2⟩:=jc rg rl og ol (by decide)
 obtain⟨m1,m2⟩:=sS rs rr os or_ (by decide) (by decide)
 obtain⟨s1,s2⟩:=G8 (d:=109) m1 ra m2 ha0 (by lia) (by decide) (by decide)
 have a1:=size_rep d1
 have hnn:0≤rv (fZ sluice area r):=JP (JK hs0 hr0) has
 unfold oX toward
 simp only
 have hb:=BY s1 a1 s2.lo (mw d2).lo
 have hnd:negative SINGLE (sLess xg xl)=(fD SINGLE goal level).s:=d1.sg
 rw[hb,hnd]
 show Rep SINGLE (if rv (fZ sluice area r)<rv (kQ (fD SINGLE goal level))then _ else _) (if decide (rv (fZ sluice area r)<rv (kQ (fD SINGLE goal level)))=true then _ else _)∧_
 by_cases c:rv (fZ sluice area r)<rv (kQ (fD SINGLE goal level))
 ·rw[if_pos c,if_pos (decide_eq_true c)]
  have hsv:=G9 hnn
  have hg:=og.vY
  have hl:=ol.vY
  have eo:rv (fB level)=-rv level:=rE _
  have far:(if(fD SINGLE goal level).s=true then -rv (fZ sluice area r)else rv (fZ sluice area r))+rv level≤2^(110:Int)∧ -(2^(110:Int))≤(if(fD SINGLE goal level).s=true then -rv (fZ sluice area r)else rv (fZ sluice area r))+rv level:=by
   have ht:=DV goal (fB level)
   rw[eo]at ht
   rw[JR,hsv]at c
   unfold fD bL at c⊢
   by_cases hz:dS goal (fB level)=0
   ·rw[if_pos hz]at c
    exfalso
    have:mv 0 (min goal.p (fB level).p)=0:=by unfold mv;show(0:Rat)*_=0;grind
    simp only[this]at c
    rw[←hsv]at c
    grind
   ·rw[if_neg hz]at c⊢
    have hle:=Ae s2 c
    rw[gE]
    change mv (fZ sluice area r).w (fZ sluice area r).p≤_ at hle
    rw[←hsv]at hle
    generalize rv (fZ sluice area r)=S at*
    generalize rv goal=G at*
    generalize rv level=L at*
    generalize (2:Rat)^(110:Int)=B at*
    generalize mv (dS goal (fB level)).natAbs (min goal.p (fB level).p)=D at*
    by_cases hn:dS goal (fB level)<0
    ·rw[decide_eq_true hn]at ht⊢
     have ht2:G+ -L=-1*D:=ht
     simp only[if_true]
     constructor<;>grind
    ·rw[decide_eq_false hn]at ht⊢
     have ht2:G+ -L=1*D:=ht
     simp only[Bool.false_eq_true,if_false]
     constructor<;>grind
  have hlp:=ol.hi
  by_cases hd:(fD SINGLE goal level).s=true
  ·rw[if_pos hd]at far
   rw[if_pos hd,if_pos hd]
   have ep:rv (fB (fZ sluice area r))=-rv (fZ sluice area r):=rE _
   obtain⟨z,e1,e2,e3⟩:=As dh rl (gM s1) ol (iI (s2.mono (by decide))) (by decide) (d:=110) (by show rv level+rv (fB (fZ sluice area r))≤_;rw[ep];grind) (by show _≤rv level+rv (fB (fZ sluice area r));rw[ep];grind) (by omega) (by decide) (by decide)
   refine⟨?_,e3⟩
   unfold sPlus
   rw[e1]
   exact e2
  ·rw[if_neg hd]at far
   rw[if_neg hd,if_neg hd]
   obtain⟨z,e1,e2,e3⟩:=As dh rl s1 ol (s2.mono (by decide)) (by decide) (d:=110) (by show rv level+rv (fZ sluice area r)≤_;grind) (by show _≤rv level+rv (fZ sluice area r);grind) (by omega) (by decide) (by decide)
   refine⟨?_,e3⟩
   unfold sPlus
   rw[e1]
   exact e2
 ·rw[if_neg c,if_neg (by rw[decide_eq_false c];decide)]
  exact⟨rg,og⟩
end TM
end
noncomputable section
namespace TM
structure Read(p:Int)(r:List Int)(c:List (List Int))(t:List Int):Prop where
 ex:(∃(n:Nat) (as:List Int),p≠1∧PyRb50.shape p=some (n,0)∧r=as++t∧as.length=n∧c=[p::as])∨(∃(m:Nat) (as:List Int),p=1∧r=(m:Int)::(as++t)∧as.length=m∧c=[[1],as])
theorem rQ{c:Prop}[Decidable c]{a b:Nat×Nat}{x:Option (Nat×Nat)}(h:(if c then some a else x)=some b):(c∧a=b)∨(¬c∧x=some b):=by
 by_cases hc:c
 ·rw[if_pos hc]at h;exact .inl ⟨hc,Option.some.inj h⟩
 ·rw[if_neg hc]at h;exact .inr ⟨hc,h⟩
theorem Cn{p:Int}{n k:Nat}(h:PyRb50.shape p=some (n,k)):(p=1∧n=0∧k=1)∨(p≠1∧k=0):=by
 unfold PyRb50.shape at h
 rcases rQ h with⟨q,e⟩|⟨_,h⟩
 ·exact .inr ⟨by lia,(Prod.mk.inj e).2.symm⟩
 rcases rQ h with⟨q,e⟩|⟨_,h⟩
 ·exact .inl ⟨q,(Prod.mk.inj e).1.symm,(Prod.mk.inj e).2.symm⟩
 iterate 18
  rcases rQ h with⟨q,e⟩|⟨_,h⟩
  ·exact .inr ⟨by omega,(Prod.mk.inj e).2.symm⟩
 cases h
theorem Gd{p:Int}{r:List Int}{c:List (List Int)}{t:List Int}(h:PyFlat.call PyRb50.shape (p::r)=some (c,t)):Read p r c t:=by
 have e:PyFlat.call PyRb50.shape (p::r)=(match PyRb50.shape p with
  |none=>none
  |some (n,k)=>if r.length<n then none else match PyFlat.rows k (r.drop n)with
   |none=>none
   |some (xs,t)=>some ((p::r.take n)::xs,t)):=rfl
 rw[e]at h
 cases hs:PyRb50.shape p with
 |none=>rw[hs]at h;cases h
 |some nk=>
  obtain⟨n,k⟩:=nk
  rw[hs]at h
  simp only at h
  by_cases hl:r.length<n
  ·rw[if_pos hl]at h;cases h
  ·rw[if_neg hl]at h
   rcases Cn hs with⟨rfl,rfl,rfl⟩|⟨h1,rfl⟩
   ·rw[List.drop_zero,List.take_zero]at h
    unfold PyFlat.rows at h
    cases hr:PyFlat.row r with
    |none=>rw[hr]at h;cases h
    |some xs=>
     obtain⟨x,s⟩:=xs
     rw[hr]at h
     simp only[PyFlat.rows]at h
     have h2:=Prod.mk.inj (Option.some.inj h)
     unfold PyFlat.row at hr
     cases r with
     |nil=>cases hr
     |cons m r=>
      simp only at hr
      by_cases hm:0≤m∧m.toNat≤r.length
      ·rw[if_pos hm]at hr
       have h3:=Prod.mk.inj (Option.some.inj hr)
       refine⟨.inr ⟨m.toNat,r.take m.toNat,rfl,?_,by rw[List.length_take];lia,?_⟩⟩
       ·rw[←h2.2,←h3.2,List.take_append_drop]
        congr 1
        lia
       ·rw[←h2.1,←h3.1]
      ·rw[if_neg hm]at hr;cases hr
   ·unfold PyFlat.rows at h
    simp only at h
    have h2:=Prod.mk.inj (Option.some.inj h)
    exact⟨.inl ⟨n,r.take n,h1,hs,by rw[←h2.2,List.take_append_drop],by rw[List.length_take];lia,h2.1.symm⟩⟩
inductive Reads:List Int→List (List (List Int))→Prop
 |nil:Reads [] []
 |cons {p r c t cs}:Read p r c t→Reads t cs→Reads (p::r) (c::cs)
theorem uy:∀(f:Nat) (l:List Int) (cs:List (List (List Int))),PyFlat.calls PyRb50.shape f l=some cs→Reads l cs
 |f,[],cs,h=>by
  cases f<;>(unfold PyFlat.calls at h;cases Option.some.inj h;exact .nil)
 |0,p::r,cs,h=>by unfold PyFlat.calls at h;cases h
 |f+1,p::r,cs,h=>by
  unfold PyFlat.calls at h
  cases hc:PyFlat.call PyRb50.shape (p::r)with
  |none=>rw[hc]at h;cases h
  |some ct=>
   obtain⟨c,t⟩:=ct
   rw[hc]at h
   simp only at h
   cases hr:PyFlat.calls PyRb50.shape f t with
   |none=>rw[hr]at h;cases h
   |some cs'=>
    rw[hr]at h
    simp only at h
    cases Option.some.inj h
    exact .cons (Gd hc) (uy f t cs' hr)
theorem Gn:∀c:List (List Int),PyRb50.whole c=c
 |[]=>rfl
 |[]::_=>rfl
 |(.negSucc _::_)::_=>rfl
 |(.ofNat m::t)::u=>by
  iterate 21 (rcases m with _|m;(rcases t with _|⟨a,_|⟨b,_|⟨c,_|⟨d,_|⟨e,t⟩⟩⟩⟩⟩<;>first|rfl|(rcases u with _|⟨x,_|⟨y,u⟩⟩<;>rfl)))
  rfl
theorem Gb(cs:List (List (List Int))):cs.map PyRb50.whole=cs:=by
 have:PyRb50.whole=id:=funext Gn
 rw[this,List.map_id]
theorem uW{l:List Int}(h:PyRb50.answers_asked l=true):∃cs,Reads l cs∧cs.length≤45∧(∀c∈cs,Rb50Neutral.asked1 c=true)∧((cs.head?).map Rb50Neutral.begins).getD false=true∧PyRb50.answers l=PyFlat.told (PyFlat.played Rb50Neutral.step Rb50Neutral.start cs):=by
 unfold PyRb50.answers_asked at h
 unfold PyRb50.answers
 cases hc:PyRb50.calls l with
 |none=>rw[hc]at h;cases h
 |some cs=>
  rw[hc]at h
  simp only[Bool.and_eq_true]at h
  unfold PyRb50.calls at hc
  cases hf:PyFlat.calls PyRb50.shape l.length l with
  |none=>rw[hf]at hc;cases hc
  |some cs'=>
   rw[hf]at hc
   simp only at hc
   rw[Gb]at hc
   have e:=Option.some.inj hc
   subst e
   obtain⟨h1,h2⟩:=h
   unfold Rb50Neutral.asked at h2
   simp only[Bool.and_eq_true]at h2
   refine⟨cs',uy _ _ _ hf,?_,fun c hc=>List.all_eq_true.mp h2.2.1 c hc,h2.2.2,rfl⟩
   unfold PyFlat.atMost at h1
   exact of_decide_eq_true h1
def jO(s:Rb50Neutral.S)(cs:List (List (List Int))):List Int:=PyFlat.told (PyFlat.played Rb50Neutral.step s cs)
theorem zk(s:Rb50Neutral.S):jO s []=[]:=rfl
theorem iQ(s:Rb50Neutral.S)(c:List (List Int))(cs:List (List (List Int))):
  jO s (c::cs)=(((Rb50Neutral.step s c).2.length:Int)::(Rb50Neutral.step s c).2)++jO (Rb50Neutral.step s c).1 cs:=by
 unfold jO PyFlat.told
 show List.flatMap _ ((Rb50Neutral.step s c).2::PyFlat.played Rb50Neutral.step (Rb50Neutral.step s c).1 cs)=_
 rw[List.flatMap_cons]
end TM
end
noncomputable section
namespace TM
open Rb50
def dH(a b:Num):Bool:=decide (j8 a*2^(a.p - min a.p b.p).toNat<j8 b*2^(b.p - min a.p b.p).toNat)
theorem DW{a:Num}{G:Int}(h:G≤a.p):((j8 a*2^(a.p - G).toNat:Int):Rat)*2^G=rv a:=by
 unfold j8 rv mv
 rw[Rat.intCast_mul,Rat.intCast_mul,Rat.intCast_natCast,qO,←ie,Rat.intCast_natCast,←jK]
 have h1:(2:Rat)^(((a.p - G).toNat:Nat):Int)*2^G=2^a.p:=by
  rw[←jL];congr 1;lia
 grind
theorem yI(a b:Num):dH a b=decide (rv a<rv b):=by
 unfold dH
 have h1:=DW (a:=a) (G:=min a.p b.p) (by lia)
 have h2:=DW (a:=b) (G:=min a.p b.p) (by lia)
 have hS:(0:Rat)<2^(min a.p b.p):=gr _
 have key:j8 a*2^(a.p - min a.p b.p).toNat<j8 b*2^(b.p - min a.p b.p).toNat↔rv a<rv b:=by
  rw[←h1,←h2,←Rat.intCast_lt_intCast]
  exact(Rat.mul_lt_mul_right hS).symm
 by_cases c:rv a<rv b
 ·rw[decide_eq_true c,decide_eq_true (key.mpr c)]
 ·rw[decide_eq_false c,decide_eq_false (fun z=>c (key.mp z))]
theorem gY{k:Kind}{a b:Num}{x y:F}(ha:Rep k a x)(hb:Rep k b y)(la:k.least≤a.p)(lb:k.least≤b.p):dH a b=below k x y:=by
 rw[yI,BY ha hb la lb]
theorem CD(goal level sluice area r:Num):oX goal level sluice area r=
  (if dH (fZ sluice area r) (kQ (fD SINGLE goal level))=true then bL SINGLE level (if(fD SINGLE goal level).s=true then fB (fZ sluice area r)else fZ sluice area r)else goal):=by
 unfold oX
 simp only
 rw[yI]
 by_cases c:rv (fZ sluice area r)<rv (kQ (fD SINGLE goal level))
 ·rw[if_pos c,if_pos (decide_eq_true c)]
 ·rw[if_neg c,if_neg (by rw[decide_eq_false c];decide)]
theorem FA{v f r:Nat}(hf:0<f)(hr:r*r≤v):r≤(f+v / f) / 2:=by
 refine(Nat.le_div_iff_mul_le (by decide)).mpr (Nat.le_of_not_lt fun h=>?_)
 have h1:v<f*(v / f+1):=Nat.lt_mul_div_succ v hf
 generalize v / f=q at*
 have h2:q+1≤2*r - f:=by lia
 have h3:f*(q+1)≤f*(2*r - f):=Nat.mul_le_mul_left _ h2
 have h4:f≤2*r:=by lia
 have h5:f*(2*r - f)≤r*r:=by
  obtain⟨d,hd⟩:∃d,2*r=f+d:=⟨2*r - f,by lia⟩
  have e:2*r - f=d:=by lia
  rw[e]
  rcases Nat.le_total f d with hfd|hfd
  ·obtain⟨e2,rfl⟩:∃e2,d=f+(e2+e2):=⟨(d - f) / 2,by lia⟩
   have er:r=f+e2:=by lia
   subst er
   have z:f*(f+(e2+e2))=f*f+f*e2+f*e2:=by simp only[Nat.mul_add];lia
   have z2:(f+e2)*(f+e2)=f*f+f*e2+(f*e2+e2*e2):=by simp only[Nat.mul_add,Nat.add_mul,Nat.mul_comm e2 f]
   lia
  ·obtain⟨e2,rfl⟩:∃e2,f=d+(e2+e2):=⟨(f - d) / 2,by lia⟩
   have er:r=d+e2:=by lia
   subst er
   have z:(d+(e2+e2))*d=d*d+d*e2+d*e2:=by simp only[Nat.add_mul,Nat.mul_comm e2 d];lia
   have z2:(d+e2)*(d+e2)=d*d+d*e2+(d*e2+e2*e2):=by simp only[Nat.mul_add,Nat.add_mul,Nat.mul_comm e2 d]
   lia
 lia
theorem Fz{v f:Nat}(h:v<f*f):(f+v / f) / 2<f:=by
 have hf:0<f:=by
  rcases Nat.eq_zero_or_pos f with z|z
  ·rw[z]at h;lia
  ·exact z
 have:v / f<f:=Nat.div_lt_of_lt_mul h
 lia
def rt(v:Nat):Nat:=floorRoot v
theorem yx(v:Nat):j7 (rt v) v:=rV v
theorem Hh(v:Nat):rt v≤2^((bl v+1) / 2):=by
 have h:=(yx v).1
 have h2:=nZ v
 refine Nat.le_of_not_lt fun z=>?_
 have h3:2^((bl v+1) / 2)*2^((bl v+1) / 2)≤rt v*rt v:=Nat.mul_le_mul (by lia) (by lia)
 rw[←Nat.pow_add]at h3
 have h4:2^bl v≤2^((bl v+1) / 2+(bl v+1) / 2):=Nat.pow_le_pow_right (by decide) (by lia)
 omega
theorem LG{v f:Nat}(h:f*f≤v)(hr:rt v≤f):f=rt v:=by
 have h2:=(yx v).2
 refine Nat.le_antisymm ?_ hr
 refine Nat.le_of_not_lt fun z=>?_
 have:(rt v+1)*(rt v+1)≤f*f:=Nat.mul_le_mul z z
 omega
def K4(k:Kind)(a:Num):Nat:=2*(k.frac+3) - bl a.w
def pJ(k:Kind)(a:Num):Nat:=K4 k a+((a.p - (K4 k a:Int))%2).toNat
def lI(k:Kind)(a:Num):Num:=bX k false (rt (a.w*2^pJ k a)*2+(if rt (a.w*2^pJ k a)*rt (a.w*2^pJ k a)<a.w*2^pJ k a then 1 else 0)) ((a.p - (pJ k a:Int)) / 2 - 1)
theorem JA:rt 0=0:=by
 have:=(yx 0).1
 rcases Nat.eq_zero_or_pos (rt 0)with z|z
 ·exact z
 ·have:=Nat.mul_pos z z;omega
theorem JI(k:Kind)(a:Num):(lI k a).s=false:=gE _ _ _ _
theorem Bp{a:Num}{x:F}{c d:Int}(ha:Rep SINGLE a x)(oa:Ok SINGLE a c)(hs:a.s=false)(hc:c≤2*d)(hld: -149≤d)(hm:d<128):Rep SINGLE (lI SINGLE a) (sRoot x)∧Ok SINGLE (lI SINGLE a) d:=by
 have hlo:=oa.lo
 have hhi:=oa.hi
 rw[dw]at hlo
 by_cases hw:a.w=0
 ·have hm0:(whole SINGLE x).1=0:=ha.eqv.zero.mp hw
  have er:sRoot x=x:=by
   unfold sRoot root
   simp only
   rw[if_pos hm0]
   rfl
  have ep:lI SINGLE a=⟨false,0,max ((a.p - (pJ SINGLE a:Int)) / 2 - 1) (-149)⟩:=by
   unfold lI
   rw[hw,Nat.zero_mul,JA,Nat.zero_mul,if_neg (by omega),fF,dw]
  rw[er,ep]
  refine⟨⟨?_,?_,ha.lt,ha.fin⟩,⟨Nat.zero_le _,by rw[dw];show -149≤max _ (-149);omega,by show max ((a.p - (pJ SINGLE a:Int)) / 2 - 1) (-149)≤d;omega,gT.zero _ _⟩⟩
  ·rw[ha.sg];exact hs
  ·have:=ha.eqv
   rw[hm0]
   exact⟨min (max ((a.p - (pJ SINGLE a:Int)) / 2 - 1) (-149)) (whole SINGLE x).2,by show _≤max ((a.p - (pJ SINGLE a:Int)) / 2 - 1) (-149);omega,by omega,by rw[kh,kh]⟩
 ·have hR:=yx (a.w*2^pJ SINGLE a)
  have hJ:(a.p - (pJ SINGLE a:Int))%2=0:=by unfold pJ;lia
  have hb:=xE hw
  have hl:SINGLE.frac+1≤Nat.log2 (rt (a.w*2^pJ SINGLE a)):=by
   refine Nat.le_trans (show SINGLE.frac+1≤25 by decide) (Bj hR ?_)
   have h1:=Nat.mul_le_mul_right (2^pJ SINGLE a) hb.1
   rw[←Nat.pow_add]at h1
   refine Nat.le_trans (Nat.pow_le_pow_right (by decide) ?_) h1
   unfold pJ K4
   show 2*25≤bl a.w - 1+(2*(23+3) - bl a.w+_)
   omega
  obtain⟨z,h1,h2,h3⟩:=JC dh (by decide) ha oa hs hw hJ hR hl hc (by rw[dw];exact hld) (by rw[jN];exact hm)
  have e:(if rt (a.w*2^pJ SINGLE a)*rt (a.w*2^pJ SINGLE a)=a.w*2^pJ SINGLE a then 0 else 1)=(if rt (a.w*2^pJ SINGLE a)*rt (a.w*2^pJ SINGLE a)<a.w*2^pJ SINGLE a then 1 else 0):=by
   have:=hR.1
   by_cases c:rt (a.w*2^pJ SINGLE a)*rt (a.w*2^pJ SINGLE a)=a.w*2^pJ SINGLE a
   ·rw[if_pos c,if_neg (by omega)]
   ·rw[if_neg c,if_pos (by lia)]
  rw[e]at h2 h3
  unfold sRoot
  rw[h1]
  exact⟨h2,h3⟩
end TM
end
noncomputable section
namespace TM
open Rb50
def mag(x:Nat):Nat:=(whole SINGLE x).1*2^((whole SINGLE x).2 - SINGLE.least).toNat
theorem Ic{x:Nat}(h:x<2147483648):mag x=if x / 8388608=0 then x%8388608 else(x%8388608+8388608)*2^(x / 8388608 - 1):=by
 unfold mag whole field
 have e1:(2:Nat)^SINGLE.frac=8388608:=rfl
 have e2:(2:Nat)^SINGLE.expo=256:=rfl
 rw[e1,e2]
 have e3:x / 8388608%256=x / 8388608:=Nat.mod_eq_of_lt (by lia)
 rw[e3]
 by_cases c:x / 8388608=0
 ·rw[if_pos c,if_pos c]
  simp
 ·rw[if_neg c,if_neg c]
  congr 2
  show(SINGLE.least+((x / 8388608:Nat):Int) - 1 - SINGLE.least).toNat=_
  lia
theorem wV{x y:Nat}(hy:y<2147483648)(h:x<y):mag x<mag y:=by
 rw[Ic (by lia),Ic hy]
 have d1:=Nat.div_add_mod x 8388608
 have d2:=Nat.div_add_mod y 8388608
 have m1:=Nat.mod_lt x (show 0<8388608 by decide)
 have m2:=Nat.mod_lt y (show 0<8388608 by decide)
 have hle:x / 8388608≤y / 8388608:=Nat.div_le_div_right (by lia)
 generalize x / 8388608=f at*
 generalize y / 8388608=g at*
 generalize x%8388608=r at*
 generalize y%8388608=s at*
 by_cases c:f=0
 ·rw[if_pos c]
  by_cases c2:g=0
  ·rw[if_pos c2];lia
  ·rw[if_neg c2]
   have:s+8388608≤(s+8388608)*2^(g - 1):=Nat.le_mul_of_pos_right _ (two_pos _)
   lia
 ·rw[if_neg c,if_neg (by lia)]
  by_cases c3:f=g
  ·subst c3
   exact Nat.mul_lt_mul_of_pos_right (by lia) (two_pos _)
  ·have e:g - 1=f - 1+1+(g - f - 1):=by lia
   rw[e,Nat.pow_add,Nat.pow_succ]
   have h1:(r+8388608)*2^(f - 1)<16777216*2^(f - 1):=Nat.mul_lt_mul_of_pos_right (by lia) (two_pos _)
   have h2:16777216*2^(f - 1)≤(s+8388608)*(2^(f - 1)*2):=by
    have:8388608*(2^(f - 1)*2)≤(s+8388608)*(2^(f - 1)*2):=Nat.mul_le_mul_right _ (by lia)
    lia
   have h3:(s+8388608)*(2^(f - 1)*2)≤(s+8388608)*(2^(f - 1)*2*2^(g - f - 1)):=Nat.mul_le_mul_left _ (Nat.le_mul_of_pos_right _ (two_pos _))
   lia
theorem uU{x y:Nat}(hx:x<2147483648)(hy:y<2147483648):mag x<mag y↔x<y:=by
 refine⟨fun h=>Nat.lt_of_not_le fun z=>?_,wV hy⟩
 rcases Nat.lt_or_eq_of_le z with z|z
 ·have:=wV hx z;lia
 ·subst z;lia
theorem gj{x:Nat}(h:x<2147483648):worth SINGLE x=(mag x:Int):=by
 unfold worth mag negative
 have:¬SINGLE.sign≤x:=by show ¬2147483648≤x;lia
 rw[decide_eq_false this]
 simp
theorem Eb(x:Nat):mag (x%2147483648)=mag x:=by
 unfold mag
 have:whole SINGLE (x%2147483648)=whole SINGLE x:=oK SINGLE x
 rw[this]
theorem sA{x:Nat}(h:2147483648≤x):worth SINGLE x=-(mag x:Int):=by
 unfold worth mag negative
 have:SINGLE.sign≤x:=by show 2147483648≤x;omega
 rw[decide_eq_true this]
 simp
theorem Ib{x:Nat}(h:x<2147483648)(hz:mag x=0):x=0:=by
 rcases Nat.eq_zero_or_pos x with z|z
 ·exact z
 ·have:=wV h z;lia
theorem lT{x most:Nat}(hx:x%2147483648≤most)(hm:most<2139095040):finite SINGLE x=true:=by
 unfold finite
 have e:field SINGLE x=x%2147483648 / 8388608:=by
  have:=lU SINGLE x
  rw[←this]
  show x%2147483648 / 8388608%256=_
  lia
 rw[e]
 show(x%2147483648 / 8388608 != 255)=true
 simp
 lia
theorem Gf{x lo hi:Nat}(hx:x<4294967296)(h0:0<lo)(hl:lo≤hi)(hh:hi<2139095040):among x lo hi=decide (lo≤x∧x≤hi):=by
 unfold among below
 rw[gj (x:=lo) (by lia),gj (x:=hi) (by lia)]
 by_cases hn:x<2147483648
 ·rw[gj hn]
  have k1:=uU hn (show lo<2147483648 by lia)
  have k2:=uU (show hi<2147483648 by lia) hn
  by_cases c:lo≤x∧x≤hi
  ·have:=lT (x:=x) (most:=hi) (by lia) hh
   rw[decide_eq_true c,this,decide_eq_false (show ¬(mag x:Int)<(mag lo:Int) by lia),decide_eq_false (show ¬(mag hi:Int)<(mag x:Int) by lia)]
   rfl
  ·rw[decide_eq_false c]
   rcases(show x<lo∨hi<x by lia)with z|z
   ·rw[decide_eq_true (show(mag x:Int)<(mag lo:Int) by lia)]
    simp
   ·rw[decide_eq_true (show(mag hi:Int)<(mag x:Int) by lia)]
    simp
 ·rw[sA (by lia)]
  have hp:=wV (show lo<2147483648 by lia) h0
  rw[decide_eq_true (show -(mag x:Int)<(mag lo:Int) by lia),decide_eq_false (show ¬(lo≤x∧x≤hi) by lia)]
  simp
theorem MT:mag 0=0:=by decide
theorem mF{x hi:Nat}(hx:x<4294967296)(hh:hi<2139095040):among x 0 hi=decide (x≤hi∨x=2147483648):=by
 unfold among below
 rw[gj (x:=0) (by decide),gj (x:=hi) (by lia),MT]
 by_cases hn:x<2147483648
 ·rw[gj hn]
  have k2:=uU (show hi<2147483648 by lia) hn
  rw[decide_eq_false (show ¬(mag x:Int)<((0:Nat):Int) by lia)]
  by_cases c:x≤hi
  ·have:=lT (x:=x) (most:=hi) (by lia) hh
   rw[decide_eq_true (show x≤hi∨x=2147483648 from .inl c),this,decide_eq_false (show ¬(mag hi:Int)<(mag x:Int) by lia)]
   rfl
  ·rw[decide_eq_false (show ¬(x≤hi∨x=2147483648) by lia),decide_eq_true (show(mag hi:Int)<(mag x:Int) by lia)]
   simp
 ·rw[sA (by lia)]
  have hm:=Eb x
  by_cases c:x=2147483648
  ·subst c
   have h0:mag 2147483648=0:=by decide
   rw[h0,decide_eq_true (show 2147483648≤hi∨2147483648=2147483648 from .inr rfl),decide_eq_false (show ¬ -((0:Nat):Int)<((0:Nat):Int) by lia),decide_eq_false (show ¬(mag hi:Int)< -((0:Nat):Int) by lia)]
   decide
  ·have hz:mag x≠0:=fun z=>c (by have:=Ib (x:=x%2147483648) (by lia) (by lia);lia)
   rw[decide_eq_false (show ¬(x≤hi∨x=2147483648) by lia),decide_eq_true (show -(mag x:Int)<((0:Nat):Int) by lia)]
   simp
theorem yO{a s i n:Nat}(ha:a<4294967296)(hs:s<4294967296)(hi:i<4294967296)(hn:n<4294967296):lockOk a s i n=
  decide ((981467136≤a∧a≤1317011456)∧(s≤1233125376∨s=2147483648)∧i%2147483648≤1233125376∧n%2147483648≤1233125376):=by
 unfold lockOk
 have e1:power SINGLE (-10)=981467136:=by decide
 have e2:power SINGLE 30=1317011456:=by decide
 have e3:power SINGLE 20=1233125376:=by decide
 rw[e1,e2,e3,Gf ha (by decide) (by decide) (by decide),mF hs (by decide)]
 have z1:size SINGLE i=i%2147483648:=rfl
 have z2:size SINGLE n=n%2147483648:=rfl
 rw[z1,z2,mF (by lia) (by decide),mF (by lia) (by decide)]
 rw[←Bool.decide_and,←Bool.decide_and,←Bool.decide_and]
 apply decide_eq_decide.mpr
 lia
theorem yh{x:Nat}(hx:x<4294967296):shipOk x=decide (x≤1149239296∨x=2147483648):=by
 unfold shipOk
 have e:power SINGLE 10=1149239296:=by decide
 rw[e,mF hx (by decide)]
theorem F1{f:Nat}(hf:f<4294967296):(finite SINGLE f=false∨below SINGLE (power SINGLE 4) (size SINGLE f)=true)↔¬f%2147483648≤1098907648:=by
 have e:power SINGLE 4=1098907648:=by decide
 have z1:size SINGLE f=f%2147483648:=rfl
 unfold below
 rw[e,z1,gj (x:=1098907648) (by decide),gj (x:=f%2147483648) (by lia)]
 have k:=uU (show 1098907648<2147483648 by decide) (show f%2147483648<2147483648 by lia)
 simp only[decide_eq_true_eq]
 constructor
 ·rintro(h|h)
  ·intro z
   rw[lT z (by decide)]at h
   cases h
  ·lia
 ·intro h
  exact .inr (by lia)
theorem x8(f:Nat):(worth SINGLE f).natAbs=mag f:=by
 by_cases h:f<2147483648
 ·rw[gj h];lia
 ·rw[sA (by lia)];lia
theorem Ea{x most n:Nat}(hm:most<2147483648)(e:mag most=n)(h:x%2147483648≤most):mag x≤n:=by
 rw[←Eb,←e]
 rcases Nat.lt_or_eq_of_le h with z|z
 ·exact Nat.le_of_lt (wV hm z)
 ·rw[z];exact Nat.le_refl _
end TM
end
noncomputable section
namespace TM
open Rb50
abbrev Pk:=(Num×Nat)×(Num×Nat)
def rG(x:Num)(k:Nat)(a:Pk):Pk:=(if dH x a.1.1=true then(x,k)else a.1,if dH a.2.1 x=true then(x,k)else a.2)
def rH(f:Nat→Num):Nat→Pk
 |0=>((f 0,0),(f 0,0))
 |i+1=>rG (f (i+1)) (i+1) (rH f i)
def IF(a:(F×Nat)×(F×Nat))(x:F×Nat):(F×Nat)×(F×Nat):=(if below EXT x.1 a.1.1=true then x else a.1,if below EXT a.2.1 x.1=true then x else a.2)
theorem Di(k:Kind)(x:F):below k x x=false:=by unfold below;simp
structure KA(c:Int)(a:Pk)(b:(F×Nat)×(F×Nat)):Prop where
 r1:Rep EXT a.1.1 b.1.1
 o1:Ok EXT a.1.1 c
 k1:a.1.2=b.1.2
 r2:Rep EXT a.2.1 b.2.1
 o2:Ok EXT a.2.1 c
 k2:a.2.2=b.2.2
theorem ID{c:Int}{a:Pk}{b:(F×Nat)×(F×Nat)}{n:Num}{x:F}{k:Nat}(h:KA c a b)(r:Rep EXT n x)(o:Ok EXT n c):KA c (rG n k a) (IF b (x,k)):=by
 have e1:=gY r h.r1 o.lo h.o1.lo
 have e2:=gY h.r2 r h.o2.lo o.lo
 unfold rG IF
 simp only[e1,e2]
 by_cases c1:below EXT x b.1.1=true
 ·by_cases c2:below EXT b.2.1 x=true
  ·rw[if_pos c1,if_pos c1,if_pos c2,if_pos c2];exact⟨r,o,rfl,r,o,rfl⟩
  ·rw[if_pos c1,if_pos c1,if_neg c2,if_neg c2];exact⟨r,o,rfl,h.r2,h.o2,h.k2⟩
 ·by_cases c2:below EXT b.2.1 x=true
  ·rw[if_neg c1,if_neg c1,if_pos c2,if_pos c2];exact⟨h.r1,h.o1,h.k1,r,o,rfl⟩
  ·rw[if_neg c1,if_neg c1,if_neg c2,if_neg c2];exact h
theorem xw(g:Nat→F):∀i,extremes ((List.range (i+1)).map g)=((List.range (i+1)).map fun k=>(g k,k)).foldl IF ((g 0,0),(g 0,0)):=by
 intro i
 unfold extremes
 have e:(((List.range (i+1)).map g)).headD 0=g 0:=by rw[List.range_succ_eq_map];rfl
 rw[e]
 have e2:((List.range (i+1)).map g).zipIdx=(List.range (i+1)).map fun k=>(g k,k):=by
  apply List.ext_getElem
  ·simp
  ·intro n h1 h2
   simp
 rw[e2]
 rfl
theorem Ma{c:Int}{f:Nat→Num}{g:Nat→F}(r:∀k,Rep EXT (f k) (g k))(o:∀k,Ok EXT (f k) c):∀i,KA c (rH f i) (extremes ((List.range (i+1)).map g)):=by
 intro i
 rw[xw]
 induction i with
 |zero=>
  show KA c ((f 0,0),(f 0,0)) (IF ((g 0,0),(g 0,0)) (g 0,0))
  unfold IF
  simp only[Di]
  exact⟨r 0,o 0,rfl,r 0,o 0,rfl⟩
 |succ i ih=>
  rw[List.range_succ,List.map_append,List.foldl_append]
  exact ID ih (r (i+1)) (o (i+1))
def pX(l:List Num)(k:Nat):Option Int:=
 if dH (l.getD (k - 1) z0) (l.getD k z0)=true∧dH (l.getD k z0) (l.getD (k+1) z0)=false then some (k:Int)
 else if dH (l.getD k z0) (l.getD (k - 1) z0)=true∧dH (l.getD (k+1) z0) (l.getD k z0)=false then some (-(k:Int))else none
def fJ(l:List Num):Nat→List Int
 |0=>[]
 |i+1=>fJ l i++(pX l (i+1)).toList
theorem lY.length{ns xs}(h:lY ns xs):ns.length=xs.length:=by
 induction h with
 |nil=>rfl
 |cons _ _ _ ih=>simp[ih]
theorem lY.get{ns xs}(h:lY ns xs):∀i,Rep SINGLE (ns.getD i z0) (xs.getD i 0)∧Ok SINGLE (ns.getD i z0) 121:=by
 induction h with
 |nil=>intro i;simp;exact⟨CC,HH (by decide)⟩
 |cons r o _ ih=>
  intro i
  cases i with
  |zero=>exact⟨r,o⟩
  |succ i=>exact ih i
theorem AD{ns:List Num}{xs:List F}(h:lY ns xs):turnings xs=(fJ ns (xs.length - 2)).map fun k=>(k,xs.getD k.natAbs 0):=by
 have key:∀i,i+2≤xs.length→(List.range (i+1)).filterMap (fun(k:Nat)=>
   if k=0∨xs.length≤k+1 then none
   else
    if below SINGLE (xs.getD (k - 1) 0) (xs.getD k 0)=true∧below SINGLE (xs.getD k 0) (xs.getD (k+1) 0)=false then some ((k:Int),xs.getD k 0)
    else if below SINGLE (xs.getD k 0) (xs.getD (k - 1) 0)=true∧below SINGLE (xs.getD (k+1) 0) (xs.getD k 0)=false then some (-(k:Int),xs.getD k 0)else none)=(fJ ns i).map fun k=>(k,xs.getD k.natAbs 0):=by
  intro i
  induction i with
  |zero=>intro _;rfl
  |succ i ih=>
   intro hi
   rw[List.range_succ,List.filterMap_append,ih (by lia)]
   show _=(fJ ns i++(pX ns (i+1)).toList).map _
   rw[List.map_append]
   congr 1
   rw[List.filterMap_cons,if_neg (by lia)]
   unfold pX
   obtain⟨r0,o0⟩:=h.get (i+1 - 1)
   obtain⟨r1,o1⟩:=h.get (i+1)
   obtain⟨r2,o2⟩:=h.get (i+1+1)
   rw[gY r0 r1 o0.lo o1.lo,gY r1 r2 o1.lo o2.lo,gY r1 r0 o1.lo o0.lo,gY r2 r1 o2.lo o1.lo]
   have en:(-((i+1:Nat):Int)).natAbs=i+1:=by omega
   by_cases c1:below SINGLE (xs.getD (i+1 - 1) 0) (xs.getD (i+1) 0)=true∧below SINGLE (xs.getD (i+1) 0) (xs.getD (i+1+1) 0)=false
   ·rw[if_pos c1,if_pos c1]
    rfl
   ·rw[if_neg c1,if_neg c1]
    by_cases c2:below SINGLE (xs.getD (i+1) 0) (xs.getD (i+1 - 1) 0)=true∧below SINGLE (xs.getD (i+1+1) 0) (xs.getD (i+1) 0)=false
    ·rw[if_pos c2,if_pos c2]
     show _=[(-((i+1:Nat):Int),xs.getD (-((i+1:Nat):Int)).natAbs 0)]
     rw[en]
     rfl
    ·rw[if_neg c2,if_neg c2]
     rfl
 unfold turnings
 by_cases hl:xs.length≤1
 ·have e0:fJ ns (xs.length - 2)=[]:=by
   have:xs.length - 2=0:=by omega
   rw[this];rfl
  rw[e0]
  apply List.filterMap_eq_nil_iff.mpr
  intro k hk
  have:=List.mem_range.mp hk
  simp only
  rw[if_pos (by lia)]
 ·have e:xs.length=(xs.length - 2+1)+1:=by lia
  have hk:=key (xs.length - 2) (by lia)
  conv=>lhs;rw[e]
  rw[List.range_succ,List.filterMap_append]
  rw[e]at hk
  rw[←e]at hk⊢
  rw[hk,List.filterMap_cons,if_pos (by lia)]
  simp
theorem wc{l:List Num}:∀{i:Nat} {z:Int},z∈fJ l i→z.natAbs≤i∧0<z.natAbs
 |0,z,h=>by simp[fJ]at h
 |i+1,z,h=>by
  rcases List.mem_append.mp h with h|h
  ·have:=wc h;lia
  ·unfold pX at h
   split at h
   ·simp at h;omega
   ·split at h
    ·simp at h;omega
    ·simp at h
theorem kP(l:List Num):∀i,(fJ l i).length≤i
 |0=>Nat.le_refl _
 |i+1=>by
  show(fJ l i++(pX l (i+1)).toList).length≤i+1
  rw[List.length_append]
  have:=kP l i
  have:(pX l (i+1)).toList.length≤1:=by cases pX l (i+1)<;>simp
  lia
theorem Dc{p:Nat→Bool}{n:Nat}(h:∀k,k<n→p k=false):firstOf p n=n:=by
 unfold firstOf
 have:(List.range n).find? p=none:=List.find?_eq_none.mpr fun x hx=>by rw[h x (List.mem_range.mp hx)];decide
 rw[this]
 rfl
theorem BR{p:Nat→Bool}{n k:Nat}(hk:k<n)(hp:p k=true)(h:∀j,j<k→p j=false):firstOf p n=k:=by
 unfold firstOf
 have:(List.range n).find? p=some k:=by
  rw[List.find?_range_eq_some]
  exact⟨hp,List.mem_range.mpr hk,fun j hj=>by rw[h j hj];rfl⟩
 rw[this]
 rfl
def eZ(h:Harbour)(t:Int):Nat→Lock→Lock
 |0,l=>l
 |n+1,l=>eZ h (t+1) n (worked (sea h (t+1)) l)
theorem wY{h h':Harbour}(e:∀m,sea h m=sea h' m):∀(n:Nat) (t:Int) (l:Lock),eZ h t n l=eZ h' t n l
 |0,t,l=>rfl
 |n+1,t,l=>by
  show eZ h (t+1) n (worked (sea h (t+1)) l)=eZ h' (t+1) n (worked (sea h' (t+1)) l)
  rw[e (t+1),wY e n]
theorem qy:∀(n:Nat) (h:Harbour),minutes n h={h with now:=h.now+n,locks:=h.locks.map (eZ h h.now n)}
 |0,h=>by
  show h=_
  have:h.locks.map (eZ h h.now 0)=h.locks:=by
   have e:eZ h h.now 0=id:=by funext l;rfl
   rw[e,List.map_id]
  rw[this]
  simp
 |n+1,h=>by
  show minutes n (minute h)=_
  rw[qy n (minute h)]
  unfold minute
  simp only[List.map_map]
  congr 1
  ·apply List.map_congr_left
   intro l _
   exact wY (h:=minute h) (h':=h) (fun m=>rfl) n (h.now+1) (worked (sea h (h.now+1)) l)
  ·lia
theorem iK(h:Harbour):∀(n:Nat) (t:Int) (l:Lock),(eZ h t n l).open_=l.open_∧(eZ h t n l).area=l.area∧(eZ h t n l).sluice=l.sluice∧(eZ h t n l).sill=l.sill∧(eZ h t n l).inner=l.inner
 |0,_,_=>⟨rfl,rfl,rfl,rfl,rfl⟩
 |n+1,t,l=>by
  have:=iK h n (t+1) (worked (sea h (t+1)) l)
  show(eZ h (t+1) n (worked (sea h (t+1)) l)).open_=_∧_
  obtain⟨h1,h2,h3,h4,h5⟩:=this
  have w:(worked (sea h (t+1)) l).open_=l.open_∧(worked (sea h (t+1)) l).area=l.area∧(worked (sea h (t+1)) l).sluice=l.sluice∧(worked (sea h (t+1)) l).sill=l.sill∧(worked (sea h (t+1)) l).inner=l.inner:=by
   unfold worked
   split<;>exact⟨rfl,rfl,rfl,rfl,rfl⟩
  exact⟨h1.trans w.1,h2.trans w.2.1,h3.trans w.2.2.1,h4.trans w.2.2.2.1,h5.trans w.2.2.2.2⟩
theorem jI(h:Harbour):∀(n:Nat) (t:Int) (l:Lock),eZ h t (n+1) l=worked (sea h (t+n+1)) (eZ h t n l)
 |0,t,l=>by show worked (sea h (t+1)) l=worked (sea h (t+((0:Nat):Int)+1)) l;congr 2;lia
 |n+1,t,l=>by
  show eZ h (t+1) (n+1) (worked (sea h (t+1)) l)=_
  rw[jI h n (t+1)]
  show worked (sea h (t+1+n+1)) _=worked (sea h (t+(n+1:Nat)+1)) (eZ h (t+1) n (worked (sea h (t+1)) l))
  congr 2
  lia
end TM
end
noncomputable section
namespace TM
open Rb50
theorem oR{x most n:Nat}(hx:x<4294967296)(hm:most<2139095040)(e:mag most=2^(n+149))(h:x%2147483648≤most):Rep SINGLE (gX SINGLE x) x∧Ok SINGLE (gX SINGLE x) n:=by
 have hf:=lT h hm
 have hl:=pK (f:=x) (n:=n) (by rw[x8];exact Ea (by lia) e h)
 exact wM (by show x<2*2147483648;omega) hf (qF (f:=x) n hf hl (by lia)) hl
theorem C5:mag 1233125376=2^(20+149):=by decide+kernel
theorem LX:mag 1317011456=2^(30+149):=by decide+kernel
theorem LY:mag 1149239296=2^(10+149):=by decide+kernel
theorem MS:mag 1098907648=2^(4+149):=by decide+kernel
structure eW(l:Lock):Prop where
 la:l.area<4294967296
 ls:l.sluice<4294967296
 li:l.sill<4294967296
 ln:l.inner<4294967296
 ok:lockOk l.area l.sluice l.sill l.inner=true
 op:l.open_≤4
theorem eW.bits{l:Lock}(h:eW l):(981467136≤l.area∧l.area≤1317011456)∧(l.sluice≤1233125376∨l.sluice=2147483648)∧l.sill%2147483648≤1233125376∧l.inner%2147483648≤1233125376:=by
 have:=h.ok
 rw[yO h.la h.ls h.li h.ln]at this
 exact of_decide_eq_true this
theorem Ky{x:Nat}(hla:x<4294967296)(b1:981467136≤x)(b2:x≤1317011456):Rep SINGLE (gX SINGLE x) x∧Ok SINGLE (gX SINGLE x) 30∧(gX SINGLE x).w≠0∧ -33≤(gX SINGLE x).p∧(gX SINGLE x).s=false:=by
 obtain⟨r,o⟩:=oR (x:=x) hla (by decide) LX (by lia)
 have hf:field SINGLE x=x / 8388608:=by
  show x / 8388608%256=x / 8388608
  lia
 refine⟨r,o,?_,?_,?_⟩
 ·unfold gX whole
  rw[hf,if_neg (by lia)]
  show x%2^SINGLE.frac+2^SINGLE.frac≠0
  have:=two_pos SINGLE.frac
  lia
 ·unfold gX whole
  rw[hf,if_neg (by lia)]
  show -33≤SINGLE.least+((x / 8388608:Nat):Int) - 1
  rw[dw]
  lia
 ·unfold gX negative
  show decide (2147483648≤x)=false
  rw[decide_eq_false (by lia)]
theorem eW.area{l:Lock}(h:eW l):Rep SINGLE (gX SINGLE l.area) l.area∧Ok SINGLE (gX SINGLE l.area) 30∧(gX SINGLE l.area).w≠0∧ -33≤(gX SINGLE l.area).p∧(gX SINGLE l.area).s=false:=
 Ky h.la h.bits.1.1 h.bits.1.2
theorem Jg{n:Num}(h:n.w=0):rv n=0:=by
 unfold rv mv
 rw[h]
 show _*((0:Rat)*_)=0
 grind
theorem yT{x most n:Nat}(hx:x<4294967296)(hm:most<2139095040)(e:mag most=2^(n+149))(h:x≤most∨x=2147483648):Rep SINGLE (gX SINGLE x) x∧Ok SINGLE (gX SINGLE x) n∧0≤rv (gX SINGLE x):=by
 obtain⟨r,o⟩:=oR (x:=x) hx hm e (by lia)
 refine⟨r,o,?_⟩
 rcases h with h|h
 ·have hs:(gX SINGLE x).s=false:=by
   unfold gX negative
   show decide (2147483648≤x)=false
   rw[decide_eq_false (by lia)]
  unfold rv
  rw[hs]
  have:=lO (gX SINGLE x).w (gX SINGLE x).p
  show 0≤(1:Rat)*_
  grind
 ·subst h
  rw[Jg (by decide)]
  exact Rat.le_refl
theorem eW.sluice{l:Lock}(h:eW l):Rep SINGLE (gX SINGLE l.sluice) l.sluice∧Ok SINGLE (gX SINGLE l.sluice) 20∧0≤rv (gX SINGLE l.sluice):=yT h.ls (by decide) C5 h.bits.2.1
theorem eW.sill{l:Lock}(h:eW l):Rep SINGLE (gX SINGLE l.sill) l.sill∧Ok SINGLE (gX SINGLE l.sill) 110:=by
 obtain⟨r,o⟩:=oR (x:=l.sill) h.li (by decide) C5 h.bits.2.2.1
 exact⟨r,o.mono (by decide)⟩
theorem eW.inner{l:Lock}(h:eW l):Rep SINGLE (gX SINGLE l.inner) l.inner∧Ok SINGLE (gX SINGLE l.inner) 110:=by
 obtain⟨r,o⟩:=oR (x:=l.inner) h.ln (by decide) C5 h.bits.2.2.2
 exact⟨r,o.mono (by decide)⟩
structure xT(n:Num)(x:F):Prop where
 r:Rep SINGLE n x
 o:Ok SINGLE n 110
def zK(h:Harbour)(m:Int):Num:=dR SINGLE (eG (cB h m))
theorem qP{h:Harbour}(o:ze h)(m:Int):xT (zK h m) (sea h m):=by
 obtain⟨t1,t2⟩:=gk o m
 obtain⟨m1,m2⟩:=fU t1 t2 (by decide) (by decide)
 obtain⟨o1,o2⟩:=jY dh m1 m2 (by decide) (by decide)
 exact⟨o1,o2⟩
def K2(goal level sluice area:Num):Num:=oX goal level sluice area (lI SINGLE (kQ (fD SINGLE goal level)))
theorem GL{l:Lock}(f:eW l){g v:Num}{xg xv:F}(hg:xT g xg)(hv:xT v xv):xT (K2 g v (gX SINGLE l.sluice) (gX SINGLE l.area)) (toward xg xv l.sluice l.area):=by
 obtain⟨a1,a2,a3,a4,a5⟩:=f.area
 obtain⟨s1,s2,s3⟩:=f.sluice
 obtain⟨d1,d2⟩:=jc hg.r hv.r hg.o hv.o (by decide)
 obtain⟨r1,r2⟩:=Bp (d:=56) (size_rep d1) (mw d2) rfl (by decide) (by decide) (by decide)
 have hr0:0≤rv (lI SINGLE (kQ (fD SINGLE g v))):=by
  unfold rv
  rw[JI]
  have:=lO (lI SINGLE (kQ (fD SINGLE g v))).w (lI SINGLE (kQ (fD SINGLE g v))).p
  show 0≤(1:Rat)*_
  grind
 obtain⟨t1,t2⟩:=EM hg.r hv.r s1 a1 r1 hg.o hv.o s2 r2 a3 a4 a5 s3 hr0
 exact⟨t1,t2⟩
def Bs:Num:=⟨false,1,-1⟩
def wD:Num:=⟨false,1,-5⟩
theorem rR:Rep SINGLE Bs HALF∧Ok SINGLE Bs 0:=by
 refine⟨⟨by decide,⟨-24,by decide,by decide,by decide+kernel⟩,by decide,by decide⟩,⟨by decide,by decide,by decide,⟨-1,by decide,by decide,by decide⟩⟩⟩
theorem xC:Rep SINGLE wD CLOSE∧Ok SINGLE wD 0:=by
 refine⟨⟨by decide,⟨-28,by decide,by decide,by decide+kernel⟩,by decide,by decide⟩,⟨by decide,by decide,by decide,⟨-5,by decide,by decide,by decide⟩⟩⟩
def K3(level sill draught:Num):Bool:= !dH (fD SINGLE level sill) (bL SINGLE draught Bs)
theorem Kq{v s d:Num}{xv xs xd:F}(hv:xT v xv)(hs:xT s xs)(hd:Rep SINGLE d xd)(od:Ok SINGLE d 10):K3 v s d=deep xv xs xd:=by
 obtain⟨d1,d2⟩:=jc hv.r hs.r hv.o hs.o (by decide)
 obtain⟨e1,e2⟩:=jb hd rR.1 od (rR.2.mono (by decide)) (by decide)
 unfold K3 deep
 rw[gY d1 e1 d2.lo e2.lo]
def HA(x y:Num):Bool:=dH wD (kQ (fD SINGLE x y))
theorem IZ{a b:Num}{x y:F}(ha:xT a x)(hb:xT b y):HA a b=apart x y:=by
 obtain⟨d1,d2⟩:=jc ha.r hb.r ha.o hb.o (by decide)
 unfold HA apart
 rw[gY xC.1 (size_rep d1) xC.2.lo (mw d2).lo]
theorem DC{x:Nat}(hx:x<4294967296)(h:x≤1149239296∨x=2147483648):Rep SINGLE (gX SINGLE x) x∧Ok SINGLE (gX SINGLE x) 10:=by
 obtain⟨r,o,_⟩:=yT hx (by decide) LY h
 exact⟨r,o⟩
end TM
end
noncomputable section
namespace TM
open Rb50
structure qD(h:Harbour):Prop where
 ok:ze h
 wv:∀y∈h.waves,y.phase<2^64∧y.speed<2^64
 nl:h.locks.length≤16
 lk:∀l∈h.locks,eW l
 lo: -1152921504606846976≤h.now
 hi:h.now≤1152921504606846976
theorem qD.new{m:Int}(h:m.natAbs≤1000000000):qD {mean:=m}:=
 ⟨⟨h,show 0≤64 by decide,fun w hw=>by simp at hw,fun s hs=>by simp at hs⟩,fun y hy=>by simp at hy,show 0≤16 by decide,fun l hl=>by simp at hl,show -1152921504606846976≤(0:Int) by decide,show(0:Int)≤1152921504606846976 by decide⟩
abbrev stp:=Rb50Neutral.step
def mk(n:Int)(xs:List Int):List (List Int):=if n=1 then[[1],xs]else[n::xs]
theorem K6{n:Int}(h:n≠1)(xs:List Int):mk n xs=[n::xs]:=by unfold mk;rw[if_neg h]
theorem Nz{z:Int}(h:Rb50Neutral.whole32 z=true): -2147483648≤z∧z<2147483648:=by
 unfold Rb50Neutral.whole32 at h
 simp only[Bool.and_eq_true,decide_eq_true_eq]at h
 lia
theorem n32{z:Int}(h:Rb50Neutral.natural z 32=true):∃n:Nat,z=n∧n<4294967296:=by
 unfold Rb50Neutral.natural at h
 simp only[Bool.and_eq_true,decide_eq_true_eq]at h
 exact⟨z.toNat,by lia,by lia⟩
theorem n64{z:Int}(h:Rb50Neutral.natural z 64=true):∃n:Nat,z=n∧n<2^64:=by
 unfold Rb50Neutral.natural at h
 simp only[Bool.and_eq_true,decide_eq_true_eq]at h
 exact⟨z.toNat,by lia,by lia⟩
theorem tO{a b:Bool}(h:(a&&b)=true):a=true∧b=true:=by cases a<;>cases b<;>simp_all
theorem rW(m:Int):far m=true↔¬(-1152921504606846976≤m∧m≤1152921504606846976):=by
 unfold far within
 simp only[Bool.not_eq_true',Bool.and_eq_false_iff,decide_eq_false_iff_not]
 lia
theorem L8{m:Int}(h: -1152921504606846976≤m∧m≤1152921504606846976):far m=false:=by
 cases e:far m
 ·rfl
 ·exact absurd h ((rW m).mp e)
theorem Eo{m:Int}(h:¬(-1152921504606846976≤m∧m≤1152921504606846976)):far m=true:=(rW m).mpr h
theorem gQ(z lo hi:Int):within z lo hi=true↔lo≤z∧z≤hi:=by
 unfold within
 simp only[Bool.and_eq_true,decide_eq_true_eq]
theorem eg{z lo hi:Int}:within z lo hi=false↔¬(lo≤z∧z≤hi):=by
 rw[←gQ]
 cases within z lo hi<;>simp
theorem FW(l:List Nat):Rb50Neutral.ints l=l.map fun(x:Nat)=>(x:Int):=rfl
theorem AW(h:Harbour)(m:Int):stp (some h) [[0,m]]=if -1000000000≤m∧m≤1000000000 then(some {mean:=m},[0])else(some h,[-3]):=by
 show(let y:=(if within m (-1000000000) 1000000000=true then(some ({mean:=m}:Harbour),(⟨0,[],[]⟩:Ans))else refuse (some h) (-3));(y.1,y.2.value::Rb50Neutral.ints (y.2.out++y.2.out2)))=_
 by_cases c: -1000000000≤m∧m≤1000000000
 ·rw[if_pos c,if_pos ((gQ _ _ _).mpr c)];rfl
 ·rw[if_neg c,if_neg (by rw[gQ];exact c)];rfl
theorem EV(m:Int):stp none [[0,m]]=if -1000000000≤m∧m≤1000000000 then(some {mean:=m},[0])else(none,[-3]):=by
 show(let y:=(if within m (-1000000000) 1000000000=true then(some ({mean:=m}:Harbour),(⟨0,[],[]⟩:Ans))else refuse none (-3));(y.1,y.2.value::Rb50Neutral.ints (y.2.out++y.2.out2)))=_
 by_cases c: -1000000000≤m∧m≤1000000000
 ·rw[if_pos c,if_pos ((gQ _ _ _).mpr c)];rfl
 ·rw[if_neg c,if_neg (by rw[gQ];exact c)];rfl
theorem Jv(h:Harbour)(l:List Int)(hl:l.length=10):stp (some h) [[1],l]=match undecimal (Rb50Neutral.nats l)with
  |none=>(some h,[-3])
  |some z=>if -100000000≤z∧z≤100000000 then(some {h with mean:=10*z},[0])else(some h,[-3]):=by
 have e:Rb50Neutral.callOf [[1],l]=some (.mark (Rb50Neutral.nats l)):=by
  show(if l.length=10 then some (Call.mark (Rb50Neutral.nats l))else none)=_
  rw[if_pos hl]
 unfold stp Rb50Neutral.step
 rw[e]
 show(let y:=(match undecimal (Rb50Neutral.nats l)with
  |none=>refuse (some h) (-3)
  |some z=>if within z (-100000000) 100000000=true then(some {h with mean:=10*z},(⟨0,[],[]⟩:Ans))else refuse (some h) (-3));(y.1,y.2.value::Rb50Neutral.ints (y.2.out++y.2.out2)))=_
 cases undecimal (Rb50Neutral.nats l)with
 |none=>rfl
 |some z=>
  simp only
  by_cases c: -100000000≤z∧z≤100000000
  ·rw[if_pos c,if_pos ((gQ _ _ _).mpr c)];rfl
  ·rw[if_neg c,if_neg (by rw[gQ];exact c)];rfl
theorem Js(h:Harbour)(g:Int)(f p s:Nat)(hf:f<4294967296):stp (some h) [[2,g,f,p,s]]=if ¬f%2147483648≤1098907648 then(some h,[-3])else if 64≤h.waves.length then(some h,[-1])else(some {h with waves:=h.waves++[⟨g,f,p,s⟩]},[(h.waves.length:Int)]):=by
 show(let y:=(if finite SINGLE f=false∨below SINGLE (power SINGLE 4) (size SINGLE f)=true then refuse (some h) (-3)else if WAVES≤h.waves.length then refuse (some h) (-1)else(some {h with waves:=h.waves++[⟨g,f,p,s⟩]},(⟨(h.waves.length:Int),[],[]⟩:Ans)));(y.1,y.2.value::Rb50Neutral.ints (y.2.out++y.2.out2)))=_
 have e:=F1 hf
 by_cases c:¬f%2147483648≤1098907648
 ·rw[if_pos c,if_pos (e.mpr c)];rfl
 ·rw[if_neg c,if_neg (fun z=>c (e.mp z))]
  by_cases c2:64≤h.waves.length
  ·rw[if_pos c2,if_pos (show WAVES≤h.waves.length from c2)];rfl
  ·rw[if_neg c2,if_neg (show ¬WAVES≤h.waves.length from c2)];rfl
theorem GP(h:Harbour)(g b f:Int):stp (some h) [[3,g,b,f]]=if ¬(-1152921504606846976≤b∧b≤1152921504606846976)∨f<1 then(some h,[-2])else(some {h with surge:=some ⟨g,b,f.toNat⟩},[0]):=by
 show(let y:=(if f<1∨far b=true then refuse (some h) (-2)else(some {h with surge:=some ⟨g,b,f.toNat⟩},(⟨0,[],[]⟩:Ans)));(y.1,y.2.value::Rb50Neutral.ints (y.2.out++y.2.out2)))=_
 have e:=rW b
 by_cases c:¬(-1152921504606846976≤b∧b≤1152921504606846976)∨f<1
 ·rw[if_pos c,if_pos (by rcases c with c|c;exact .inr (e.mpr c);exact .inl c)];rfl
 ·rw[if_neg c,if_neg (by rintro(z|z);exact c (.inr z);exact c (.inl (e.mp z)))];rfl
section
variable{h:Harbour}{m:Int}(hm:far m=false)
include hm
theorem ET:stp (some h) [[4,m]]=(some h,[0,(tenBytes (metres (height h m)):Int)]):=by
 show(let y:=(if far m=true then refuse (some h) (-2)else tell (some h) 0 [tenBytes (metres (height h m))] []);(y.1,y.2.value::Rb50Neutral.ints (y.2.out++y.2.out2)))=_
 rw[if_neg (by rw[hm];decide)];rfl
theorem EU:stp (some h) [[5,m]]=(some h,[0,(other EXT DOUBLE (metres (height h m)):Int)]):=by
 show(let y:=(if far m=true then refuse (some h) (-2)else tell (some h) 0 [other EXT DOUBLE (metres (height h m))] []);(y.1,y.2.value::Rb50Neutral.ints (y.2.out++y.2.out2)))=_
 rw[if_neg (by rw[hm];decide)];rfl
theorem MC:stp (some h) [[7,m]]=(some h,[0,nearest (millimetres (height h m))%18446744073709551616]):=by
 show(let y:=(if far m=true then refuse (some h) (-2)else tell (some h) 0 [bitsOf 64 (nearest (millimetres (height h m)))] []);(y.1,y.2.value::Rb50Neutral.ints (y.2.out++y.2.out2)))=_
 rw[if_neg (by rw[hm];decide)]
 show(some h,[0,((bitsOf 64 (nearest (millimetres (height h m))):Nat):Int)])=_
 unfold bitsOf
 rw[Int.toNat_of_nonneg (Int.emod_nonneg _ (by decide))]
 rfl
theorem GR:stp (some h) [[8,m]]=(some h,[0,Rb50.floor (millimetres (height h m))%18446744073709551616]):=by
 show(let y:=(if far m=true then refuse (some h) (-2)else tell (some h) 0 [bitsOf 64 (Rb50.floor (millimetres (height h m)))] []);(y.1,y.2.value::Rb50Neutral.ints (y.2.out++y.2.out2)))=_
 rw[if_neg (by rw[hm];decide)]
 show(some h,[0,((bitsOf 64 (Rb50.floor (millimetres (height h m))):Nat):Int)])=_
 unfold bitsOf
 rw[Int.toNat_of_nonneg (Int.emod_nonneg _ (by decide))]
 rfl
theorem Cj:stp (some h) [[9,m]]=(some h,0::(decimal (nearest (millimetres (height h m)))).map fun(x:Nat)=>(x:Int)):=by
 show(let y:=(if far m=true then refuse (some h) (-2)else tell (some h) 0 (decimal (nearest (millimetres (height h m)))) []);(y.1,y.2.value::Rb50Neutral.ints (y.2.out++y.2.out2)))=_
 rw[if_neg (by rw[hm];decide)]
 show(some h,0::Rb50Neutral.ints (decimal (nearest (millimetres (height h m)))++[]))=_
 rw[List.append_nil];rfl
theorem Ju:stp (some h) [[10,m]]=(some h,((text (nearest (millimetres (height h m)))).length:Int)::(text (nearest (millimetres (height h m)))).map fun(x:Nat)=>(x:Int)):=by
 show(let y:=(if far m=true then refuse (some h) (-2)else tell (some h) ((text (nearest (millimetres (height h m)))).length:Int) (text (nearest (millimetres (height h m)))) []);(y.1,y.2.value::Rb50Neutral.ints (y.2.out++y.2.out2)))=_
 rw[if_neg (by rw[hm];decide)]
 show(some h,_::Rb50Neutral.ints (text (nearest (millimetres (height h m)))++[]))=_
 rw[List.append_nil];rfl
theorem GQ(n:Int):stp (some h) [[11,m,n]]=if ¬(1≤n∧n≤10000)then(some h,[-2])else
  let x:=extremes ((List.range n.toNat).map fun(k:Nat)=>height h (m+(k:Int)))
  (some h,[0,(tenBytes (metres x.1.1):Int),(tenBytes (metres x.2.1):Int),(x.1.2:Int),(x.2.2:Int)]):=by
 show(let y:=(if far m=true∨within n 1 10000=false then refuse (some h) (-2)else(let x:=extremes ((List.range n.toNat).map fun(k:Nat)=>height h (m+(k:Int)));tell (some h) 0 [tenBytes (metres x.1.1),tenBytes (metres x.2.1)] [x.1.2,x.2.2]));(y.1,y.2.value::Rb50Neutral.ints (y.2.out++y.2.out2)))=_
 by_cases c:¬(1≤n∧n≤10000)
 ·rw[if_pos c,if_pos (.inr (eg.mpr c))];rfl
 ·rw[if_neg c,if_neg (by rw[hm,eg];rintro(z|z);cases z;exact c z)];rfl
theorem Lu(n:Int):stp (some h) [[12,m,n]]=if ¬(0≤n∧n≤10000)then(some h,[-2])else(some h,0::(row h m n.toNat).map fun(x:Nat)=>(x:Int)):=by
 show(let y:=(if far m=true∨within n 0 10000=false then refuse (some h) (-2)else tell (some h) 0 (row h m n.toNat) []);(y.1,y.2.value::Rb50Neutral.ints (y.2.out++y.2.out2)))=_
 by_cases c:¬(0≤n∧n≤10000)
 ·rw[if_pos c,if_pos (.inr (eg.mpr c))];rfl
 ·rw[if_neg c,if_neg (by rw[hm,eg];rintro(z|z);cases z;exact c z)]
  show(some h,0::Rb50Neutral.ints (row h m n.toNat++[]))=_
  rw[List.append_nil];rfl
theorem GN(n r:Int):stp (some h) [[13,m,n,r]]=if ¬(0≤n∧n≤10000)∨¬(0≤r∧r≤10000)then(some h,[-2])else
  (some h,((turnings (row h m n.toNat)).length:Int)::(((turnings (row h m n.toNat)).take r.toNat).map (fun(x:Int×F)=>x.1%4294967296)++((turnings (row h m n.toNat)).take r.toNat).map fun(x:Int×F)=>((x.2:Nat):Int))):=by
 show(let y:=(if far m=true∨within n 0 10000=false∨within r 0 10000=false then refuse (some h) (-2)else(let l:=turnings (row h m n.toNat);let t:=l.take r.toNat;tell (some h) (l.length:Int) (t.map fun(x:Int×F)=>bitsOf 32 x.1) (t.map fun(x:Int×F)=>x.2)));(y.1,y.2.value::Rb50Neutral.ints (y.2.out++y.2.out2)))=_
 by_cases c:¬(0≤n∧n≤10000)∨¬(0≤r∧r≤10000)
 ·rw[if_pos c,if_pos (.inr (by rw[eg,eg];exact c))];rfl
 ·rw[if_neg c,if_neg (by rw[hm,eg,eg];rintro(z|z);cases z;exact c z)]
  show(some h,_::Rb50Neutral.ints (((turnings (row h m n.toNat)).take r.toNat).map (fun(x:Int×F)=>bitsOf 32 x.1)++((turnings (row h m n.toNat)).take r.toNat).map fun(x:Int×F)=>x.2))=_
  rw[FW,List.map_append,List.map_map,List.map_map]
  congr 3
  apply List.map_congr_left
  intro x _
  show((bitsOf 32 x.1:Nat):Int)=_
  unfold bitsOf
  rw[Int.toNat_of_nonneg (Int.emod_nonneg _ (by decide))]
  rfl
theorem Jt:stp (some h) [[16,m]]=(some {h with now:=m},[0]):=by
 show(let y:=(if far m=true then refuse (some h) (-2)else(some {h with now:=m},(⟨0,[],[]⟩:Ans)));(y.1,y.2.value::Rb50Neutral.ints (y.2.out++y.2.out2)))=_
 rw[if_neg (by rw[hm];decide)];rfl
end
theorem Lw{h:Harbour}{n m:Int}{r:List Int}(hm:far m=true)(hn:n=4∧r=[]∨n=5∧r=[]∨n=7∧r=[]∨n=8∧r=[]∨n=9∧r=[]∨n=10∧r=[]∨n=16∧r=[]∨n=11∧r.length=1∨n=12∧r.length=1∨n=13∧r.length=2):stp (some h) [n::m::r]=(some h,[-2]):=by
 rcases hn with⟨rfl,rfl⟩|⟨rfl,rfl⟩|⟨rfl,rfl⟩|⟨rfl,rfl⟩|⟨rfl,rfl⟩|⟨rfl,rfl⟩|⟨rfl,rfl⟩|⟨rfl,hr⟩|⟨rfl,hr⟩|⟨rfl,hr⟩
 ·show(let y:=(if far m=true then refuse (some h) (-2)else _);(y.1,y.2.value::Rb50Neutral.ints (y.2.out++y.2.out2)))=_
  rw[if_pos hm];rfl
 ·show(let y:=(if far m=true then refuse (some h) (-2)else _);(y.1,y.2.value::Rb50Neutral.ints (y.2.out++y.2.out2)))=_
  rw[if_pos hm];rfl
 ·show(let y:=(if far m=true then refuse (some h) (-2)else _);(y.1,y.2.value::Rb50Neutral.ints (y.2.out++y.2.out2)))=_
  rw[if_pos hm];rfl
 ·show(let y:=(if far m=true then refuse (some h) (-2)else _);(y.1,y.2.value::Rb50Neutral.ints (y.2.out++y.2.out2)))=_
  rw[if_pos hm];rfl
 ·show(let y:=(if far m=true then refuse (some h) (-2)else _);(y.1,y.2.value::Rb50Neutral.ints (y.2.out++y.2.out2)))=_
  rw[if_pos hm];rfl
 ·show(let y:=(if far m=true then refuse (some h) (-2)else _);(y.1,y.2.value::Rb50Neutral.ints (y.2.out++y.2.out2)))=_
  rw[if_pos hm];rfl
 ·show(let y:=(if far m=true then refuse (some h) (-2)else _);(y.1,y.2.value::Rb50Neutral.ints (y.2.out++y.2.out2)))=_
  rw[if_pos hm];rfl
 ·obtain⟨a,rfl⟩:∃a,r=[a]:=List.length_eq_one_iff.mp hr
  show(let y:=(if far m=true∨_ then refuse (some h) (-2)else _);(y.1,y.2.value::Rb50Neutral.ints (y.2.out++y.2.out2)))=_
  rw[if_pos (.inl hm)];rfl
 ·obtain⟨a,rfl⟩:∃a,r=[a]:=List.length_eq_one_iff.mp hr
  show(let y:=(if far m=true∨_ then refuse (some h) (-2)else _);(y.1,y.2.value::Rb50Neutral.ints (y.2.out++y.2.out2)))=_
  rw[if_pos (.inl hm)];rfl
 ·obtain⟨a,b,rfl⟩:∃a b,r=[a,b]:=by
   match r,hr with
   |[a,b],_=>exact⟨a,b,rfl⟩
  show(let y:=(if far m=true∨_ then refuse (some h) (-2)else _);(y.1,y.2.value::Rb50Neutral.ints (y.2.out++y.2.out2)))=_
  rw[if_pos (.inl hm)];rfl
theorem Jx(h:Harbour)(a s i n:Nat):stp (some h) [[14,a,s,i,n]]=if lockOk a s i n=false then(some h,[-3])else if 16≤h.locks.length then(some h,[-1])else(some {h with locks:=h.locks++[⟨a,s,i,n,n,0⟩]},[(h.locks.length:Int)]):=by
 show(let y:=(if lockOk a s i n=false then refuse (some h) (-3)else if LOCKS≤h.locks.length then refuse (some h) (-1)else(some {h with locks:=h.locks++[⟨a,s,i,n,n,0⟩]},(⟨(h.locks.length:Int),[],[]⟩:Ans)));(y.1,y.2.value::Rb50Neutral.ints (y.2.out++y.2.out2)))=_
 by_cases c:lockOk a s i n=false
 ·rw[if_pos c,if_pos c];rfl
 ·rw[if_neg c,if_neg c]
  by_cases c2:16≤h.locks.length
  ·rw[if_pos c2,if_pos (show LOCKS≤h.locks.length from c2)];rfl
  ·rw[if_neg c2,if_neg (show ¬LOCKS≤h.locks.length from c2)];rfl
theorem pC{h:Harbour}{i:Int}(c:¬(0≤i∧i<h.locks.length)):lockAt h i=none:=by
 unfold lockAt
 by_cases z:i<0
 ·rw[if_pos z]
 ·rw[if_neg z]
  exact List.getElem?_eq_none (by lia)
theorem mz{h:Harbour}{k:Nat}{l:Lock}(e:h.locks[k]?=some l):lockAt h (k:Int)=some l:=by
 unfold lockAt
 rw[if_neg (by lia)]
 exact e
theorem qe{h:Harbour}{i w:Int}(c:¬(0≤i∧i<h.locks.length)∨¬(0≤w∧w≤4)):stp (some h) [[15,i,w]]=(some h,[-2]):=by
 show(let y:=(match lockAt h i with
  |none=>refuse (some h) (-2)
  |some l=>if within w 0 4=false then refuse (some h) (-2)else(match told (sea h h.now) l w.toNat with
   |none=>refuse (some h) (-4)
   |some k=>(some {h with locks:=h.locks.set i.toNat k},(⟨0,[],[]⟩:Ans))));(y.1,y.2.value::Rb50Neutral.ints (y.2.out++y.2.out2)))=_
 by_cases c1:0≤i∧i<h.locks.length
 ·have c2:¬(0≤w∧w≤4):=by rcases c with c|c;exact absurd c1 c;exact c
  cases lockAt h i with
  |none=>rfl
  |some l=>
   simp only
   rw[if_pos (eg.mpr c2)];rfl
 ·rw[pC c1];rfl
theorem Jq{h:Harbour}{i:Nat}{l:Lock}{w:Nat}(e:h.locks[i]?=some l)(hw:w≤4):stp (some h) [[15,(i:Int),(w:Int)]]=match told (sea h h.now) l w with
  |none=>(some h,[-4])
  |some k=>(some {h with locks:=h.locks.set i k},[0]):=by
 show(let y:=(match lockAt h i with
  |none=>refuse (some h) (-2)
  |some l=>if within w 0 4=false then refuse (some h) (-2)else(match told (sea h h.now) l (w:Int).toNat with
   |none=>refuse (some h) (-4)
   |some k=>(some {h with locks:=h.locks.set (i:Int).toNat k},(⟨0,[],[]⟩:Ans))));(y.1,y.2.value::Rb50Neutral.ints (y.2.out++y.2.out2)))=_
 rw[mz e]
 simp only
 rw[if_neg (by rw[eg];lia),Int.toNat_natCast,Int.toNat_natCast]
 cases told (sea h h.now) l w<;>rfl
theorem Ls(h:Harbour)(n:Int):stp (some h) [[17,n]]=if ¬(0≤n∧n≤10000)∨¬(-1152921504606846976≤h.now+n∧h.now+n≤1152921504606846976)then(some h,[-2])else(some (minutes n.toNat h),[0]):=by
 show(let y:=(if within n 0 10000=false∨far (h.now+n)=true then refuse (some h) (-2)else(some (minutes n.toNat h),(⟨0,[],[]⟩:Ans)));(y.1,y.2.value::Rb50Neutral.ints (y.2.out++y.2.out2)))=_
 by_cases c:¬(0≤n∧n≤10000)∨¬(-1152921504606846976≤h.now+n∧h.now+n≤1152921504606846976)
 ·rw[if_pos c,if_pos (by rw[eg,rW];exact c)];rfl
 ·rw[if_neg c,if_neg (by rw[eg,rW];exact c)];rfl
theorem ES{h:Harbour}{i:Int}{d:Nat}(c:¬(0≤i∧i<h.locks.length)):stp (some h) [[18,i,(d:Int)]]=(some h,[-2]):=by
 show(let y:=(match lockAt h i with
  |none=>refuse (some h) (-2)
  |some l=>if shipOk d=false then refuse (some h) (-3)else tell (some h) (if deep l.level l.sill d=true then 1 else 0) [] []);(y.1,y.2.value::Rb50Neutral.ints (y.2.out++y.2.out2)))=_
 rw[pC c];rfl
theorem Lv{h:Harbour}{i:Nat}{l:Lock}{d:Nat}(e:h.locks[i]?=some l):stp (some h) [[18,(i:Int),(d:Int)]]=if shipOk d=false then(some h,[-3])else(some h,[if deep l.level l.sill d=true then 1 else 0]):=by
 show(let y:=(match lockAt h i with
  |none=>refuse (some h) (-2)
  |some l=>if shipOk d=false then refuse (some h) (-3)else tell (some h) (if deep l.level l.sill d=true then 1 else 0) [] []);(y.1,y.2.value::Rb50Neutral.ints (y.2.out++y.2.out2)))=_
 rw[mz e]
 simp only
 by_cases c:shipOk d=false
 ·rw[if_pos c,if_pos c];rfl
 ·rw[if_neg c,if_neg c];rfl
theorem Ci{h:Harbour}{i:Int}(c:¬(0≤i∧i<h.locks.length)):stp (some h) [[19,i]]=(some h,[-2]):=by
 show(let y:=(match lockAt h i with
  |none=>refuse (some h) (-2)
  |some l=>tell (some h) (l.open_:Int) [l.level,sea h h.now,l.inner,sLess l.level l.sill] []);(y.1,y.2.value::Rb50Neutral.ints (y.2.out++y.2.out2)))=_
 rw[pC c];rfl
theorem Jw{h:Harbour}{i:Nat}{l:Lock}(e:h.locks[i]?=some l):stp (some h) [[19,(i:Int)]]=(some h,[(l.open_:Int),(l.level:Int),(sea h h.now:Int),(l.inner:Int),(sLess l.level l.sill:Int)]):=by
 show(let y:=(match lockAt h i with
  |none=>refuse (some h) (-2)
  |some l=>tell (some h) (l.open_:Int) [l.level,sea h h.now,l.inner,sLess l.level l.sill] []);(y.1,y.2.value::Rb50Neutral.ints (y.2.out++y.2.out2)))=_
 rw[mz e];rfl
theorem vm{h:Harbour}{i n:Int}{d:Nat}(c:¬(0≤i∧i<h.locks.length)∨¬(0≤n∧n≤10000)):stp (some h) [[20,i,(d:Int),n]]=(some h,[-2]):=by
 show(let y:=(match lockAt h i with
  |none=>refuse (some h) (-2)
  |some l=>if within n 0 10000=false then refuse (some h) (-2)else if shipOk d=false then refuse (some h) (-3)else tell (some h) (firstOf (fun(k:Nat)=>deep (sea h (h.now+(k:Int))) l.sill d) n.toNat:Int) [] []);(y.1,y.2.value::Rb50Neutral.ints (y.2.out++y.2.out2)))=_
 by_cases c1:0≤i∧i<h.locks.length
 ·have c2:¬(0≤n∧n≤10000):=by rcases c with c|c;exact absurd c1 c;exact c
  cases lockAt h i with
  |none=>rfl
  |some l=>
   simp only
   rw[if_pos (eg.mpr c2)];rfl
 ·rw[pC c1];rfl
theorem Jr{h:Harbour}{i:Nat}{l:Lock}{d n:Nat}(e:h.locks[i]?=some l)(hn:n≤10000):stp (some h) [[20,(i:Int),(d:Int),(n:Int)]]=if shipOk d=false then(some h,[-3])else(some h,[(firstOf (fun(k:Nat)=>deep (sea h (h.now+(k:Int))) l.sill d) n:Int)]):=by
 show(let y:=(match lockAt h i with
  |none=>refuse (some h) (-2)
  |some l=>if within (n:Int) 0 10000=false then refuse (some h) (-2)else if shipOk d=false then refuse (some h) (-3)else tell (some h) (firstOf (fun(k:Nat)=>deep (sea h (h.now+(k:Int))) l.sill d) (n:Int).toNat:Int) [] []);(y.1,y.2.value::Rb50Neutral.ints (y.2.out++y.2.out2)))=_
 rw[mz e]
 simp only
 rw[if_neg (by rw[eg];lia),Int.toNat_natCast]
 by_cases c:shipOk d=false
 ·rw[if_pos c,if_pos c];rfl
 ·rw[if_neg c,if_neg c];rfl
end TM
end
noncomputable section
namespace TM
open Rb50
theorem wX{h:Harbour}{l:Lock}(f:eW l)(t:Int)(n:Nat):eW (eZ h t n l):=by
 obtain⟨e1,e2,e3,e4,e5⟩:=iK h n t l
 exact⟨by rw[e2];exact f.la,by rw[e3];exact f.ls,by rw[e4];exact f.li,by rw[e5];exact f.ln,by rw[e2,e3,e4,e5];exact f.ok,by rw[e1];exact f.op⟩
theorem Ih(h:Harbour){l:Lock}(t:Int)(n:Nat)(e:l.open_=1):eZ h t (n+1) l={eZ h t n l with level:=toward (sea h (t+1+n)) (eZ h t n l).level (eZ h t n l).sluice (eZ h t n l).area}:=by
 rw[jI]
 obtain⟨e1,_⟩:=iK h n t l
 have et:t+n+1=t+1+n:=by lia
 rw[et]
 generalize eZ h t n l=L at*
 obtain⟨xa,xs,xi,xn,xl,xo⟩:=L
 simp only at e1
 rw[e]at e1
 subst e1
 rfl
theorem Ig(h:Harbour){l:Lock}(t:Int)(n:Nat)(e:l.open_=2):eZ h t (n+1) l={eZ h t n l with level:=toward (eZ h t n l).inner (eZ h t n l).level (eZ h t n l).sluice (eZ h t n l).area}:=by
 rw[jI]
 obtain⟨e1,_⟩:=iK h n t l
 generalize eZ h t n l=L at*
 obtain⟨xa,xs,xi,xn,xl,xo⟩:=L
 simp only at e1
 rw[e]at e1
 subst e1
 rfl
theorem C6(h:Harbour){l:Lock}(t:Int){n:Nat}(hn:0<n)(e:l.open_=3):eZ h t n l={l with level:=sea h (t+n)}:=by
 obtain⟨k,rfl⟩:∃k,n=k+1:=⟨n - 1,by lia⟩
 rw[jI]
 obtain⟨e1,e2,e3,e4,e5⟩:=iK h k t l
 have et:t+k+1=t+(k+1:Nat):=by lia
 rw[et]
 generalize eZ h t k l=L at*
 obtain⟨xa,xs,xi,xn,xl,xo⟩:=L
 simp only at e1 e2 e3 e4 e5
 subst e1 e2 e3 e4 e5
 unfold worked
 simp only[e]
theorem FI(h:Harbour){l:Lock}(t:Int){n:Nat}(hn:0<n)(e:l.open_=4):eZ h t n l={l with level:=l.inner}:=by
 obtain⟨k,rfl⟩:∃k,n=k+1:=⟨n - 1,by lia⟩
 rw[jI]
 obtain⟨e1,e2,e3,e4,e5⟩:=iK h k t l
 generalize eZ h t k l=L at*
 obtain⟨xa,xs,xi,xn,xl,xo⟩:=L
 simp only at e1 e2 e3 e4 e5
 subst e1 e2 e3 e4 e5
 unfold worked
 simp only[e]
theorem FH(h:Harbour){l:Lock}(t:Int)(n:Nat)(e:l.open_=0):eZ h t n l=l:=by
 induction n with
 |zero=>rfl
 |succ n ih=>
  rw[jI,ih]
  unfold worked
  simp only[e]
def mix{α:Type}(f:α→α)(L:List α)(i:Nat):List α:=(L.take i).map f++L.drop i
theorem BG{α:Type}(f:α→α)(L:List α):mix f L 0=L:=by simp[mix]
theorem D8{α:Type}(f:α→α)(L:List α):mix f L L.length=L.map f:=by simp[mix]
theorem D7{α:Type}{f:α→α}{L:List α}{i:Nat}{l:α}(h:L[i]?=some l):(mix f L i)[i]?=some l:=by
 have hi:i<L.length:=(List.getElem?_eq_some_iff.mp h).1
 unfold mix
 rw[List.getElem?_append_right (by rw[List.length_map,List.length_take];lia),List.length_map,List.length_take,Nat.min_eq_left (Nat.le_of_lt hi),Nat.sub_self,List.getElem?_drop,Nat.add_zero]
 exact h
theorem BH{α:Type}{f:α→α}{L:List α}{i:Nat}{l:α}(h:L[i]?=some l):(mix f L i).set i (f l)=mix f L (i+1):=by
 have hi:i<L.length:=(List.getElem?_eq_some_iff.mp h).1
 have hl:L[i]=l:=(List.getElem?_eq_some_iff.mp h).2
 unfold mix
 rw[List.set_append_right _ _ (by rw[List.length_map,List.length_take];lia),List.length_map,List.length_take,Nat.min_eq_left (Nat.le_of_lt hi),Nat.sub_self,List.take_succ,h]
 rw[List.drop_eq_getElem_cons hi,List.set_cons_zero,List.map_append]
 simp
end TM
end
noncomputable section
namespace TM
open Rb50
theorem IQ{k:Kind}{a:Num}{c:Int}(o:Ok k a c):Eqv a.w a.p (dR k a).w (dR k a).p∧(dR k a).s=a.s∧(dR k a).w≤2^(k.frac+1)∧k.least≤(dR k a).p∧(dR k a).p≤a.p+1:=by
 have hw:=o.w
 have hlo:=o.lo
 unfold dR bX
 by_cases ho:over k a.w a.p≤0
 ·rw[if_pos ho]
  exact⟨Eqv.refl _ _,rfl,hw,hlo,by show a.p≤a.p+1;lia⟩
 ·rw[if_neg ho]
  have hb:k.frac+1<bl a.w:=by unfold over at ho;omega
  have h0:a.w≠0:=by intro z;rw[z]at hb;simp[bl]at hb
  have h1:=(xE h0).1
  have h2:2^(k.frac+1)≤a.w:=Nat.le_trans (Nat.pow_le_pow_right (by decide) (by lia)) h1
  have h3:a.w=2^(k.frac+1):=by lia
  have h4:bl a.w=k.frac+2:=by
   have:bl a.w≤k.frac+2:=dB (by rw[h3];exact Nat.pow_lt_pow_right (by decide) (by lia))
   lia
  have h5:over k a.w a.p=1:=by unfold over;lia
  rw[h5,h3]
  have e:(2:Nat)^(k.frac+1)=2^k.frac*2^1:=by rw[←Nat.pow_add]
  have hc:cut (2^(k.frac+1)) (1:Int).toNat false=2^k.frac:=by
   rw[e]
   have:=lV (m:=2^k.frac) (d:=1) (j:=1) (Nat.le_refl _) (by decide)
   rw[Nat.sub_self,Nat.pow_zero,Nat.mul_one]at this
   exact this
  simp only[hc]
  refine⟨?_,trivial,?_,by lia,Int.le_refl _⟩
  ·have:=Eqv.shift (2^k.frac) (a.p+1) 1
   rw[←e]at this
   have e2:a.p+1 - ((1:Nat):Int)=a.p:=by lia
   rw[e2]at this
   exact this
  ·exact Nat.pow_le_pow_right (by decide) (by lia)
theorem iL{k:Kind}{a:Num}{x:F}{c:Int}(r:Rep k a x)(o:Ok k a c):Rep k (dR k a) x∧Ok k (dR k a) (c+1):=by
 obtain⟨e1,e2,e3,e4,e5⟩:=IQ o
 have:=o.hi
 exact⟨⟨by rw[e2];exact r.sg,e1.symm.trans r.eqv,r.lt,r.fin⟩,⟨e3,e4,by lia,(gT.eqv e1 o.le).mono (by lia)⟩⟩
theorem m7{a:Num}{x:F}{c:Int}(r:Rep SINGLE a x)(o:Ok SINGLE a c):rJ SINGLE 23 31 (dR SINGLE a)=x:=by
 obtain⟨r2,o2⟩:=iL r o
 exact Ez r2 o2
theorem AL{a:Num}{x:F}{c:Int}(r:Rep EXT a x)(o:Ok EXT a c):rJ EXT 64 79 (dR EXT a)=tenBytes x:=by
 obtain⟨r2,o2⟩:=iL r o
 exact Ln r2 o2
theorem BS{a:Num}{x:F}{c:Int}(r:Rep EXT a x)(o:Ok EXT a c)(h1: -1074≤c)(h2:c<1024):rJ DOUBLE 52 63 (dR DOUBLE a)=other EXT DOUBLE x∧Ok DOUBLE (dR DOUBLE a) c:=by
 obtain⟨r2,o2⟩:=jY BP r o h1 h2
 exact⟨Ez r2 o2,o2⟩
end TM
end
noncomputable section
namespace TM
open Rb50
theorem Me{m d n:Nat}(h:m<2^n):cut m d false<2^(n+1):=by
 unfold cut
 have h1:m / 2^d≤m:=Nat.div_le_self _ _
 have h2:2^(n+1)=2*2^n:=by rw[Nat.pow_succ];lia
 rw[h2]
 split<;>lia
theorem Ka{a:Num}{x:F}(r:Rep EXT a x)(o:Ok EXT a 110):(nearest x).natAbs<2^200:=by
 rw[wO r o.lo]
 unfold wk
 have hw:a.w≤2^64:=o.w
 have hw2:a.w<2^65:=Nat.lt_of_le_of_lt hw (by decide)
 by_cases c:0≤a.p
 ·rw[if_pos c]
  unfold j8
  rw[Int.natAbs_mul,jx,Int.natAbs_natCast,Int.natAbs_pow]
  have hp:a.p.toNat≤110:=by have:=o.hi;lia
  have h2:(2:Int).natAbs^a.p.toNat≤2^110:=Nat.pow_le_pow_right (by decide) hp
  have:a.w*(2:Int).natAbs^a.p.toNat≤2^65*2^110:=Nat.mul_le_mul (Nat.le_of_lt hw2) h2
  exact Nat.lt_of_le_of_lt this (by decide)
 ·rw[if_neg c,jx,Int.natAbs_natCast]
  exact Nat.lt_of_lt_of_le (Me hw2) (by decide)
theorem BU(z:Int):(decimal z).length=10:=by
 unfold decimal
 simp
theorem Jk(x:F)(l:Lock)(w:Nat)(hw:w≤4)(ho:l.open_≤4):told x l w=if(if w=0 then true else if w=1∨w=2 then !decide (l.open_=3∨l.open_=4)else if(l.open_=3∨l.open_=4)∧l.open_≠w then false else !apart (if w=3 then x else l.inner) l.level)=true
  then some {l with open_:=w,level:=if w=3∨w=4 then(if w=3 then x else l.inner)else l.level}else none:=by
 have h:w=0∨w=1∨w=2∨w=3∨w=4:=by lia
 have ho2:(l.open_=3∨l.open_=4)↔3≤l.open_:=by lia
 rcases h with rfl|rfl|rfl|rfl|rfl
 ·rfl
 ·by_cases c:l.open_=3∨l.open_=4
  ·simp[told,c]
   lia
  ·simp[told,c]
   lia
 ·by_cases c:l.open_=3∨l.open_=4
  ·simp[told,c]
   lia
  ·simp[told,c]
   lia
 ·have e:((l.open_=3∨l.open_=4)∧l.open_≠3)↔l.open_=4:=by lia
  simp only[e]
  by_cases c:l.open_=4
  ·simp[told,c]
  ·cases hap:apart x l.level<;>simp[told,c,hap]
 ·have e:((l.open_=3∨l.open_=4)∧l.open_≠4)↔l.open_=3:=by lia
  simp only[e]
  by_cases c:l.open_=3
  ·simp[told,c]
  ·cases hap:apart l.inner l.level<;>simp[told,c,hap]
theorem DQ(h:Harbour)(m:Int)(n:Nat):(row h m n).length=n:=by
 have aux:∀(x:F) (n:Nat) (l:List Hand),(rowOf x n l).length=n:=by
  intro x n
  induction n with
  |zero=>intro l;rfl
  |succ n ih=>intro l;show(rowOf x n (l.map turned)).length+1=n+1;rw[ih]
 exact aux _ _ _
end TM
end
noncomputable section
namespace TB
open PySem PySem.Spec PyProof.Rows L2
section
variable{X:Cx}
def Od(i j:Int):Prop:=0≤j∧j≤100000∧i.natAbs<2^100000
theorem Ar{i:Int}{m:Nat}(h:i.natAbs<2^m):Builtin.Int.intBits i≤m:=intBits_le_iff.mpr h
theorem fc:sj X (binaryOp .LShift) (rI Od fun i j=>.int (i*2^j.toNat)):=MI fun _ _ _ _ _ _ _ hc q=>lshift_int hc.1 (by have:=Ar hc.2.2;have:=hc.2.1;lia) q
def Ni(i j:Int):Prop:=i.natAbs<2^100000∧j.natAbs<2^100000
theorem gm:sj X (binaryOp .Mult) (rI Ni fun i j=>.int (i*j)):=MI fun _ _ _ _ _ _ _ hc q=>mul_int q (IntMulOk.of_le (Ar hc.1) (Ar hc.2) (by decide))
def EF(i j:Int):Prop:=0<j∧j<2^1000
theorem Ii{j:Int}(h:0<j∧j<2^1000):j.natAbs.log2<9000:=by
 have h1:j.natAbs<2^1000:=by
  have:(j.natAbs:Int)<((2^1000:Nat):Int):=by rw[Int.natCast_pow];have:=h.1;have:=h.2;omega
  exact Int.ofNat_lt.mp this
 have:=(Nat.log2_lt (k:=1000) (by have:=h.1;omega)).mpr h1
 omega
theorem gc:sj X (binaryOp .FloorDiv) (rI EF fun i j=>.int (i / j)):=MI fun i j _ _ _ _ _ hc q=>by
 rw[←Int.fdiv_eq_ediv_of_nonneg i (by have:=hc.1;lia)]at q
 exact floordiv_int (by have:=hc.1;lia) q (.inl (PyProof.noPylong_of_log2 (Ii hc)))
theorem rZ:p9 X (.builtin "divmod") (fun xs H Q=>∃i j,xs=[.int i,.int j]∧EF i j∧∀p,H p=none→Q (.ref p) (upd H p (.tup [.int (i / j),.int (i%j)]))):=by
 intro pins s σ H xs us Q I r h
 obtain⟨i,j,rfl,hc,q⟩:=h
 have h1:=hc.1
 obtain⟨u,w',rfl,⟨t,rfl⟩,⟨t',rfl⟩⟩:=vals2 r
 refine divmod_int (by omega) ?_ (.inl (PyProof.noPylong_of_log2 (Ii hc)))
 rw[Int.fdiv_eq_ediv_of_nonneg i (by omega),Int.fmod_eq_emod_of_nonneg i (by omega)]
 have hn:H s.heap.objs.size=none:=I.hok.fresh (Nat.le_refl _)
 refine⟨.ref s.heap.objs.size,_,?_,rfl,q _ hn⟩
 refine I.laid (fun b o e=>Heap.get?_push_of_some _ e) (Nat.le_refl _) ⟨by simp only[List.length_cons,List.length_nil];rw[sizeLine_eq];decide,[.int (i / j) s.toks,.int (i%j) (s.toks+1)],.cons ⟨_,rfl⟩ (.cons ⟨_,rfl⟩ .nil),?_⟩
 exact⟨_,Heap.get?_push_size s.heap rfl,rfl,0,rfl⟩
def aA:V→List V→Hp→VK→Prop:=fun x xs H Q=>∃i,x=.int i∧xs=[]∧Q (.int (Builtin.Int.intBits i)) H
theorem Kd:Nv X "int.bit_length" aA:=by
 intro pins s σ H x xs v us Q I r rs h
 obtain⟨i,rfl,rfl,q⟩:=h
 cases rs
 obtain⟨t,rfl⟩:=r
 exact call_int_bit_length ⟨.int _,H,I.tok _,⟨_,rfl⟩,q⟩
theorem iT{o:Expr}{to:TE}{apos cpos:Pos}(ho:PE X o to)(hbase:attributeBase o "bit_length" X.env (eval o X.env)=eval o X.env:=by rfl)(hline:(apos.endLine==cpos.line)=true:=by rfl):
  PE X (.Call (.Attribute o "bit_length" apos) [] [] cpos) (bf X.K "int" aA to):=
 LN F.plainAttrs_int F.slot_int_bit_length F.type_int_bit_length Kd ho hbase hline
theorem IW:bootBuiltins "max"=some (.builtin "max"):=by decide+kernel
theorem Ao:bootBuiltins "min"=some (.builtin "min"):=by decide+kernel
theorem oE:bootBuiltins "abs"=some (.builtin "abs"):=by decide+kernel
theorem yY:bootBuiltins "divmod"=some (.builtin "divmod"):=by decide+kernel
theorem iD:bootBuiltins "len"=some (.builtin "len"):=by decide+kernel
theorem Mh:bootBuiltins "ord"=some (.builtin "ord"):=by decide+kernel
theorem dD{a:Expr}{ta:TE}(ha:PE X a ta)(he:∀whole,isTrue a X.env whole=(do let v ←whole;standAt a.pos;holding [v] (truthy v)):=by intro _;rfl):
  PT X a (fun σ H Q=>ta σ H fun x H1=>∃k,eH X.K x H1 k∧Q k H1):=Hs ha he
def Lf(X:Cx)(a:Addr)(kvs:List (Key×V)):Prop:=(a==sysModules)=false∧∃vs,KV kvs vs∧∀h:Heap,X.K.In h→h.DictOf (iV X.prog X.w) a vs
def K0(X:Cx)(td ty:TE):TE:=fun σ H Q=>td σ H fun x H1=>ty σ H1 fun y H2=>∃a kvs k v,x=.ref a∧Lf X a kvs∧y=kV k∧uA kvs k=some v∧Q v H2
theorem JN{o i:Expr}{pos:Pos}{td ty:TE}(ho:PE X o td)(hi:PE X i ty)(hs:M9 i):PE X (.Subscript o i pos) (K0 X td ty):=by
 intro pins s σ H Q I h
 refine Jp PySem.F.slot_dict_getitem.lookup hs (fS (ho pins s σ H _ I h) fun u s1 ⟨x,H1,I1,rx,q1⟩=>fS (hi pins s1 σ H1 _ I1 q1) fun iv s2 ⟨y,H2,I2,ry,a,kvs,k,v,ex,⟨hm,vs,rel,g⟩,ey,l,q2⟩=>?_)
 subst ex ey
 obtain rfl:u=Value.ref a:=rx
 have dd:=g s2.heap I2.B6
 obtain⟨w',hw,rw'⟩:=xO.some_of (v:=v) (o:=valueAt vs k) (by rw[←l];exact rel.val k)
 exact⟨dd.typeIs,wpAny_getItem_of (K7 ry) dd.mapOf hw ⟨v,H2,I2.tok _,rw',q2⟩⟩
def Lr(X:Cx)(td ty tx:TE):TE:=fun σ H Q=>td σ H fun x H1=>∃a kvs,x=.ref a∧Lf X a kvs∧ty σ H1 fun y H2=>tx σ H2 fun z H3=>∃k,y=kV k∧Q ((uA kvs k).getD z) H3
theorem Hw{o e f:Expr}{apos cpos:Pos}{td ty tx:TE}(ho:PE X o td)(he:PE X e ty)(hf:PE X f tx)(m:M2 X o "get" apos e f cpos):PE X (.Call (.Attribute o "get" apos) [e,f] [] cpos) (Lr X td ty tx):=by
 intro pins s σ H Q I h
 refine wpAny_Call_method m.base m.few m.line PySem.F.plainAttrs_dict PySem.F.slot_dict_get PySem.F.type_dict_get (fS (ho pins s σ H _ I h) fun u s1 ⟨x,H1,I1,rx,a,kvs,ex,⟨hm,vs,rel,g⟩,q1⟩=>?_)
 subst ex
 obtain rfl:u=Value.ref a:=rx
 have dd:=g s1.heap I1.B6
 refine⟨dd.typeIs,?_,?_⟩
 ·intro b q
  cases q
  obtain⟨ob,_,_,h1,h2,_⟩:=dd
  exact⟨ob,h1,h2.2.1⟩
 rw[m.trees]
 refine Calls.callWith_builtin rfl (Calls.evalArgs_plain (Calls.spliced_cons (fS (he pins s1 σ H1 _ I1 q1) fun iv s2 ⟨y,H2,I2,ry,q2⟩=>
  Calls.spliced_cons (fS (hf pins s2 σ H2 _ I2 q2) fun fv s3 ⟨z,H3,I3,rz,k,ey,q3⟩=>Calls.spliced_nil ?_))))
 subst ey
 have dd:=g s3.heap I3.B6
 exact call_meetsIn PySem.F.slot_dict_get dd.typeIs PySem.F.entry_dict_get (PySem.F.args_dict_get_3 _ _ _) (meets_dict_get_default (iV X.prog X.w) a (K7 ry) hm fv) ⟨_,dd.mapOf,⟨_,H3,I3.tok _,(rel.val k).getD rz,q3⟩⟩
def GF(X:Cx)(tf:TE)(t:TA):TE:=fun σ H Q=>tf σ H fun x H1=>∃(f:Addr) (fd:FuncData) (k:Nat) (ps:List Str) (sp:Sp),x=.ref f∧cA X.prog X.w X.K X.mg X.base eS k f fd ps sp∧iN k X.A∧PySem.W.keepIn X.K (.ref f)=true∧Binds X.K fd ps []∧t σ H1 fun vs H2=>sp vs H2 Q E0
theorem Hx{o i e:Expr}{es:List Expr}{p pos:Pos}{tf:TE}{t:TA}(hf:PE X (.Subscript o i p) tf)(ha:PA X (e::es) t)
  (he:starEach (e::es) X.env=(false,eval e X.env)::starEach es X.env:=by rfl)(hpl:(backTo pos (starEach es X.env)).any (·.1)=false:=by rfl):
  PE X (.Call (.Subscript o i p) (e::es) [] pos) (GF X tf t):=by
 intro pins s σ H Q I h
 show wpAny _ _ (do callWith pos (←eval (.Subscript o i p) X.env) [] (backTo pos (starEach (e::es) X.env)) (backToKw pos (keywordEach [] X.env))) _ _ s
 refine wpAny_bind (fS (hf pins s σ H _ I h) fun u s1 ⟨x,H1,I1,rx,f,fd,k,ps,sp,ex,F,hr,hk,hb,q⟩=>?_)
 subst ex
 obtain rfl:u=Value.ref f:=rx
 refine PySem.W.callWith_K (h₀:=X.base) I.ok.mod.MW hk (fS (ha pos pins s1 σ H1 _ I1 q) fun us s2 ⟨vs,H2,I2,r,q2⟩=>⟨I2.B6,?_⟩) he hpl
 exact Hg F hr hb .nil D4 I2 r (by rw[List.append_nil];exact q2)
end
end TB
end
local macro_rules|`(tactic|sleep 2)=>`(tactic|((try dsimp[L2.aN,L2.aL,L2.bO,L2.bQ,L2.aG,L2.rI,L2.bR,L2.rU,L2.ao,L2.start,L2.aK,L2.bV,L2.bT,L2.aP,L2.aV,L2.au,L2.bS,L2.aO,L2.tC,L2.ay,L2.aM,L2.bU,L2.ak,L2.aI,L2.bf,TB.aA,L2.bW,L2.aQ,L2.aW,L2.aq]);(try simp[L2.aN,L2.aL,L2.bO,L2.bQ,L2.aG,L2.rI,L2.bR,L2.rU,L2.ao,L2.start,L2.aK,L2.bV,L2.bT,L2.aP,L2.aV,L2.au,L2.bS,L2.aO,L2.tC,L2.ay,L2.aM,L2.bU,L2.ak,L2.aI,L2.bf,TB.aA,L2.bW,L2.aQ,L2.aW,L2.aq])))
local macro_rules|`(tactic|sleep 3)=>`(tactic|((try dsimp[L2.aN,L2.aL,L2.bO,L2.bQ,L2.aG,L2.rI,L2.bR,L2.rU,L2.ao,L2.start,L2.aK,L2.bV,L2.bT,L2.aP,L2.aV,L2.au,L2.bS,L2.aO,L2.tC,L2.ay,L2.aM,L2.eH,L2.bU,L2.ak,L2.aI,L2.bf,TB.aA,L2.bW,L2.aQ,L2.aW,L2.aq]);(try simp[L2.aN,L2.aL,L2.bO,L2.bQ,L2.aG,L2.rI,L2.bR,L2.rU,L2.ao,L2.start,L2.aK,L2.bV,L2.bT,L2.aP,L2.aV,L2.au,L2.bS,L2.aO,L2.tC,L2.ay,L2.aM,L2.eH,L2.bU,L2.ak,L2.aI,L2.bf,TB.aA,L2.bW,L2.aQ,L2.aW,L2.aq])))
noncomputable section
namespace TB
open PySem PySem.Spec PyProof.Rows L2 TM
structure di(P:Program)(w:World)(K:PySem.W.Frag)(mg:Str→Option Value)(base:Heap)(x:Str)(k:Nat)(ps:List Str)(sp:Sp):Prop where
 ex:∃(f:Addr) (fd:FuncData),cA P w K mg base eS k f fd ps sp∧mg x=some (.ref f)∧PySem.W.keepIn K (.ref f)=true∧Binds K fd ps []
def fq(mg:Str→Option Value)(x:Str)(i:Int):Prop:=∃t,mg x=some (.int i t)
theorem eO.at{K:PySem.W.Frag}{a:Addr}{xs:List V}(h:eO K a xs)(H:Hp):jF K H a xs:=.inr h
section
variable{X:Cx}
theorem bw{x:Str}{i:Int}{pos:Pos}(hg:Gl X x)(hm:fq X.mg x i)(hd:(x==("__debug__":Str))=false:=by decide):PE X (.Name x pos) (tC (.int i)):=by
 obtain⟨t,hm⟩:=hm
 exact D0 hg hm ⟨_,rfl⟩ hd
theorem cG{x:Str}{a:Addr}{pos:Pos}(hg:Gl X x)(hm:X.mg x=some (.ref a))(hd:(x==("__debug__":Str))=false:=by decide):PE X (.Name x pos) (tC (.ref a)):=D0 hg hm rfl hd
theorem aj{x:Str}{k:Nat}{ps:List Str}{sp:Sp}{p pos:Pos}{e:Expr}{es:List Expr}{t:TA}(h:di X.prog X.w X.K X.mg X.base x k ps sp)(hr:iN k X.A)(hg:Gl X x)
  (ha:PA X (e::es) t)(hdb:(x==("__debug__":Str))=false:=by decide)(he:starEach (e::es) X.env=(false,eval e X.env)::starEach es X.env:=by rfl)(hpl:(backTo pos (starEach es X.env)).any (·.1)=false:=by rfl):
  PE X (.Call (.Name x p) (e::es) [] pos) (aq sp [] E0 t):=by
 obtain⟨f,fd,F,hm,hk,hb⟩:=h.ex
 exact JO F hr hg hm hk hb .nil D4 ha hdb he hpl
end
theorem aH.tup{K:PySem.W.Frag}{H H':Hp}{a:Addr}{xs:List V}(e:aH H H')(h:jF K H a xs):jF K H' a xs:=by
 rcases h with(h|⟨o,h⟩)|h
 ·exact .inl (.inl (e _ _ h))
 ·exact .inl (.inr ⟨o,e _ _ h⟩)
 ·exact .inr h
theorem aH.upd{H:Hp}{p:Addr}{o:HO}(h:H p=none):aH H (L2.upd H p o):=fun b u e=>by
 rw[cQ (cO e h)]
 exact e
theorem bP{K:PySem.W.Frag}{H:Hp}{p:Addr}{xs:List V}{i:Int}{v:V}{Q:VK}(h:jF K H p xs)(e:zd xs i=some v)(q:Q v H):JE K (.ref p) (.int i) H Q:=⟨p,xs,i,v,rfl,rfl,h,e,q⟩
def sI(s:Bool):Int:=if s=true then 1 else 0
def nl(n:Num):List V:=[.int (sI n.s),.int n.w,.int n.p]
def kl(k:Rb50.Kind)(st pl:Nat):List V:=[.int ((k.frac+1:Nat):Int),.int k.least,.int st,.int pl]
def bI(K:PySem.W.Frag)(H:Hp)(v:V)(n:Num):Prop:=∃p,v=.ref p∧jF K H p (nl n)
theorem bI.same{K:PySem.W.Frag}{H H':Hp}{v:V}{n:Num}(h:bI K H v n)(e:aH H H'):bI K H' v n:=by
 obtain⟨p,rfl,q⟩:=h
 exact⟨p,rfl,aH.tup e q⟩
theorem bI.new{K:PySem.W.Frag}{H:Hp}{p:Addr}{n:Num}:bI K (upd H p (.tup (nl n))) (.ref p) n:=⟨p,rfl,jF.of aF⟩
def iO(K:PySem.W.Frag)(H:Hp)(v:V)(k:Rb50.Kind)(st pl:Nat):Prop:=∃p,v=.ref p∧jF K H p (kl k st pl)
theorem iO.same{K:PySem.W.Frag}{H H':Hp}{v:V}{k:Rb50.Kind}{st pl:Nat}(h:iO K H v k st pl)(e:aH H H'):iO K H' v k st pl:=by
 obtain⟨p,rfl,q⟩:=h
 exact⟨p,rfl,aH.tup e q⟩
structure kT(k:Rb50.Kind):Prop where
 fr:k.frac≤100
 lo: -20000≤k.least
 hi:k.least≤0
theorem iZ(w:Nat):Builtin.Int.intBits (w:Int)=bl w:=by
 unfold Builtin.Int.intBits bl
 by_cases h:w=0
 ·subst h;rfl
 ·rw[if_neg h,if_neg (by simp;lia)]
  rfl
section
variable{P:Program}{w:World}{K:PySem.W.Frag}{mg:Str→Option Value}{base:Heap}
abbrev vS:Stmt:=bJ 19
def kZ:Sp:=fun vs H Q _=>∃(m t:Nat),vs=[.int m,.int t]∧0<t∧t≤99999∧m<2^99999∧Q (.int (cut m t false)) H
theorem yp:bz ["whole","times","kept","rest","half"] ["whole","times"] (aR vS):=⟨rfl,rfl,rfl,by decide+kernel,rfl,by decide+kernel,by decide+kernel⟩
theorem Fq{f:Addr}{fd:FuncData}(F:eX K "halved" "halved" vS f fd):cA P w K mg base eS 1 f fd ["whole","times"] kZ:=by
 refine F.ok yp (fun vs H Q E h=>?_) (fun cdv A outer s H vs Q E hr h=>?_)
 ·obtain⟨m,t,rfl,_⟩:=h
  rfl
 ·obtain⟨m,t,rfl,h0,h1,h2,k⟩:=h
  have nd:=yp.nd
  refine⟨_,ai (bB (i:=2) nd rfl (Or.inl rfl) (bu wG (pv 0) (pv 1)))
   (ai (bB (i:=3) nd rfl (Or.inl rfl) (bu cX (pv 0) (bu fc (pv 2) (pv 1))))
   (ai (bB (i:=4) nd rfl (Or.inl rfl) (bu fc az (bu cX (pv 1) az)))
   (ai (cZ (PW.pt (uc (bZ uf (pv 3) (pv 4) (cK _)) (nH (PW.pt (zI (bZ je (pv 3) (pv 4) (cK _)) (uQ (dD (bu wH (pv 2) az)))))))) (aB (bA (bu cT (pv 2) az))) cg)
   (aB (bA (pv 2)))))),?_⟩
  try dsimp[aN,aL,bO,aG,rI,bR,ao,L2.start,aK,bT,aP,au,bS,aO,tC,ay,aM,eH]
  try simp[aN,aL,bO,aG,rI,bR,ao,L2.start,aK,bT,aP,au,bS,aO,tC,ay,aM,eH]
  have e1:(m:Int) / 2^t=((m / 2^t:Nat):Int):=by rw[Int.natCast_ediv,Int.natCast_pow];rfl
  have hd:=Nat.div_add_mod m (2^t)
  have e2:(m:Int) - (m:Int) / 2^t*2^t=((m%2^t:Nat):Int):=by
   rw[e1]
   have e3:(2:Int)^t=((2^t:Nat):Int):=by rw[Int.natCast_pow];rfl
   rw[e3,←Int.natCast_mul]
   have:m / 2^t*2^t=2^t*(m / 2^t):=Nat.mul_comm _ _
   lia
  have e4:(2:Int)^(t - 1)=((2^(t - 1):Nat):Int):=by rw[Int.natCast_pow];rfl
  rw[e2,e1,e4]
  refine⟨⟨by lia,by lia,?_⟩,⟨by lia,by lia,?_⟩,?_⟩
  ·rw[Int.natAbs_natCast]
   exact Nat.lt_of_le_of_lt (Nat.div_le_self _ _) (Nat.lt_of_lt_of_le h2 (Nat.pow_le_pow_right (by decide) (by decide)))
  ·show 1<2^100000
   exact Nat.one_lt_two_pow (by decide)
  ·unfold cut at k
   rw[bitAnd_m1]
   generalize m / 2^t=q at*
   generalize m%2^t=r at*
   generalize 2^(t - 1)=h at*
   by_cases c1:h<r
   ·rw[if_pos (by lia)]
    rw[if_pos (.inl c1)]at k
    exact k
   ·rw[if_neg (by lia)]
    by_cases c2:r=h
    ·rw[if_pos (by lia)]
     by_cases c3:q%2=1
     ·rw[if_pos (.inr ⟨c2,.inr c3⟩)]at k
      rw[if_neg (by lia)]
      exact k
     ·rw[if_neg (by rintro(z|⟨_,z|z⟩);lia;cases z;lia)]at k
      rw[if_pos (by lia)]
      exact k
    ·rw[if_neg (by lia)]
     rw[if_neg (by rintro(z|⟨z,_⟩)<;>lia)]at k
     exact k
structure Txt(K:PySem.W.Frag)(mg:Str→Option Value)(aU aD aS:Addr):Prop where
 gy:fq mg "SIGN" 0
 dN:fq mg "WHOLE" 1
 dg:fq mg "POWER" 2
 iy:fq mg "PLACES" 0
 jC:fq mg "LEAST" 1
 lP:fq mg "STORED" 2
 iu:fq mg "SIGN_PLACE" 3
 eU:fq mg "HIDDEN_OF_SINGLE" 8388608
 fz:mg "UNIT"=some (.ref aU)
 rj:mg "DOUBLE"=some (.ref aD)
 cu:mg "SINGLE"=some (.ref aS)
 vj:eO K aU (kl Rb50.EXT 64 79)
 qI:eO K aD (kl Rb50.DOUBLE 52 63)
 m5:eO K aS (kl Rb50.SINGLE 23 31)
 B0:mg "max"=none
 xK:mg "min"=none
 oG:mg "abs"=none
 oF:mg "divmod"=none
variable{aU aD aS:Addr}
abbrev sL:Stmt:=bJ 20
def fG(K:PySem.W.Frag):Sp:=fun vs H Q _=>∃(kv:V) (k:Rb50.Kind) (st pl:Nat) (s:Bool) (m:Nat) (p:Int),vs=[kv,.int (sI s),.int m,.int p]∧iO K H kv k st pl∧kT k∧m<2^70000∧ -70000≤p∧
 ∀(H':Hp) (v:V),aH H H'→bI K H' v (bX k s m p)→Q v H'
theorem vD:bz ["kind","sign","whole","power","over"] ["kind","sign","whole","power"] (aR sL):=⟨rfl,rfl,rfl,by decide+kernel,rfl,by decide+kernel,by decide+kernel⟩
theorem CO{f:Addr}{fd:FuncData}(F:eX K "rounded" "rounded" sL f fd)(T:Txt K mg aU aD aS)(h_halved:di P w K mg base "halved" 1 ["whole","times"] kZ):cA P w K mg base eS 2 f fd ["kind","sign","whole","power"] (fG K):=by
 refine F.ok vD (fun vs H Q E h=>?_) (fun cdv A outer s H vs Q E hr h=>?_)
 ·obtain⟨kv,k,st,pl,s,m,p,rfl,_⟩:=h
  rfl
 ·obtain⟨kv,k,st,pl,sg,m,p,rfl,⟨ka,rfl,hk⟩,ko,h1,h2,q⟩:=h
  have nd:=vD.nd
  refine⟨_,(ai (bB (i:=4) nd rfl (Or.inl rfl) (bu cX (iT (pv 2)) (bq bF (pv 0) (bw rfl T.iy) (fun _ _=>rfl))))
   (ai (cZ (bZ lM (pv 4) (bu cX (bq bF (pv 0) (bw rfl T.jC) (fun _ _=>rfl)) (pv 3)) (cK _)) (aB (bB (i:=4) nd rfl (Or.inl rfl) (bu cX (bq bF (pv 0) (bw rfl T.jC) (fun _ _=>rfl)) (pv 3)))) cg)
   (ai (cZ (bZ kC (pv 4) az (cK _)) (aB (bA (fL (aa (pv 1) (aa (pv 2) (aa (pv 3) af)))))) cg)
   (aB (bA (fL (aa (pv 1) (aa (aj h_halved (hr.mono (by decide)) rfl (aa (pv 2) (aa (pv 4) af))) (aa (bu cT (pv 3) (pv 4)) af))))))))),?_⟩
  try dsimp[aN,aL,bO,aG,rI,bR,ao,L2.start,aK,bT,aP,au,bS,aO,tC,ay,aM,eH,bU,ak,aI,bf,aA,bW,aQ,aq]
  try simp[aN,aL,bO,aG,rI,bR,ao,L2.start,aK,bT,aP,au,bS,aO,tC,ay,aM,eH,bU,ak,aI,bf,aA,bW,aQ,aq]
  refine bP hk rfl ?_
  simp
  refine bP hk rfl ?_
  try dsimp[aN,aL,bO,aG,rI,bR,ao,L2.start,aK,bT,aP,au,bS,aO,tC,ay,aM,eH,bU,ak,aI,bf,aA,bW,aQ,aq]
  try simp[aN,aL,bO,aG,rI,bR,ao,L2.start,aK,bT,aP,au,bS,aO,tC,ay,aM,eH,bU,ak,aI,bf,aA,bW,aQ,aq]
  rw[iZ]
  have hb:bl m≤70000:=dB h1
  have hko:=ko.lo
  have hkh:=ko.hi
  have fin:(if over k m p≤0 then 3≤sizeLine∧∀(a:Addr),H a=none→Q (V.ref a) (upd H a (HO.tup [V.int (sI sg),V.int m,V.int p]))
    else kZ [V.int m,V.int (over k m p)] H (fun x H1=>3≤sizeLine∧∀(a:Addr),H1 a=none→Q (V.ref a) (upd H1 a (HO.tup [V.int (sI sg),x,V.int (p+over k m p)]))) E0):=by
   by_cases c:over k m p≤0
   ·rw[if_pos c]
    refine⟨by decide,fun a ha=>q _ _ (aH.upd ha) ?_⟩
    have e:bX k sg m p=⟨sg,m,p⟩:=by unfold bX;rw[if_pos c]
    rw[e]
    exact bI.new (n:=⟨sg,m,p⟩)
   ·rw[if_neg c]
    refine⟨m,(over k m p).toNat,?_,by omega,?_,Nat.lt_of_lt_of_le h1 (Nat.pow_le_pow_right (by decide) (by decide)),by decide,fun a ha=>q _ _ (aH.upd ha) ?_⟩
    ·have:((over k m p).toNat:Int)=over k m p:=by omega
     rw[this]
    ·unfold over at c⊢
     omega
    ·have e:bX k sg m p=⟨sg,cut m (over k m p).toNat false,p+over k m p⟩:=by unfold bX;rw[if_neg c]
     rw[e]
     exact bI.new (n:=⟨sg,cut m (over k m p).toNat false,p+over k m p⟩)
  by_cases c0:(bl m:Int) - (k.frac+1:Int)<k.least - p
  ·rw[if_pos c0]
   refine bP hk rfl ?_
   refine⟨_,rfl,?_⟩
   have eo:k.least - p=over k m p:=by unfold over;omega
   rw[eo]
   exact fin
  ·rw[if_neg c0]
   have eo:(bl m:Int) - (k.frac+1:Int)=over k m p:=by unfold over;omega
   rw[eo]
   exact fin
end
end TB
end
noncomputable section
namespace TB
open PySem PySem.Spec PyProof.Rows L2 TM
section
variable{P:Program}{w:World}{K:PySem.W.Frag}{mg:Str→Option Value}{base:Heap}{aU aD aS:Addr}
structure NB(n:Num):Prop where
 w:n.w<2^200
 lo: -30000≤n.p
 hi:n.p≤30000
theorem Mm(a b:Bool):Builtin.bitAnd (sI a) (sI b)=sI (a&&b):=by cases a<;>cases b<;>decide
theorem B7(a b:Bool):Builtin.bitXor (sI a) (sI b)=sI (a != b):=by cases a<;>cases b<;>decide
theorem DP(a:Bool):(sI a != 0)=a:=by cases a<;>rfl
theorem Bl(a:Num)(n:Nat):j8 a*2^n=sgn a.s*((a.w*2^n:Nat):Int):=by
 unfold j8
 rw[Int.natCast_mul,Int.natCast_pow,Int.mul_assoc]
 rfl
theorem lG(a:Num):(j8 a).natAbs=a.w:=by unfold j8;rw[jx,Int.natAbs_natCast]
theorem dO{m a b:Nat}(h:m<2^a)(hab:a≤b):m<2^b:=Nat.lt_of_lt_of_le h (Nat.pow_le_pow_right (by decide) hab)
abbrev qp:Stmt:=bJ 22
def fX(K:PySem.W.Frag):Sp:=fun vs H Q _=>∃z:Int,vs=[.int z]∧∀(H':Hp) (v:V),aH H H'→bI K H' v (dW z)→Q v H'
theorem A7:bz ["value"] ["value"] (aR qp):=⟨rfl,rfl,rfl,by decide+kernel,rfl,by decide+kernel,by decide+kernel⟩
theorem Bx{f:Addr}{fd:FuncData}(F:eX K "of_whole" "of_whole" qp f fd)(T:Txt K mg aU aD aS):cA P w K mg base eS 1 f fd ["value"] (fX K):=by
 refine F.ok A7 (fun vs H Q E h=>?_) (fun cdv A outer s H vs Q E hr h=>?_)
 ·obtain⟨z,rfl,_⟩:=h
  rfl
 ·obtain⟨z,rfl,q⟩:=h
  refine⟨_,(aB (bA (fL (aa (fO (bZ lM (pv 0) az (cK _)) az az) (aa (cE jh (by rfl) T.oG oE (aa (pv 0) af)) (aa az af)))))),?_⟩
  sleep 3
  have e1:(if z<0 then -z else z)=((z.natAbs:Nat):Int):=by split<;>lia
  by_cases c:z<0
  ·simp[c]
   refine⟨by decide,fun a ha=>q _ _ (aH.upd ha) ?_⟩
   have:=bI.new (K:=K) (H:=H) (p:=a) (n:=dW z)
   unfold dW nl at this
   rw[decide_eq_true c,←e1,if_pos c]at this
   unfold dW
   rw[decide_eq_true c]
   exact this
  ·simp[c]
   refine⟨by decide,fun a ha=>q _ _ (aH.upd ha) ?_⟩
   have:=bI.new (K:=K) (H:=H) (p:=a) (n:=dW z)
   unfold dW nl at this
   rw[decide_eq_false c,←e1,if_neg c]at this
   unfold dW
   rw[decide_eq_false c]
   exact this
abbrev qo:Stmt:=bJ 24
def i7(K:PySem.W.Frag):Sp:=fun vs H Q _=>∃(x:V) (a:Num),vs=[x]∧bI K H x a∧∀(H':Hp) (v:V),aH H H'→bI K H' v (fB a)→Q v H'
theorem A6:bz ["x"] ["x"] (aR qo):=⟨rfl,rfl,rfl,by decide+kernel,rfl,by decide+kernel,by decide+kernel⟩
theorem Bw{f:Addr}{fd:FuncData}(F:eX K "opposite" "opposite" qo f fd)(T:Txt K mg aU aD aS):cA P w K mg base eS 1 f fd ["x"] (i7 K):=by
 refine F.ok A6 (fun vs H Q E h=>?_) (fun cdv A outer s H vs Q E hr h=>?_)
 ·obtain⟨x,a,rfl,_⟩:=h
  rfl
 ·obtain⟨x,a,rfl,⟨px,rfl,hx⟩,q⟩:=h
  refine⟨_,(aB (bA (fL (aa (bu cX az (bq bF (pv 0) (bw rfl T.gy) (fun _ _=>rfl))) (aa (bq bF (pv 0) (bw rfl T.dN) (fun _ _=>rfl)) (aa (bq bF (pv 0) (bw rfl T.dg) (fun _ _=>rfl)) af)))))),?_⟩
  sleep 3
  refine bP hx rfl ?_
  sleep 3
  refine bP hx rfl ?_
  refine bP hx rfl ?_
  refine⟨by decide,fun p hp=>q _ _ (aH.upd hp) ?_⟩
  have e:1 - sI a.s=sI (!a.s):=by cases a.s<;>rfl
  rw[e]
  exact bI.new (n:=fB a)
abbrev vL:Stmt:=bJ 26
def kY(K:PySem.W.Frag):Sp:=fun vs H Q _=>∃(x:V) (a:Num),vs=[x]∧bI K H x a∧Q (.int (j8 a)) H
theorem E1:bz ["x"] ["x"] (aR vL):=⟨rfl,rfl,rfl,by decide+kernel,rfl,by decide+kernel,by decide+kernel⟩
theorem Fg{f:Addr}{fd:FuncData}(F:eX K "signed" "signed" vL f fd)(T:Txt K mg aU aD aS):cA P w K mg base eS 1 f fd ["x"] (kY K):=by
 refine F.ok E1 (fun vs H Q E h=>?_) (fun cdv A outer s H vs Q E hr h=>?_)
 ·obtain⟨x,a,rfl,_⟩:=h
  rfl
 ·obtain⟨x,a,rfl,⟨px,rfl,hx⟩,q⟩:=h
  refine⟨_,(aB (bA (fO (dD (bq bF (pv 0) (bw rfl T.gy) (fun _ _=>rfl))) (nO jM (bq bF (pv 0) (bw rfl T.dN) (fun _ _=>rfl))) (bq bF (pv 0) (bw rfl T.dN) (fun _ _=>rfl))))),?_⟩
  sleep 2
  refine bP hx rfl ?_
  unfold j8 sgn at q
  by_cases c:a.s=true
  ·rw[if_pos c,Int.neg_one_mul]at q
   refine .inr ⟨?_,bP hx rfl ⟨_,rfl,q⟩⟩
   show true=(sI a.s != 0)
   rw[DP,c]
  ·rw[if_neg c,Int.one_mul]at q
   refine .inl ⟨?_,bP hx rfl q⟩
   show false=(sI a.s != 0)
   rw[DP]
   simpa using c
abbrev G6:Stmt:=bJ 28
def eY(K:PySem.W.Frag)(g:Rb50.Kind→Num→Num→Num):Sp:=fun vs H Q _=>∃(kv:V) (k:Rb50.Kind) (st pl:Nat) (x y:V) (a b:Num),vs=[kv,x,y]∧iO K H kv k st pl∧kT k∧bI K H x a∧bI K H y b∧NB a∧NB b∧
 ∀(H':Hp) (v:V),aH H H'→bI K H' v (g k a b)→Q v H'
theorem G1:bz ["kind","x","y","power","total"] ["kind","x","y"] (aR G6):=⟨rfl,rfl,rfl,by decide+kernel,rfl,by decide+kernel,by decide+kernel⟩
theorem LU{f:Addr}{fd:FuncData}(F:eX K "add" "add" G6 f fd)(T:Txt K mg aU aD aS)(h_signed:di P w K mg base "signed" 1 ["x"] (kY K))(h_rounded:di P w K mg base "rounded" 2 ["kind","sign","whole","power"] (fG K)):
  cA P w K mg base eS 3 f fd ["kind","x","y"] (eY K bL):=by
 refine F.ok G1 (fun vs H Q E h=>?_) (fun cdv A outer s H vs Q E hr h=>?_)
 ·obtain⟨kv,k,st,pl,x,y,a,b,rfl,_⟩:=h
  rfl
 ·obtain⟨kv,k,st,pl,x,y,a,b,rfl,hK,ko,⟨px,rfl,hx⟩,⟨py,rfl,hy⟩,na,nb,q⟩:=h
  have nd:=G1.nd
  refine⟨_,(ai (bB (i:=3) nd rfl (Or.inl rfl) (cE (pM rfl) (by rfl) T.xK Ao (aa (bq bF (pv 1) (bw rfl T.dg) (fun _ _=>rfl)) (aa (bq bF (pv 2) (bw rfl T.dg) (fun _ _=>rfl)) af))))
   (ai (bB (i:=4) nd rfl (Or.inl rfl) (bu cT (bu fc (aj h_signed (hr.mono (by decide)) rfl (aa (pv 1) af)) (bu cX (bq bF (pv 1) (bw rfl T.dg) (fun _ _=>rfl)) (pv 3))) (bu fc (aj h_signed (hr.mono (by decide)) rfl (aa (pv 2) af)) (bu cX (bq bF (pv 2) (bw rfl T.dg) (fun _ _=>rfl)) (pv 3)))))
   (ai (cZ (bZ je (pv 4) az (cK _)) (aB (bA (fL (aa (bu wH (bq bF (pv 1) (bw rfl T.gy) (fun _ _=>rfl)) (bq bF (pv 2) (bw rfl T.gy) (fun _ _=>rfl))) (aa az (aa (pv 3) af)))))) cg)
   (aB (bA (aj h_rounded (hr.mono (by decide)) rfl (aa (pv 0) (aa (fO (bZ lM (pv 4) az (cK _)) az az) (aa (cE jh (by rfl) T.oG oE (aa (pv 4) af)) (aa (pv 3) af)))))))))),?_⟩
  sleep 3
  refine bP hx rfl ?_
  refine bP hy rfl ?_
  sleep 3
  refine⟨_,_,⟨rfl,rfl⟩,?_⟩
  have em:(if b.p<a.p then b.p else a.p)=min a.p b.p:=by split<;>lia
  rw[em]
  refine⟨_,a,rfl,⟨px,rfl,hx⟩,?_⟩
  refine bP hx rfl ?_
  sleep 3
  refine⟨⟨by lia,by have:=na.hi;have:=na.lo;have:=nb.hi;have:=nb.lo;lia,?_⟩,?_⟩
  ·rw[lG]
   exact dO na.w (by decide)
  refine⟨_,b,rfl,⟨py,rfl,hy⟩,?_⟩
  refine bP hy rfl ?_
  sleep 3
  refine⟨⟨by lia,by have:=na.hi;have:=na.lo;have:=nb.hi;have:=nb.lo;lia,?_⟩,?_⟩
  ·rw[lG]
   exact dO nb.w (by decide)
  have et:j8 a*2^(a.p - min a.p b.p).toNat+j8 b*2^(b.p - min a.p b.p).toNat=dS a b:=by
   rw[Bl,Bl]
   rfl
  rw[et]
  by_cases c:dS a b=0
  ·rw[if_pos c]
   refine bP hx rfl ?_
   refine bP hy rfl ?_
   refine⟨_,rfl,_,rfl,by decide,fun p hp=>q _ _ (aH.upd hp) ?_⟩
   rw[Mm]
   have e:bL k a b=⟨a.s&&b.s,0,min a.p b.p⟩:=by unfold bL;rw[if_pos c]
   rw[e]
   exact bI.new (n:=⟨a.s&&b.s,0,min a.p b.p⟩)
  ·rw[if_neg c]
   have e:bL k a b=bX k (decide (dS a b<0)) (dS a b).natAbs (min a.p b.p):=by unfold bL;rw[if_neg c]
   rw[e]at q
   have eA:(if dS a b<0 then -dS a b else dS a b)=(((dS a b).natAbs:Nat):Int):=by split<;>lia
   rw[eA]
   have hbd:(dS a b).natAbs<2^70000:=by
    have h1:=Int.natAbs_add_le (sgn a.s*((a.w*2^(a.p - min a.p b.p).toNat:Nat):Int)) (sgn b.s*((b.w*2^(b.p - min a.p b.p).toNat:Nat):Int))
    rw[jx,jx,Int.natAbs_natCast,Int.natAbs_natCast]at h1
    have h2:a.w*2^(a.p - min a.p b.p).toNat<2^200*2^60000:=Nat.mul_lt_mul_of_lt_of_le na.w (Nat.pow_le_pow_right (by decide) (by have:=na.hi;have:=na.lo;have:=nb.hi;have:=nb.lo;lia)) (two_pos _)
    have h3:b.w*2^(b.p - min a.p b.p).toNat<2^200*2^60000:=Nat.mul_lt_mul_of_lt_of_le nb.w (Nat.pow_le_pow_right (by decide) (by have:=na.hi;have:=na.lo;have:=nb.hi;have:=nb.lo;lia)) (two_pos _)
    have h4:2^200*2^60000=2^60200:=(Nat.pow_add 2 200 60000).symm
    rw[h4]at h2 h3
    have h5:2^60201≤2^70000:=Nat.pow_le_pow_right (by decide) (by decide)
    have h6:2^60201=2*2^60200:=by rw[Nat.pow_succ 2 60200,Nat.mul_comm]
    show(sgn a.s*((a.w*2^(a.p - min a.p b.p).toNat:Nat):Int)+sgn b.s*((b.w*2^(b.p - min a.p b.p).toNat:Nat):Int)).natAbs<2^70000
    generalize 2^60200=B at*
    generalize 2^60201=C at*
    generalize 2^70000=D at*
    lia
   have hlo: -70000≤min a.p b.p:=by have:=na.lo;have:=nb.lo;lia
   by_cases c2:dS a b<0
   ·rw[if_pos c2]
    rw[decide_eq_true c2]at q
    exact⟨kv,k,st,pl,true,_,_,rfl,hK,ko,hbd,hlo,q⟩
   ·rw[if_neg c2]
    rw[decide_eq_false c2]at q
    exact⟨kv,k,st,pl,false,_,_,rfl,hK,ko,hbd,hlo,q⟩
abbrev ql:Stmt:=bJ 29
theorem A4:bz ["kind","x","y"] ["kind","x","y"] (aR ql):=⟨rfl,rfl,rfl,by decide+kernel,rfl,by decide+kernel,by decide+kernel⟩
theorem Bu{f:Addr}{fd:FuncData}(F:eX K "subtract" "subtract" ql f fd)(T:Txt K mg aU aD aS)(h_opposite:di P w K mg base "opposite" 1 ["x"] (i7 K))(h_add:di P w K mg base "add" 3 ["kind","x","y"] (eY K bL)):
  cA P w K mg base eS 4 f fd ["kind","x","y"] (eY K fD):=by
 refine F.ok A4 (fun vs H Q E h=>?_) (fun cdv A outer s H vs Q E hr h=>?_)
 ·obtain⟨kv,k,st,pl,x,y,a,b,rfl,_⟩:=h
  rfl
 ·obtain⟨kv,k,st,pl,x,y,a,b,rfl,hK,ko,hx,hy,na,nb,q⟩:=h
  refine⟨_,(aB (bA (aj h_add (hr.mono (by decide)) rfl (aa (pv 0) (aa (pv 1) (aa (aj h_opposite (hr.mono (by decide)) rfl (aa (pv 2) af)) af)))))),?_⟩
  sleep 3
  refine⟨y,b,rfl,hy,fun H1 v1 s1 n1=>?_⟩
  exact⟨kv,k,st,pl,x,v1,a,fB b,rfl,hK.same s1,ko,hx.same s1,n1,na,⟨nb.w,nb.lo,nb.hi⟩,fun H2 v2 s2 n2=>q H2 v2 (s1.trans s2) n2⟩
abbrev qt:Stmt:=bJ 30
theorem A8:bz ["kind","x","y"] ["kind","x","y"] (aR qt):=⟨rfl,rfl,rfl,by decide+kernel,rfl,by decide+kernel,by decide+kernel⟩
theorem By{f:Addr}{fd:FuncData}(F:eX K "multiply" "multiply" qt f fd)(T:Txt K mg aU aD aS)(h_rounded:di P w K mg base "rounded" 2 ["kind","sign","whole","power"] (fG K)):
  cA P w K mg base eS 3 f fd ["kind","x","y"] (eY K bC):=by
 refine F.ok A8 (fun vs H Q E h=>?_) (fun cdv A outer s H vs Q E hr h=>?_)
 ·obtain⟨kv,k,st,pl,x,y,a,b,rfl,_⟩:=h
  rfl
 ·obtain⟨kv,k,st,pl,x,y,a,b,rfl,hK,ko,⟨px,rfl,hx⟩,⟨py,rfl,hy⟩,na,nb,q⟩:=h
  refine⟨_,(aB (bA (aj h_rounded (hr.mono (by decide)) rfl (aa (pv 0) (aa (bu HF (bq bF (pv 1) (bw rfl T.gy) (fun _ _=>rfl)) (bq bF (pv 2) (bw rfl T.gy) (fun _ _=>rfl))) (aa (bu gm (bq bF (pv 1) (bw rfl T.dN) (fun _ _=>rfl)) (bq bF (pv 2) (bw rfl T.dN) (fun _ _=>rfl))) (aa (bu cT (bq bF (pv 1) (bw rfl T.dg) (fun _ _=>rfl)) (bq bF (pv 2) (bw rfl T.dg) (fun _ _=>rfl))) af))))))),?_⟩
  sleep 3
  refine bP hx rfl ?_
  refine bP hy rfl ?_
  refine⟨_,rfl,_,rfl,?_⟩
  refine bP hx rfl ?_
  refine bP hy rfl ?_
  refine⟨_,rfl,_,rfl,⟨by rw[Int.natAbs_natCast];exact dO na.w (by decide),by rw[Int.natAbs_natCast];exact dO nb.w (by decide)⟩,?_⟩
  refine bP hx rfl ?_
  refine bP hy rfl ?_
  refine⟨_,rfl,_,rfl,?_⟩
  rw[B7]
  have hw:a.w*b.w<2^70000:=by
   refine Nat.lt_of_lt_of_le (Nat.mul_lt_mul_of_lt_of_le na.w (Nat.le_of_lt nb.w) (two_pos _)) ?_
   rw[←Nat.pow_add]
   exact Nat.pow_le_pow_right (by decide) (by decide)
  exact⟨kv,k,st,pl,a.s != b.s,a.w*b.w,a.p+b.p,by rw[Int.natCast_mul],hK,ko,hw,by have:=na.lo;have:=nb.lo;lia,q⟩
abbrev vO:Stmt:=bJ 34
def yf(K:PySem.W.Frag):Sp:=fun vs H Q _=>∃(kv:V) (k:Rb50.Kind) (st pl:Nat) (x:V) (a:Num) (d:Int),vs=[kv,x,.int d]∧iO K H kv k st pl∧kT k∧bI K H x a∧NB a∧ -30000≤d∧
 ∀(H':Hp) (v:V),aH H H'→bI K H' v (uR k a d)→Q v H'
theorem E2:bz ["kind","x","power"] ["kind","x","power"] (aR vO):=⟨rfl,rfl,rfl,by decide+kernel,rfl,by decide+kernel,by decide+kernel⟩
theorem Fj{f:Addr}{fd:FuncData}(F:eX K "scaled" "scaled" vO f fd)(T:Txt K mg aU aD aS)(h_rounded:di P w K mg base "rounded" 2 ["kind","sign","whole","power"] (fG K)):
  cA P w K mg base eS 3 f fd ["kind","x","power"] (yf K):=by
 refine F.ok E2 (fun vs H Q E h=>?_) (fun cdv A outer s H vs Q E hr h=>?_)
 ·obtain⟨kv,k,st,pl,x,a,d,rfl,_⟩:=h
  rfl
 ·obtain⟨kv,k,st,pl,x,a,d,rfl,hK,ko,⟨px,rfl,hx⟩,na,hd,q⟩:=h
  refine⟨_,(aB (bA (aj h_rounded (hr.mono (by decide)) rfl (aa (pv 0) (aa (bq bF (pv 1) (bw rfl T.gy) (fun _ _=>rfl)) (aa (bq bF (pv 1) (bw rfl T.dN) (fun _ _=>rfl)) (aa (bu cT (bq bF (pv 1) (bw rfl T.dg) (fun _ _=>rfl)) (pv 2)) af))))))),?_⟩
  sleep 3
  refine bP hx rfl ?_
  refine bP hx rfl ?_
  refine bP hx rfl ?_
  refine⟨_,rfl,?_⟩
  exact⟨kv,k,st,pl,a.s,a.w,a.p+d,rfl,hK,ko,dO na.w (by decide),by have:=na.lo;lia,q⟩
end
end TB
end
noncomputable section
namespace TB
open PySem PySem.Spec PyProof.Rows L2 TM
section
variable{P:Program}{w:World}{K:PySem.W.Frag}{mg:Str→Option Value}{base:Heap}{aU aD aS:Addr}
def kX(K:PySem.W.Frag):Sp:=fun vs H Q _=>∃(kv:V) (k:Rb50.Kind) (st pl:Nat) (x:V) (a:Num),vs=[kv,x]∧iO K H kv k st pl∧kT k∧bI K H x a∧NB a∧
 ∀(H':Hp) (v:V),aH H H'→bI K H' v (dR k a)→Q v H'
abbrev vJ:Stmt:=bJ 21
theorem yi:bz ["kind","x"] ["kind","x"] (aR vJ):=⟨rfl,rfl,rfl,by decide+kernel,rfl,by decide+kernel,by decide+kernel⟩
theorem Fe{f:Addr}{fd:FuncData}(F:eX K "turned" "turned" vJ f fd)(T:Txt K mg aU aD aS)(h_rounded:di P w K mg base "rounded" 2 ["kind","sign","whole","power"] (fG K)):
  cA P w K mg base eS 3 f fd ["kind","x"] (kX K):=by
 refine F.ok yi (fun vs H Q E h=>?_) (fun cdv A outer s H vs Q E hr h=>?_)
 ·obtain⟨kv,k,st,pl,x,a,rfl,_⟩:=h
  rfl
 ·have nd:=yi.nd
  obtain⟨kv,k,st,pl,x,a,rfl,hK,ko,⟨px,rfl,hx⟩,na,q⟩:=h
  refine⟨_,(aB (bA (aj h_rounded (hr.mono (by decide)) rfl (aa (pv 0) (aa (bq bF (pv 1) (bw rfl T.gy) (fun _ _=>rfl)) (aa (bq bF (pv 1) (bw rfl T.dN) (fun _ _=>rfl)) (aa (bq bF (pv 1) (bw rfl T.dg) (fun _ _=>rfl)) af))))))),?_⟩
  sleep 2
  refine bP hx rfl ?_
  refine bP hx rfl ?_
  refine bP hx rfl ?_
  exact⟨kv,k,st,pl,a.s,a.w,a.p,rfl,hK,ko,dO na.w (by decide),by have:=na.lo;lia,fun H1 v1 s1 n1=>q H1 v1 s1 n1⟩
def qf(K:PySem.W.Frag):Sp:=fun vs H Q _=>∃(x:V) (a:Num),vs=[x]∧bI K H x a∧∀(H':Hp) (v:V),aH H H'→bI K H' v (kQ a)→Q v H'
abbrev jP:Stmt:=bJ 25
theorem mH:bz ["x"] ["x"] (aR jP):=⟨rfl,rfl,rfl,by decide+kernel,rfl,by decide+kernel,by decide+kernel⟩
theorem uC{f:Addr}{fd:FuncData}(F:eX K "without_sign" "without_sign" jP f fd)(T:Txt K mg aU aD aS):
  cA P w K mg base eS 1 f fd ["x"] (qf K):=by
 refine F.ok mH (fun vs H Q E h=>?_) (fun cdv A outer s H vs Q E hr h=>?_)
 ·obtain⟨x,a,rfl,_⟩:=h
  rfl
 ·have nd:=mH.nd
  obtain⟨x,a,rfl,⟨px,rfl,hx⟩,q⟩:=h
  refine⟨_,(aB (bA (fL (aa az (aa (bq bF (pv 0) (bw rfl T.dN) (fun _ _=>rfl)) (aa (bq bF (pv 0) (bw rfl T.dg) (fun _ _=>rfl)) af)))))),?_⟩
  sleep 2
  refine bP hx rfl ?_
  refine bP hx rfl ?_
  refine⟨by decide,fun p hp=>q _ _ (aH.upd hp) ?_⟩
  exact bI.new (n:=kQ a)
def fE(K:PySem.W.Frag):Sp:=fun vs H Q _=>∃(x y:V) (a b:Num),vs=[x,y]∧bI K H x a∧bI K H y b∧NB a∧NB b∧Q (.bl (dH a b)) H
abbrev qv:Stmt:=bJ 27
theorem tZ:bz ["x","y","power"] ["x","y"] (aR qv):=⟨rfl,rfl,rfl,by decide+kernel,rfl,by decide+kernel,by decide+kernel⟩
theorem BB{f:Addr}{fd:FuncData}(F:eX K "is_below" "is_below" qv f fd)(T:Txt K mg aU aD aS)(h_signed:di P w K mg base "signed" 1 ["x"] (kY K)):
  cA P w K mg base eS 2 f fd ["x","y"] (fE K):=by
 refine F.ok tZ (fun vs H Q E h=>?_) (fun cdv A outer s H vs Q E hr h=>?_)
 ·obtain⟨x,y,a,b,rfl,_⟩:=h
  rfl
 ·have nd:=tZ.nd
  obtain⟨x,y,a,b,rfl,⟨px,rfl,hx⟩,⟨py,rfl,hy⟩,na,nb,q⟩:=h
  refine⟨_,(ai (bB (i:=2) nd rfl (Or.inl rfl) (cE (pM rfl) (by rfl) T.xK Ao (aa (bq bF (pv 0) (bw rfl T.dg) (fun _ _=>rfl)) (aa (bq bF (pv 1) (bw rfl T.dg) (fun _ _=>rfl)) af))))
   (aB (bA (mq lM (bu fc (aj h_signed (hr.mono (by decide)) rfl (aa (pv 0) af)) (bu cX (bq bF (pv 0) (bw rfl T.dg) (fun _ _=>rfl)) (pv 2))) (bu fc (aj h_signed (hr.mono (by decide)) rfl (aa (pv 1) af)) (bu cX (bq bF (pv 1) (bw rfl T.dg) (fun _ _=>rfl)) (pv 2))) (cK _))))),?_⟩
  sleep 3
  refine bP hx rfl ?_
  refine bP hy rfl ?_
  sleep 3
  refine⟨_,_,⟨rfl,rfl⟩,?_⟩
  have em:(if b.p<a.p then b.p else a.p)=min a.p b.p:=by split<;>lia
  rw[em]
  refine⟨_,a,rfl,⟨px,rfl,hx⟩,?_⟩
  refine bP hx rfl ?_
  sleep 3
  refine⟨⟨by lia,by have:=na.hi;have:=na.lo;have:=nb.hi;have:=nb.lo;lia,?_⟩,?_⟩
  ·rw[lG]
   exact dO na.w (by decide)
  refine⟨_,b,rfl,⟨py,rfl,hy⟩,?_⟩
  refine bP hy rfl ?_
  sleep 3
  refine⟨⟨by lia,by have:=na.hi;have:=na.lo;have:=nb.hi;have:=nb.lo;lia,?_⟩,?_⟩
  ·rw[lG]
   exact dO nb.w (by decide)
  exact q
end
end TB
end
noncomputable section
namespace TB
open PySem PySem.Spec PyProof.Rows L2 TM
section
variable{P:Program}{w:World}{K:PySem.W.Frag}{mg:Str→Option Value}{base:Heap}{aU aD aS:Addr}
abbrev vV:Stmt:=bJ 31
def lg(K:PySem.W.Frag):Sp:=fun vs H Q _=>∃(kv:V) (k:Rb50.Kind) (st pl:Nat) (x y:V) (a b:Num),vs=[kv,x,y]∧iO K H kv k st pl∧kT k∧bI K H x a∧bI K H y b∧NB a∧NB b∧b.w≠0∧
 ∀(H':Hp) (v:V),aH H H'→bI K H' v (nR k a b)→Q v H'
theorem yr:bz ["kind","x","y","more","parts","whole"] ["kind","x","y"] (aR vV):=⟨rfl,rfl,rfl,by decide+kernel,rfl,by decide+kernel,by decide+kernel⟩
theorem Fv{f:Addr}{fd:FuncData}(F:eX K "divide" "divide" vV f fd)(T:Txt K mg aU aD aS)(h_rounded:di P w K mg base "rounded" 2 ["kind","sign","whole","power"] (fG K)):
  cA P w K mg base eS 3 f fd ["kind","x","y"] (lg K):=by
 refine F.ok yr (fun vs H Q E h=>?_) (fun cdv A outer s H vs Q E hr h=>?_)
 ·obtain⟨kv,k,st,pl,x,y,a,b,rfl,_⟩:=h
  rfl
 ·obtain⟨kv,k,st,pl,x,y,a,b,rfl,hK,ko,⟨px,rfl,hx⟩,⟨py,rfl,hy⟩,na,nb,hb0,q⟩:=h
  obtain⟨ka,rfl,hk⟩:=id hK
  have nd:=yr.nd
  refine⟨_,(ai (bB (i:=3) nd rfl (Or.inl rfl) (cE (yW rfl) (by rfl) T.B0 IW (aa az (aa (bu cX (bu cT (bu cT (bq bF (pv 0) (bw rfl T.iy) (fun _ _=>rfl)) az) (iT (bq bF (pv 2) (bw rfl T.dN) (fun _ _=>rfl)))) (iT (bq bF (pv 1) (bw rfl T.dN) (fun _ _=>rfl)))) af))))
   (ai (bB (i:=4) nd rfl (Or.inl rfl) (cE rZ (by rfl) T.oF yY (aa (bu fc (bq bF (pv 1) (bw rfl T.dN) (fun _ _=>rfl)) (pv 3)) (aa (bq bF (pv 2) (bw rfl T.dN) (fun _ _=>rfl)) af))))
   (ai (bB (i:=5) nd rfl (Or.inl rfl) (bu cT (bu gm (bq bF (pv 4) az (fun _ _=>rfl)) az) (fO (dD (bq bF (pv 4) az (fun _ _=>rfl))) az az)))
   (aB (bA (aj h_rounded (hr.mono (by decide)) rfl (aa (pv 0) (aa (bu HF (bq bF (pv 1) (bw rfl T.gy) (fun _ _=>rfl)) (bq bF (pv 2) (bw rfl T.gy) (fun _ _=>rfl))) (aa (pv 5) (aa (bu cX (bu cX (bu cX (bq bF (pv 1) (bw rfl T.dg) (fun _ _=>rfl)) (bq bF (pv 2) (bw rfl T.dg) (fun _ _=>rfl))) (pv 3)) az) af)))))))))),?_⟩
  sleep 2
  refine bP hk rfl ?_
  refine⟨_,rfl,?_⟩
  refine bP hy rfl ?_
  refine⟨trivial,_,rfl,?_⟩
  refine bP hx rfl ?_
  refine⟨trivial,_,rfl,_,_,⟨rfl,rfl⟩,?_⟩
  rw[iZ,iZ]
  have em:(if(0:Int)<((k.frac+1:Nat):Int)+2+(bl b.w:Int) - (bl a.w:Int)then((k.frac+1:Nat):Int)+2+(bl b.w:Int) - (bl a.w:Int)else 0)=((dc k a b:Nat):Int):=by
   unfold dc
   split<;>lia
  rw[em]
  clear em
  have hP:dc k a b≤400:=by
   have h1:bl b.w≤200:=dB nb.w
   have h2:=ko.fr
   unfold dc
   lia
  rw[Int.toNat_natCast]
  refine bP hx rfl ⟨_,rfl,⟨by lia,by lia,by rw[Int.natAbs_natCast];exact dO na.w (by decide)⟩,?_⟩
  refine bP hy rfl ⟨_,_,⟨rfl,rfl⟩,⟨by lia,?_⟩,fun p hp=>?_⟩
  ·have h1:=dO (b:=1000) nb.w (by decide)
   have h2:((b.w:Nat):Int)<((2^1000:Nat):Int):=Int.ofNat_lt.mpr h1
   rw[Int.natCast_pow]at h2
   exact h2
  have e0:(a.w:Int)*2^dc k a b=((a.w*2^dc k a b:Nat):Int):=by rw[Int.natCast_mul,Int.natCast_pow];rfl
  rw[e0,←Int.natCast_ediv,←Int.natCast_emod]
  have hA:a.w*2^dc k a b<2^600:=by
   refine Nat.lt_of_lt_of_le (Nat.mul_lt_mul_of_lt_of_le na.w (Nat.pow_le_pow_right (by decide) hP) (two_pos _)) ?_
   rw[←Nat.pow_add]
   exact Nat.pow_le_pow_right (by decide) (by decide)
  have hq:a.w*2^dc k a b / b.w<2^600:=Nat.lt_of_le_of_lt (Nat.div_le_self _ _) hA
  have s1:aH H (upd H p (.tup [.int ((a.w*2^dc k a b / b.w:Nat):Int),.int ((a.w*2^dc k a b%b.w:Nat):Int)])):=aH.upd hp
  refine bP (jF.of aF) rfl ⟨_,rfl,⟨by rw[Int.natAbs_natCast];exact dO hq (by decide),by show 2<2^100000;exact Nat.lt_of_lt_of_le (by decide:2<2^2) (Nat.pow_le_pow_right (by decide) (by decide))⟩,?_⟩
  refine bP (jF.of aF) rfl ?_
  have hx1:=aH.tup s1 hx
  have hy1:=aH.tup s1 hy
  have hw:a.w*2^dc k a b / b.w*2+1<2^70000:=by
   have h1:2^602≤2^70000:=Nat.pow_le_pow_right (by decide) (by decide)
   have h2:2^602=2^600*4:=Nat.pow_add 2 600 2
   generalize 2^70000=D at*
   generalize 2^602=C at*
   generalize 2^600=B at*
   lia
  have hlo: -70000≤a.p - b.p - dc k a b - 1:=by have:=na.lo;have:=nb.hi;lia
  have fin:∀(r:Nat),(if a.w*2^dc k a b%b.w=0 then 0 else 1)=r→fG K [V.ref ka,.int (sI (a.s != b.s)),.int ((a.w*2^dc k a b / b.w:Nat)*2+(r:Int)),.int (a.p - b.p - dc k a b - 1)] (upd H p (.tup [.int ((a.w*2^dc k a b / b.w:Nat):Int),.int ((a.w*2^dc k a b%b.w:Nat):Int)])) Q E0:=by
   intro r er
   refine⟨_,k,st,pl,a.s != b.s,a.w*2^dc k a b / b.w*2+r,a.p - b.p - dc k a b - 1,?_,hK.same s1,ko,?_,hlo,fun H2 v2 s2 n2=>q H2 v2 (s1.trans s2) ?_⟩
   ·rw[Int.natCast_add,Int.natCast_mul]
    rfl
   ·refine Nat.lt_of_le_of_lt ?_ hw
    rw[←er]
    split<;>lia
   ·unfold nR
    rw[er]
    exact n2
  by_cases c:a.w*2^dc k a b%b.w=0
  ·refine .inl ⟨?_,?_⟩
   ·show false=(((a.w*2^dc k a b%b.w:Nat):Int) != 0)
    rw[c]
    rfl
   ·refine bP hx1 rfl ?_
    refine bP hy1 rfl ⟨_,rfl,_,rfl,?_⟩
    refine bP hx1 rfl ?_
    refine bP hy1 rfl ⟨_,rfl,_,rfl,?_⟩
    rw[B7]
    have:=fin 0 (if_pos c)
    simpa using this
  ·refine .inr ⟨?_,?_⟩
   ·show true=(((a.w*2^dc k a b%b.w:Nat):Int) != 0)
    have:¬(((a.w*2^dc k a b%b.w:Nat):Int)=0):=by lia
    simpa using this
   ·refine bP hx1 rfl ?_
    refine bP hy1 rfl ⟨_,rfl,_,rfl,?_⟩
    refine bP hx1 rfl ?_
    refine bP hy1 rfl ⟨_,rfl,_,rfl,?_⟩
    rw[B7]
    have:=fin 1 (if_neg c)
    simpa using this
abbrev jk:Stmt:=bJ 35
def l5(K:PySem.W.Frag)(g:Num→Int):Sp:=fun vs H Q _=>∃(x:V) (a:Num),vs=[x]∧bI K H x a∧NB a∧Q (.int (g a)) H
theorem lA:bz ["x","value"] ["x"] (aR jk):=⟨rfl,rfl,rfl,by decide+kernel,rfl,by decide+kernel,by decide+kernel⟩
theorem sZ{f:Addr}{fd:FuncData}(F:eX K "nearest_whole" "nearest_whole" jk f fd)(T:Txt K mg aU aD aS)(h_signed:di P w K mg base "signed" 1 ["x"] (kY K))(h_halved:di P w K mg base "halved" 1 ["whole","times"] kZ):
  cA P w K mg base eS 2 f fd ["x"] (l5 K wk):=by
 refine F.ok lA (fun vs H Q E h=>?_) (fun cdv A outer s H vs Q E hr h=>?_)
 ·obtain⟨x,a,rfl,_⟩:=h
  rfl
 ·obtain⟨x,a,rfl,⟨px,rfl,hx⟩,na,q⟩:=h
  have nd:=lA.nd
  refine⟨_,(ai (cZ (bZ HG (bq bF (pv 0) (bw rfl T.dg) (fun _ _=>rfl)) az (cK _)) (aB (bA (bu fc (aj h_signed (hr.mono (by decide)) rfl (aa (pv 0) af)) (bq bF (pv 0) (bw rfl T.dg) (fun _ _=>rfl))))) cg)
   (ai (bB (i:=1) nd rfl (Or.inl rfl) (aj h_halved (hr.mono (by decide)) rfl (aa (bq bF (pv 0) (bw rfl T.dN) (fun _ _=>rfl)) (aa (nO jM (bq bF (pv 0) (bw rfl T.dg) (fun _ _=>rfl))) af))))
   (aB (bA (fO (dD (bq bF (pv 0) (bw rfl T.gy) (fun _ _=>rfl))) (nO jM (pv 1)) (pv 1)))))),?_⟩
  sleep 2
  have h1:=na.lo
  have h2:=na.hi
  refine bP hx rfl ?_
  sleep 2
  unfold wk at q
  by_cases c:0≤a.p
  ·rw[if_pos c]at q⊢
   refine⟨_,a,rfl,⟨px,rfl,hx⟩,?_⟩
   refine bP hx rfl ?_
   exact⟨_,rfl,_,rfl,⟨c,by lia,by rw[lG];exact dO na.w (by decide)⟩,q⟩
  ·rw[if_neg c]at q⊢
   refine bP hx rfl ?_
   refine bP hx rfl ⟨_,rfl,?_⟩
   refine⟨a.w,(-a.p).toNat,by rw[Int.toNat_of_nonneg (by lia)],by lia,by lia,dO na.w (by decide),?_⟩
   refine bP hx rfl ?_
   unfold sgn at q
   by_cases d:a.s=true
   ·rw[if_pos d,Int.neg_one_mul]at q
    refine .inr ⟨?_,_,rfl,q⟩
    show true=(sI a.s != 0)
    rw[DP,d]
   ·rw[if_neg d,Int.one_mul]at q
    refine .inl ⟨?_,q⟩
    show false=(sI a.s != 0)
    rw[DP]
    simpa using d
abbrev kL:Stmt:=bJ 36
theorem m8:bz ["x"] ["x"] (aR kL):=⟨rfl,rfl,rfl,by decide+kernel,rfl,by decide+kernel,by decide+kernel⟩
theorem wI{f:Addr}{fd:FuncData}(F:eX K "whole_below" "whole_below" kL f fd)(T:Txt K mg aU aD aS)(h_signed:di P w K mg base "signed" 1 ["x"] (kY K)):
  cA P w K mg base eS 2 f fd ["x"] (l5 K wu):=by
 refine F.ok m8 (fun vs H Q E h=>?_) (fun cdv A outer s H vs Q E hr h=>?_)
 ·obtain⟨x,a,rfl,_⟩:=h
  rfl
 ·obtain⟨x,a,rfl,⟨px,rfl,hx⟩,na,q⟩:=h
  have nd:=m8.nd
  refine⟨_,(ai (cZ (bZ HG (bq bF (pv 0) (bw rfl T.dg) (fun _ _=>rfl)) az (cK _)) (aB (bA (bu fc (aj h_signed (hr.mono (by decide)) rfl (aa (pv 0) af)) (bq bF (pv 0) (bw rfl T.dg) (fun _ _=>rfl))))) cg)
   (aB (bA (bu wG (aj h_signed (hr.mono (by decide)) rfl (aa (pv 0) af)) (nO jM (bq bF (pv 0) (bw rfl T.dg) (fun _ _=>rfl))))))),?_⟩
  sleep 2
  have h1:=na.lo
  have h2:=na.hi
  refine bP hx rfl ?_
  sleep 2
  unfold wu at q
  by_cases c:0≤a.p
  ·rw[if_pos c]at q⊢
   refine⟨_,a,rfl,⟨px,rfl,hx⟩,?_⟩
   refine bP hx rfl ?_
   exact⟨_,rfl,_,rfl,⟨c,by lia,by rw[lG];exact dO na.w (by decide)⟩,q⟩
  ·rw[if_neg c]at q⊢
   refine⟨_,a,rfl,⟨px,rfl,hx⟩,?_⟩
   refine bP hx rfl ?_
   refine⟨_,rfl,_,rfl,by lia,q⟩
end
end TB
end
noncomputable section
namespace TB
open PySem PySem.Spec PyProof.Rows L2 TM
section
variable{P:Program}{w:World}{K:PySem.W.Frag}{mg:Str→Option Value}{base:Heap}{aU aD aS:Addr}
def pR:Sp:=fun vs H Q _=>∃v:Nat,vs=[.int v]∧v<2^1000∧Q (.int (rt v)) H
abbrev l9:Stmt:=bJ 32
theorem pT:bz ["value","found"] ["value"] (aR l9):=⟨rfl,rfl,rfl,by decide+kernel,rfl,by decide+kernel,by decide+kernel⟩
theorem xW{f:Addr}{fd:FuncData}(F:eX K "whole_root" "whole_root" l9 f fd)(T:Txt K mg aU aD aS):
  cA P w K mg base eS 1 f fd ["value"] pR:=by
 refine F.ok pT (fun vs H Q E h=>?_) (fun cdv A outer s H vs Q E hr h=>?_)
 ·obtain⟨v,rfl,_⟩:=h
  rfl
 ·have nd:=pT.nd
  obtain⟨v,rfl,hv,q⟩:=h
  refine⟨_,(ai (bB (i:=1) nd rfl (Or.inl rfl) (bu fc az (bu gc (bu cT (iT (pv 0)) az) az)))
   (ai (nI PassesOwn.never (bZ uf (bu gm (pv 1) (pv 1)) (pv 0) (cK _))
    (aB (bB (i:=1) nd rfl (Or.inl rfl) (bu gc (bu cT (pv 1) (bu gc (pv 0) (pv 1))) az))))
   (aB (bA (pv 1))))),?_⟩
  have hbl:bl v≤1000:=dB hv
  sleep 3
  rw[iZ]
  have e1:((bl v:Int)+1) / 2=(((bl v+1) / 2:Nat):Int):=by lia
  refine⟨⟨by decide,by decide+kernel⟩,⟨by lia,by lia,Nat.one_lt_two_pow (by decide)⟩,?_⟩
  rw[e1,Int.toNat_natCast]
  refine mY (fun σ H'=>∃f:Nat,rt v≤f∧f≤2^600∧σ=[some (.int v),some (.int f)]∧H'=H) (fun σ _=>match σ with|[_,some (.int f)]=>f.toNat|_=>0)
   ⟨2^((bl v+1) / 2),Hh v,Nat.pow_le_pow_right (by decide) (by lia),by simp[Int.natCast_pow],rfl⟩ ?_ ?_
  ·rintro σ H' ⟨f,h1,h2,rfl,rfl⟩
   sleep 3
   have hf:f<2^601:=Nat.lt_of_le_of_lt h2 ((Nat.pow_lt_pow_iff_right (by decide)).mpr (by decide))
   refine⟨⟨dO (b:=100000) hf (by decide),dO (b:=100000) hf (by decide)⟩,?_⟩
   by_cases c:v<f*f
   ·have ci:(v:Int)<(f:Int)*(f:Int):=by rw[←Int.natCast_mul];lia
    rw[if_pos ci]
    have hlt:=Fz c
    have hf0:0<f:=by
     rcases Nat.eq_zero_or_pos f with z|z
     ·rw[z]at c;lia
     ·exact z
    have hge:=FA hf0 (yx v).1
    have ed:(v:Int) / (f:Int)=((v / f:Nat):Int):=by rw[Int.natCast_ediv]
    rw[ed]
    have e2:((f:Int)+((v / f:Nat):Int)) / 2=(((f+v / f) / 2:Nat):Int):=by lia
    rw[e2]
    refine⟨⟨by lia,?_⟩,⟨by decide,by decide+kernel⟩,⟨_,hge,by lia,rfl⟩,by rw[Int.toNat_natCast];exact hlt⟩
    have:((f:Nat):Int)<((2^1000:Nat):Int):=Int.ofNat_lt.mpr (Nat.lt_of_lt_of_le hf (Nat.pow_le_pow_right (by decide) (by decide)))
    rw[Int.natCast_pow]at this
    exact this
   ·have ci:¬(v:Int)<(f:Int)*(f:Int):=by rw[←Int.natCast_mul];lia
    rw[if_neg ci,LG (by lia) h1]
    exact q
  ·intro σ H1 Q1 Q2 hQ h
   obtain⟨a,ha,b,hb,i,j,e1,e2,c,⟨d,hd,i',j',e3,e4,k,e5,h6⟩⟩:=h
   exact⟨a,ha,b,hb,i,j,e1,e2,c,⟨d,hd,i',j',e3,e4,k,e5,hQ _ _ h6⟩⟩
def Dy(K:PySem.W.Frag):Sp:=fun vs H Q _=>∃(kv:V) (k:Rb50.Kind) (st pl:Nat) (x:V) (a:Num),vs=[kv,x]∧iO K H kv k st pl∧kT k∧bI K H x a∧NB a∧∀(H':Hp) (v:V),aH H H'→bI K H' v (lI k a)→Q v H'
abbrev Cw:Stmt:=bJ 33
theorem DK:bz ["kind","x","more","square","found","whole"] ["kind","x"] (aR Cw):=⟨rfl,rfl,rfl,by decide+kernel,rfl,by decide+kernel,by decide+kernel⟩
theorem J2{f:Addr}{fd:FuncData}(F:eX K "root" "root" Cw f fd)(T:Txt K mg aU aD aS)(h_whole_root:di P w K mg base "whole_root" 1 ["value"] pR)(h_rounded:di P w K mg base "rounded" 2 ["kind","sign","whole","power"] (fG K)):
  cA P w K mg base eS 3 f fd ["kind","x"] (Dy K):=by
 refine F.ok DK (fun vs H Q E h=>?_) (fun cdv A outer s H vs Q E hr h=>?_)
 ·obtain⟨kv,k,st,pl,x,a,rfl,_⟩:=h
  rfl
 ·have nd:=DK.nd
  obtain⟨kv,k,st,pl,x,a,rfl,hK,ko,⟨px,rfl,hx⟩,na,q⟩:=h
  obtain⟨ka,rfl,hk⟩:=hK
  have k2:=ko.fr
  have n1:=na.w
  have n2:=na.lo
  have n3:=na.hi
  refine⟨_,(ai (bB (i:=2) nd rfl (Or.inl rfl) (cE (yW rfl) (by rfl) T.B0 IW (aa az (aa (bu cX (bu gm az (bu cT (bq bF (pv 0) (bw rfl T.iy) (fun _ _=>rfl)) az)) (iT (bq bF (pv 1) (bw rfl T.dN) (fun _ _=>rfl)))) af))))
   (ai (bB (i:=2) nd rfl (Or.inl rfl) (bu cT (pv 2) (bu gS (bu cX (bq bF (pv 1) (bw rfl T.dg) (fun _ _=>rfl)) (pv 2)) az)))
   (ai (bB (i:=3) nd rfl (Or.inl rfl) (bu fc (bq bF (pv 1) (bw rfl T.dN) (fun _ _=>rfl)) (pv 2)))
   (ai (bB (i:=4) nd rfl (Or.inl rfl) (aj h_whole_root (hr.mono (by decide)) rfl (aa (pv 3) af)))
   (ai (bB (i:=5) nd rfl (Or.inl rfl) (bu cT (bu gm (pv 4) az) (fO (bZ lM (bu gm (pv 4) (pv 4)) (pv 3) (cK _)) az az)))
   (aB (bA (aj h_rounded (hr.mono (by decide)) rfl (aa (pv 0) (aa az (aa (pv 5) (aa (bu cX (bu gc (bu cX (bq bF (pv 1) (bw rfl T.dg) (fun _ _=>rfl)) (pv 2)) az) az) af)))))))))))),?_⟩
  sleep 3
  refine bP hk rfl ?_
  sleep 3
  have hJ:pJ k a≤300:=by unfold pJ K4;lia
  have hsq:a.w*2^pJ k a<2^900:=by
   have h1:a.w*2^pJ k a<2^200*2^pJ k a:=Nat.mul_lt_mul_of_pos_right n1 (two_pos _)
   rw[←Nat.pow_add]at h1
   exact Nat.lt_of_lt_of_le h1 (Nat.pow_le_pow_right (by decide) (by lia))
  have hR:rt (a.w*2^pJ k a)<2^900:=by
   have:=(yx (a.w*2^pJ k a)).1
   refine Nat.lt_of_le_of_lt ?_ hsq
   refine Nat.le_trans ?_ this
   rcases Nat.eq_zero_or_pos (rt (a.w*2^pJ k a))with z|z
   ·rw[z];exact Nat.zero_le _
   ·exact Nat.le_mul_of_pos_left _ z
  refine⟨⟨by decide+kernel,Nat.lt_of_lt_of_le (m:=2^10) (by lia) (Nat.pow_le_pow_right (by decide) (by decide))⟩,?_⟩
  refine bP hx rfl ?_
  refine⟨trivial,_,rfl,_,_,⟨rfl,rfl⟩,?_⟩
  have em:(if(0:Int)<2*((k.frac:Int)+1+2) - (bl a.w:Int)then 2*((k.frac:Int)+1+2) - (bl a.w:Int)else 0)=(K4 k a:Int):=by unfold K4;split<;>lia
  have eJ:(K4 k a:Int)+(a.p - (K4 k a:Int))%2=(pJ k a:Int):=by unfold pJ;lia
  refine bP hx rfl ?_
  refine⟨_,rfl,?_⟩
  refine bP hx rfl ?_
  refine⟨_,rfl,?_⟩
  simp only[iZ,em,eJ,Int.toNat_natCast]
  refine⟨⟨by lia,by lia,by rw[Int.natAbs_natCast];exact dO (b:=100000) n1 (by decide)⟩,?_⟩
  have esq:(a.w:Int)*2^pJ k a=((a.w*2^pJ k a:Nat):Int):=by rw[Int.natCast_mul,Int.natCast_pow];rfl
  simp only[esq]
  generalize hS:a.w*2^pJ k a=S at*
  refine⟨S,rfl,Nat.lt_of_lt_of_le hsq (Nat.pow_le_pow_right (by decide) (by decide)),?_⟩
  have hRb:((rt S:Nat):Int).natAbs<2^100000:=by rw[Int.natAbs_natCast];exact dO (b:=100000) hR (by decide)
  refine⟨_,rfl,⟨hRb,by decide+kernel⟩,_,rfl,_,rfl,⟨hRb,hRb⟩,?_⟩
  have fin:∀e:Nat,(if rt S*rt S<S then 1 else 0)=e→fG K [V.ref ka,V.int 0,V.int (((rt S:Nat):Int)*2+(e:Int)),V.int ((a.p - (pJ k a:Int)) / 2 - 1)] H Q E0:=by
   intro e he
   have ew:((rt S:Nat):Int)*2+(e:Int)=((rt S*2+e:Nat):Int):=by lia
   rw[ew]
   refine⟨_,k,st,pl,false,_,_,rfl,⟨ka,rfl,hk⟩,ko,?_,by lia,fun H' v s' n'=>q H' v s' ?_⟩
   ·have h901:rt S*2+e<2^902:=by
     have e1:e≤1:=by rw[←he];split<;>lia
     have e2:(2:Nat)^902=4*2^900:=by rw[show(902:Nat)=2+900 from rfl,Nat.pow_add]
     rw[e2]
     generalize (2:Nat)^900=Z at*
     lia
    exact dO h901 (by decide)
   ·unfold lI
    rw[hS,he]
    exact n'
  by_cases c:rt S*rt S<S
  ·rw[if_pos (by rw[←Int.natCast_mul];lia)]
   refine bP hx rfl ?_
   exact⟨_,rfl,⟨by decide,by decide+kernel⟩,fin 1 (if_pos c)⟩
  ·rw[if_neg (by rw[←Int.natCast_mul];lia)]
   refine bP hx rfl ?_
   have:=fin 0 (if_neg c)
   rw[show((rt S:Nat):Int)*2+((0:Nat):Int)=((rt S:Nat):Int)*2 by lia]at this
   exact⟨_,rfl,⟨by decide,by decide+kernel⟩,this⟩
end
end TB
end
noncomputable section
namespace TB
open PySem PySem.Spec PyProof.Rows L2 TM
section
variable{P:Program}{w:World}{K:PySem.W.Frag}{mg:Str→Option Value}{base:Heap}{aU aD aS:Addr}
theorem xM(m n:Nat):Builtin.bitAnd (m:Int) ((2:Int)^n - 1)=((m%2^n:Nat):Int):=by
 have hp:=lS n
 rw[bitAnd_pp (by lia) (by lia),Int.toNat_natCast]
 have e:((2:Int)^n - 1).toNat=2^n - 1:=by
  have:=two_pos n
  rw[←ie]
  lia
 rw[e,Nat.and_two_pow_sub_one_eq_mod]
abbrev kM:Stmt:=bJ 37
def gW(K:PySem.W.Frag):Sp:=fun vs H Q _=>∃(kv:V) (k:Rb50.Kind) (st pl:Nat) (x:V) (a:Num) (c:Int),vs=[kv,x]∧iO K H kv k st pl∧kT k∧bI K H x a∧NB a∧Ok k (dR k a) c∧c≤30000∧st≤100∧pl≤100∧
 ∀(H':Hp),aH H H'→Q (.int (rJ k st pl (dR k a))) H'
theorem m9:bz ["kind","x","near","sign","spare","whole","field"] ["kind","x"] (aR kM):=⟨rfl,rfl,rfl,by decide+kernel,rfl,by decide+kernel,by decide+kernel⟩
theorem wJ{f:Addr}{fd:FuncData}(F:eX K "stored_bits" "stored_bits" kM f fd)(T:Txt K mg aU aD aS)(h_turned:di P w K mg base "turned" 3 ["kind","x"] (kX K)):
  cA P w K mg base eS 4 f fd ["kind","x"] (gW K):=by
 refine F.ok m9 (fun vs H Q E h=>?_) (fun cdv A outer s H vs Q E hr h=>?_)
 ·obtain⟨kv,k,st,pl,x,a,c,rfl,_⟩:=h
  rfl
 ·obtain⟨kv,k,st,pl,x,a,c,rfl,hK,ko,⟨px,rfl,hx⟩,na,ok,hc,hst,hpl,q⟩:=h
  have nd:=m9.nd
  refine⟨_,(ai (bB (i:=2) nd rfl (Or.inl rfl) (aj h_turned (hr.mono (by decide)) rfl (aa (pv 0) (aa (pv 1) af))))
   (ai (bB (i:=3) nd rfl (Or.inl rfl) (bu fc (bq bF (pv 2) (bw rfl T.gy) (fun _ _=>rfl)) (bq bF (pv 0) (bw rfl T.iu) (fun _ _=>rfl))))
   (ai (bB (i:=4) nd rfl (Or.inl rfl) (cE (pM rfl) (by rfl) T.xK Ao (aa (bu cX (bq bF (pv 0) (bw rfl T.iy) (fun _ _=>rfl)) (iT (bq bF (pv 2) (bw rfl T.dN) (fun _ _=>rfl)))) (aa (bu cX (bq bF (pv 2) (bw rfl T.dg) (fun _ _=>rfl)) (bq bF (pv 0) (bw rfl T.jC) (fun _ _=>rfl))) af))))
   (ai (bB (i:=5) nd rfl (Or.inl rfl) (bu wG (bu fc (bq bF (pv 2) (bw rfl T.dN) (fun _ _=>rfl)) (bu cT (pv 4) az)) az))
   (ai (cZ (bZ lM (iT (pv 5)) (bq bF (pv 0) (bw rfl T.iy) (fun _ _=>rfl)) (cK _)) (aB (bA (bu cT (pv 3) (pv 5)))) cg)
   (ai (bB (i:=6) nd rfl (Or.inl rfl) (bu cT (bu cX (bu cX (bq bF (pv 2) (bw rfl T.dg) (fun _ _=>rfl)) (pv 4)) (bq bF (pv 0) (bw rfl T.jC) (fun _ _=>rfl))) az))
   (aB (bA (bu cT (bu cT (pv 3) (bu fc (pv 6) (bq bF (pv 0) (bw rfl T.lP) (fun _ _=>rfl)))) (bu wH (pv 5) (bu cX (bu fc az (bq bF (pv 0) (bw rfl T.lP) (fun _ _=>rfl))) az))))))))))),?_⟩
  sleep 2
  refine⟨kv,k,st,pl,.ref px,a,rfl,hK,ko,⟨px,rfl,hx⟩,na,fun H1 v1 s1 n1=>?_⟩
  have q1:=q H1 s1
  obtain⟨pn,rfl,hn⟩:bI K H1 v1 (dR k a):=n1
  obtain⟨ka,rfl,hk⟩:=hK.same s1
  have sp:=AX ok
  have h1:=ok.lo
  have h2:=ok.hi
  have h3:=ok.w
  have k1:=ko.lo
  have k2:=ko.fr
  revert q1 hn sp h1 h2 h3
  generalize dR k a=n
  intro q1 hn sp h1 h2 h3
  have h4:n.w<2^200:=Nat.lt_of_le_of_lt h3 ((Nat.pow_lt_pow_iff_right (by decide)).mpr (by lia))
  refine bP hn rfl ?_
  refine bP hk rfl ?_
  refine⟨_,rfl,_,rfl,⟨by lia,by lia,?_⟩,?_⟩
  ·have:(sI n.s).natAbs≤1:=by unfold sI;split<;>decide
   exact Nat.lt_of_le_of_lt this (Nat.one_lt_two_pow (by decide))
  refine bP hk rfl ?_
  refine bP hn rfl ?_
  refine⟨trivial,_,rfl,_,rfl,?_⟩
  refine bP hn rfl ?_
  refine bP hk rfl ?_
  refine⟨_,rfl,_,rfl,_,_,⟨rfl,rfl⟩,?_⟩
  rw[iZ]
  have es:(if n.p - k.least<((k.frac+1:Nat):Int) - (bl n.w:Int)then n.p - k.least else((k.frac+1:Nat):Int) - (bl n.w:Int))=dG k n:=by
   unfold dG
   split<;>lia
  rw[es]
  have hsp:dG k n≤50000:=by unfold dG;lia
  have hm:(n.w:Int)*2^(dG k n+1).toNat / 2=((ju k n:Nat):Int):=by
   unfold ju
   rw[Int.natCast_ediv,Int.natCast_mul,Int.natCast_pow]
   rfl
  have hsg:sI n.s*2^((pl:Nat):Int).toNat=(((if n.s=true then 2^pl else 0:Nat)):Int):=by
   rw[Int.toNat_natCast]
   unfold sI
   split
   ·rw[Int.one_mul,Int.natCast_pow];rfl
   ·rw[Int.zero_mul];rfl
  refine bP hn rfl ⟨_,rfl,⟨by lia,by lia,by rw[Int.natAbs_natCast];exact dO h4 (by decide)⟩,?_⟩
  refine bP hk rfl ⟨_,rfl,?_⟩
  rw[hm,hsg,iZ]
  unfold rJ at q1
  by_cases cb:bl (ju k n)<k.frac+1
  ·rw[if_pos (by lia)]
   rw[if_pos cb,Int.natCast_add]at q1
   exact q1
  ·rw[if_neg (by lia)]
   rw[if_neg cb,Int.natCast_add,Int.natCast_add,Int.natCast_mul]at q1
   have hf:0≤n.p - dG k n - k.least+1:=by unfold dG;lia
   refine bP hn rfl ⟨_,rfl,?_⟩
   refine bP hk rfl ⟨_,rfl,?_⟩
   refine bP hk rfl ⟨_,rfl,⟨by lia,by lia,?_⟩,?_⟩
   ·exact Nat.lt_of_lt_of_le (m:=2^20) (by have:dG k n≤50000:=hsp;lia) (Nat.pow_le_pow_right (by decide) (by decide))
   refine bP hk rfl ⟨_,rfl,⟨by lia,by lia,Nat.one_lt_two_pow (by decide)⟩,?_⟩
   rw[Int.toNat_natCast,xM]
   have e2:((n.p - dG k n - k.least+1).toNat:Int)=n.p - dG k n - k.least+1:=by lia
   rw[e2,Int.natCast_pow,←Int.add_assoc]at q1
   exact q1
abbrev nq:Stmt:=bJ 23
def g8(K:PySem.W.Frag):Sp:=fun vs H Q _=>∃z:Nat,vs=[.int z]∧z<2^32∧∀(H':Hp) (v:V),aH H H'→bI K H' v (gX Rb50.SINGLE z)→Q v H'
theorem qR:bz ["bits","sign","field","whole"] ["bits"] (aR nq):=⟨rfl,rfl,rfl,by decide+kernel,rfl,by decide+kernel,by decide+kernel⟩
theorem zU{f:Addr}{fd:FuncData}(F:eX K "of_single" "of_single" nq f fd)(T:Txt K mg aU aD aS):cA P w K mg base eS 1 f fd ["bits"] (g8 K):=by
 refine F.ok qR (fun vs H Q E h=>?_) (fun cdv A outer s H vs Q E hr h=>?_)
 ·obtain⟨z,rfl,_⟩:=h
  rfl
 ·obtain⟨z,rfl,hz,q⟩:=h
  have nd:=qR.nd
  have ht:=T.m5.at H
  refine⟨_,(ai (bB (i:=1) nd rfl (Or.inl rfl) (bu wG (pv 0) (bq bF (cG rfl T.cu) (bw rfl T.iu) (fun _ _=>rfl))))
   (ai (bB (i:=2) nd rfl (Or.inl rfl) (bu wH (bu wG (pv 0) (bq bF (cG rfl T.cu) (bw rfl T.lP) (fun _ _=>rfl))) az))
   (ai (bB (i:=3) nd rfl (Or.inl rfl) (bu wH (pv 0) (bu cX (bw rfl T.eU) az)))
   (ai (cZ (bZ je (pv 2) az (cK _)) (aB (bA (fL (aa (pv 1) (aa (pv 3) (aa (bq bF (cG rfl T.cu) (bw rfl T.jC) (fun _ _=>rfl)) af)))))) cg)
   (aB (bA (fL (aa (pv 1) (aa (bu cT (pv 3) (bw rfl T.eU)) (aa (bu cX (bu cT (bq bF (cG rfl T.cu) (bw rfl T.jC) (fun _ _=>rfl)) (pv 2)) az) af)))))))))),?_⟩
  sleep 2
  refine bP ht rfl ⟨_,rfl,by decide,?_⟩
  refine bP ht rfl ⟨_,rfl,by decide,?_⟩
  have m23:Builtin.bitAnd (z:Int) 8388607=((z%2^23:Nat):Int):=xM z 23
  have f8:Builtin.bitAnd ((z:Int) / 2^((23:Nat):Int).toNat) 255=((z / 2^23%2^8:Nat):Int):=by
   have:(z:Int) / 2^((23:Nat):Int).toNat=((z / 2^23:Nat):Int):=by rw[Int.natCast_ediv,Int.natCast_pow];rfl
   rw[this]
   exact xM (z / 2^23) 8
  have s31:(z:Int) / 2^((31:Nat):Int).toNat=sI (Rb50.negative Rb50.SINGLE z):=by
   have e1:(z:Int) / 2^((31:Nat):Int).toNat=((z / 2^31:Nat):Int):=by rw[Int.natCast_ediv,Int.natCast_pow];rfl
   rw[e1]
   unfold Rb50.negative sI
   have e2:Rb50.SINGLE.sign=2^31:=rfl
   rw[e2]
   by_cases c:2^31≤z
   ·rw[if_pos (decide_eq_true c)];lia
   ·rw[if_neg (by simpa using c)];lia
  have ef:Rb50.field Rb50.SINGLE z=z / 2^23%2^8:=rfl
  have el:Rb50.SINGLE.least=-149:=dw
  rw[f8,s31,m23]
  clear f8 s31 m23
  by_cases c:z / 2^23%2^8=0
  ·rw[if_pos (by rw[c];rfl)]
   refine bP ht rfl ⟨by decide,fun p hp=>q _ _ (aH.upd hp) ?_⟩
   have e:gX Rb50.SINGLE z=⟨Rb50.negative Rb50.SINGLE z,z%2^23,Rb50.SINGLE.least⟩:=by
    unfold gX Rb50.whole
    rw[ef,if_pos c]
    rfl
   rw[e]
   exact bI.new (n:=⟨Rb50.negative Rb50.SINGLE z,z%2^23,Rb50.SINGLE.least⟩)
  ·rw[if_neg (by lia)]
   refine bP ht rfl ⟨_,rfl,by decide,fun p hp=>q _ _ (aH.upd hp) ?_⟩
   have e:gX Rb50.SINGLE z=⟨Rb50.negative Rb50.SINGLE z,z%2^23+2^23,Rb50.SINGLE.least+((z / 2^23%2^8:Nat):Int) - 1⟩:=by
    unfold gX Rb50.whole
    rw[ef,if_neg c]
    rfl
   rw[e]
   have:=bI.new (K:=K) (H:=H) (p:=p) (n:=⟨Rb50.negative Rb50.SINGLE z,z%2^23+2^23,Rb50.SINGLE.least+((z / 2^23%2^8:Nat):Int) - 1⟩)
   unfold nl at this
   rw[Int.natCast_add]at this
   exact this
end
end TB
end
noncomputable section
namespace TB
open PySem PySem.Spec PyProof.Rows L2 TM
section
variable{P:Program}{w:World}{K:PySem.W.Frag}{mg:Str→Option Value}{base:Heap}{aU aD aS:Addr}
theorem NB.of_ok{n:Num}{c:Int}(o:Ok Rb50.EXT n c)(h:c≤30000):NB n:=by
 have h1:=o.lo
 have h2:=o.hi
 rw[dQ]at h1
 exact⟨Nat.lt_of_le_of_lt o.w ((Nat.pow_lt_pow_iff_right (by decide)).mpr (by decide)),by lia,by lia⟩
theorem NB.cY{n:Num}{c:Int}(o:Ok Rb50.SINGLE n c)(h:c≤30000):NB n:=by
 have h1:=o.lo
 have h2:=o.hi
 rw[dw]at h1
 exact⟨Nat.lt_of_le_of_lt o.w ((Nat.pow_lt_pow_iff_right (by decide)).mpr (by decide)),by lia,by lia⟩
theorem gB:kT Rb50.EXT:=⟨by decide,by decide,by decide⟩
theorem cF:kT Rb50.SINGLE:=⟨by decide,by decide,by decide⟩
theorem FO:kT Rb50.DOUBLE:=⟨by decide,by decide,by decide⟩
theorem Txt.unit(T:Txt K mg aU aD aS)(H:Hp):iO K H (.ref aU) Rb50.EXT 64 79:=⟨aU,rfl,T.vj.at H⟩
theorem Txt.single(T:Txt K mg aU aD aS)(H:Hp):iO K H (.ref aS) Rb50.SINGLE 23 31:=⟨aS,rfl,T.m5.at H⟩
theorem Txt.double(T:Txt K mg aU aD aS)(H:Hp):iO K H (.ref aD) Rb50.DOUBLE 52 63:=⟨aD,rfl,T.qI.at H⟩
def oH(K:PySem.W.Frag)(H:Hp):List V→List Num→Prop:=Paired fun v n=>bI K H v n
theorem oH.get{H:Hp}:∀{vs:List V} {ns:List Num},oH K H vs ns→∀{i:Nat} {v:V},vs[i]?=some v→∃n,ns[i]?=some n∧bI K H v n
 |_,_,.nil,i,v,e=>by simp at e
 |_,_,.cons r _,0,v,e=>by simp at e;subst e;exact⟨_,rfl,r⟩
 |_,_,.cons _ t,i+1,v,e=>by
  obtain⟨n,h1,h2⟩:=oH.get t (i:=i) (v:=v) (by simpa using e)
  exact⟨n,by simpa using h1,h2⟩
theorem F7(x:V)(xs:List V):pP (x::xs) (some 1) none=xs:=by
 have h1:HT.gC (x::xs).length 0 (some 1)=1:=by
  unfold HT.gC
  simp
  try lia
 have h2:HT.gC (x::xs).length (x::xs).length none=(x::xs).length:=rfl
 unfold pP
 rw[h1,h2]
 simp
def IsPair(K:PySem.W.Frag)(H:Hp)(v:V)(t:Nat×Int):Prop:=∃p,v=.ref p∧jF K H p [.int t.1,.int t.2]
def jH(K:PySem.W.Frag)(H:Hp):List V→List (Nat×Int)→Prop:=Paired fun v t=>IsPair K H v t
theorem jH.get{H:Hp}:∀{vs:List V} {ns:List (Nat×Int)},jH K H vs ns→∀{i:Nat} {v:V},vs[i]?=some v→∃n,ns[i]?=some n∧IsPair K H v n
 |_,_,.nil,i,v,e=>by simp at e
 |_,_,.cons r _,0,v,e=>by simp at e;subst e;exact⟨_,rfl,r⟩
 |_,_,.cons _ t,i+1,v,e=>by
  obtain⟨n,h1,h2⟩:=jH.get t (i:=i) (v:=v) (by simpa using e)
  exact⟨n,by simpa using h1,h2⟩
theorem jH.last{H:Hp}:∀{x:V} {vs:List V} {t:Nat×Int} {ns:List (Nat×Int)},IsPair K H x t→jH K H vs ns→∃y,zd (x::vs) (-1)=some y∧IsPair K H y (ns.getLastD t):=by
 intro x vs t ns hx h
 have hl:vs.length=ns.length:=Paired.length h
 have hlast:∃y,(x::vs)[vs.length]?=some y∧IsPair K H y (ns.getLastD t):=by
  induction h generalizing x t with
  |nil=>exact⟨x,rfl,hx⟩
  |@cons a b l m r _ ih=>
   obtain⟨y,h1,h2⟩:=ih r (by simpa using hl)
   refine⟨y,by simpa using h1,?_⟩
   rw[List.getLastD_cons]
   exact h2
 obtain⟨y,h1,h2⟩:=hlast
 refine⟨y,?_,h2⟩
 have e:K8 (x::vs).length (-1)=some vs.length:=by
  unfold K8
  rw[List.length_cons,if_neg (by decide),if_pos (by lia)]
  congr 1
  lia
 unfold zd
 rw[e]
 exact h1
def pat(f:Nat)(fp:Int)(t:Nat×Int)(r:List (Nat×Int))(i:Nat):Nat×Int:=(r.take i).foldl (Aw f fp) t
theorem Hz{f:Nat}{fp:Int}{t b:Nat×Int}{r:List (Nat×Int)}{i:Nat}(h:r[i]?=some b):pat f fp t r (i+1)=Aw f fp (pat f fp t r i) b:=by
 unfold pat
 rw[List.take_succ,h,List.foldl_append]
 rfl
theorem GV{f:Nat}{fp:Int}:∀{r:List (Nat×Int)} {t:Nat×Int},xN f fp t r→∀{i:Nat} {b:Nat×Int},r[i]?=some b→Av f fp (pat f fp t r i) b
 |[],t,_,i,b,e=>by simp at e
 |c::r,t,h,0,b,e=>by
  simp at e
  subst e
  exact h.1
 |c::r,t,h,i+1,b,e=>GV (r:=r) h.2 (by simpa using e)
def ye(K:PySem.W.Frag):Sp:=fun vs H Q _=>∃(ta:Addr) (x:V) (xs:List V) (uv:V) (t:Nat×Int) (r:List (Nat×Int)) (u:Num),vs=[.ref ta,uv]∧jF K H ta (x::xs)∧IsPair K H x t∧jH K H xs r∧bI K H uv u∧Mp u∧(u.w≠0→xN (nN u) (DZ u) t r)∧
 ∀(H':Hp) (v:V),aH H H'→bI K H' v (gw (t::r) u)→Q v H'
abbrev vM:Stmt:=bJ 44
theorem yk:bz ["terms","u","places","spare","factor","factor_power","whole","power","term","product","over","rest"] ["terms","u"] (aR vM):=⟨rfl,rfl,rfl,by decide+kernel,rfl,by decide+kernel,by decide+kernel⟩
theorem Fi{f:Addr}{fd:FuncData}(F:eX K "series" "series" vM f fd)(T:Txt K mg aU aD aS)(h_halved:di P w K mg base "halved" 1 ["whole","times"] kZ):
  cA P w K mg base eS 4 f fd ["terms","u"] (ye K):=by
 refine F.ok yk (fun vs H Q E h=>?_) (fun cdv A outer s H vs Q E hr h=>?_)
 ·obtain⟨ta,x,xs,uv,t,r,u,rfl,_⟩:=h
  rfl
 ·have nd:=yk.nd
  obtain⟨ta,x,xs,uv,t,r,u,rfl,ht,hx,hxs,⟨pu,rfl,hu⟩,uo,so,q⟩:=h
  refine⟨_,(ai (cZ (bZ je (bq bF (pv 1) (bw rfl T.dN) (fun _ _=>rfl)) az (cK _)) (aB (bA (fL (aa az (aa (bq bF (bq bF (pv 0) (nO jM az) (fun _ _=>rfl)) az (fun _ _=>rfl)) (aa (bq bF (bq bF (pv 0) (nO jM az) (fun _ _=>rfl)) az (fun _ _=>rfl)) af)))))) cg)
   (ai (bB (i:=2) nd rfl (Or.inl rfl) (bq bF (cG rfl T.fz) (bw rfl T.iy) (fun _ _=>rfl)))
   (ai (bB (i:=3) nd rfl (Or.inl rfl) (bu cX (pv 2) (iT (bq bF (pv 1) (bw rfl T.dN) (fun _ _=>rfl)))))
   (ai (bB (i:=4) nd rfl (Or.inl rfl) (bu fc (bq bF (pv 1) (bw rfl T.dN) (fun _ _=>rfl)) (pv 3)))
   (ai (bB (i:=5) nd rfl (Or.inl rfl) (bu cX (bq bF (pv 1) (bw rfl T.dg) (fun _ _=>rfl)) (pv 3)))
   (ai (bB (i:=6) nd rfl (Or.inl rfl) (bq bF (bq bF (pv 0) az (fun _ _=>rfl)) az (fun _ _=>rfl)))
   (ai (bB (i:=7) nd rfl (Or.inl rfl) (bq bF (bq bF (pv 0) az (fun _ _=>rfl)) az (fun _ _=>rfl)))
   (ai (jq PassesOwn.never rfl (zM (nP LB (pv 0) (oY az) uS)) (dJ (i:=8) nd rfl (Or.inl rfl))
    (ai (bB (i:=9) nd rfl (Or.inl rfl) (bu gm (pv 6) (pv 4)))
    (ai (bB (i:=10) nd rfl (Or.inl rfl) (bu cX (iT (pv 9)) (pv 2)))
    (ai (bB (i:=7) nd rfl (Or.inl rfl) (bu cT (bu cT (pv 7) (pv 5)) (pv 10)))
    (ai (bB (i:=11) nd rfl (Or.inl rfl) (bu cX (bu fc (bq bF (pv 8) az (fun _ _=>rfl)) (bu cX (bq bF (pv 8) az (fun _ _=>rfl)) (pv 7))) (aj h_halved (hr.mono (by decide)) rfl (aa (pv 9) (aa (pv 10) af)))))
    (ai (bB (i:=10) nd rfl (Or.inl rfl) (bu cX (iT (pv 11)) (pv 2)))
    (ai (bB (i:=6) nd rfl (Or.inl rfl) (aj h_halved (hr.mono (by decide)) rfl (aa (pv 11) (aa (pv 10) af))))
    (aB (bB (i:=7) nd rfl (Or.inl rfl) (bu cT (pv 7) (pv 10)))))))))))
   (aB (bA (fL (aa az (aa (pv 6) (aa (pv 7) af)))))))))))))),?_⟩
  have e0:zd (x::xs) 0=some x:=eV (j:=0) rfl
  obtain⟨px,rfl,hx⟩:=hx
  sleep 2
  refine bP hu rfl ?_
  by_cases hz:u.w=0
  ·rw[if_pos (by rw[hz];rfl)]
   refine⟨rfl,?_⟩
   obtain⟨y,hy1,⟨py,rfl,hy2⟩⟩:=jH.last (t:=t) ⟨px,rfl,hx⟩ hxs
   refine bP ht hy1 ?_
   refine bP hy2 rfl ?_
   refine bP ht hy1 ?_
   refine bP hy2 rfl ?_
   refine⟨by decide,fun p hp=>q _ _ (aH.upd hp) ?_⟩
   have e:gw (t::r) u=⟨false,(r.getLastD t).1,(r.getLastD t).2⟩:=by
    show(if u.w=0 then _ else _)=_
    rw[if_pos hz]
   rw[e]
   exact bI.new (n:=⟨false,(r.getLastD t).1,(r.getLastD t).2⟩)
  ·rw[if_neg (by intro z;exact hz (by have:=V.int.inj z;lia))]
   refine⟨rfl,?_⟩
   have so:=so hz
   obtain⟨fo,_⟩:=IC uo hz
   have hbl:bl u.w≤64:=dB uo.w
   refine bP (T.vj.at _) rfl ?_
   refine bP hu rfl ?_
   refine⟨trivial,_,rfl,_,rfl,?_⟩
   refine bP hu rfl ?_
   refine⟨_,rfl,?_⟩
   rw[iZ]
   have esp:(((Rb50.EXT.frac+1:Nat):Int)) - (bl u.w:Int)=((64 - bl u.w:Nat):Int):=by
    show((64:Nat):Int) - _=_
    lia
   simp only[esp]
   refine⟨⟨by lia,by lia,by rw[Int.natAbs_natCast];exact dO (b:=100000) uo.w (by decide)⟩,?_⟩
   refine bP hu rfl ?_
   refine⟨_,rfl,?_⟩
   refine bP ht e0 ?_
   refine bP hx rfl ?_
   refine bP ht e0 ?_
   refine bP hx rfl ?_
   have efa:(u.w:Int)*2^((((Rb50.EXT.frac+1:Nat):Int)).toNat - bl u.w)=((nN u:Nat):Int):=by
    unfold nN
    rw[Int.natCast_mul,Int.natCast_pow]
    rfl
   have efp:u.p - ((64 - bl u.w:Nat):Int)=DZ u:=rfl
   rw[efa,efp]
   generalize hF:nN u=f at*
   generalize hFP:DZ u=fp at*
   refine⟨_,rfl,_,rfl,ta,_,rfl,ht,?_,fun p hp=>?_⟩
   ·rintro⟨z,_⟩
    have:HT.gC (V.ref px::xs).length 0 (some 1)=1:=by
     unfold HT.gC
     simp
     try lia
    rw[this]at z
    cases z
   rw[F7]
   have s1:aH H (upd H p (.tup xs)):=aH.upd hp
   refine⟨p,rfl,⟨xs,jF.of aF⟩,?_⟩
   refine Kn (K:=K) (a:=p) (xs:=xs) (fun i σ H'=>∃(v8 v9 v10 v11:Option V),σ=[some (.ref ta),some (.ref pu),some (.int ((64:Nat):Int)),some (.int ((64 - bl u.w:Nat):Int)),some (.int f),some (.int fp),some (.int (pat f fp t r i).1),some (.int (pat f fp t r i).2),v8,v9,v10,v11]∧aH (upd H p (.tup xs)) H')
    ⟨none,none,none,none,rfl,aH.refl _⟩ (fun i σ H' _ ⟨_,_,_,_,_,s2⟩=>aH.tup s2 (jF.of aF)) ?_ ?_
   ·rintro i y σ H' hi ⟨v8,v9,v10,v11,rfl,s2⟩
    obtain⟨b,hb,⟨pb,rfl,hb2⟩⟩:=hxs.get hi
    have st:=GV so hb
    have hb3:=aH.tup (s1.trans s2) hb2
    rw[Hz hb]
    generalize pat f fp t r i=a at*
    sleep 2
    have h1:=st.o1
    have h1':=st.Ot
    have h2:=st.sh
    have h2':=st.Oo
    have h3:=st.c
    have h4:=st.o2
    have h4':=st.Oq
    refine⟨⟨by rw[Int.natAbs_natCast];exact dO (b:=100000) (Nat.lt_of_le_of_lt st.wa (show 2^64<2^65 by decide)) (by decide),by rw[Int.natAbs_natCast];exact dO (b:=100000) st.wf (by decide)⟩,?_⟩
    refine bP hb3 rfl ?_
    refine bP hb3 rfl ?_
    refine⟨_,rfl,_,rfl,?_⟩
    have em:(a.1:Int)*(f:Int)=((a.1*f:Nat):Int):=by rw[Int.natCast_mul]
    have eo:((bl (a.1*f):Nat):Int) - 64=((bl (a.1*f) - 64:Nat):Int):=by lia
    simp only[em,iZ,eo]
    unfold Aw
    simp only
    have hpb:a.1*f<2^200:=Nat.lt_of_lt_of_le (nZ _) (Nat.pow_le_pow_right (by decide) h1')
    generalize a.1*f=pr at*
    generalize hP1:a.2+fp+((bl pr - 64:Nat):Int)=P1 at*
    have esh:b.2 - P1=((b.2 - P1).toNat:Int):=by lia
    refine⟨⟨by lia,by lia,by rw[Int.natAbs_natCast];exact dO (b:=100000) st.wb (by decide)⟩,?_⟩
    refine⟨pr,bl pr - 64,rfl,by lia,by lia,dO (b:=99999) hpb (by decide),?_⟩
    refine⟨_,rfl,?_⟩
    have er:(b.1:Int)*2^(b.2 - P1).toNat - ((cut pr (bl pr - 64) false:Nat):Int)=((b.1*2^(b.2 - P1).toNat - cut pr (bl pr - 64) false:Nat):Int):=by
     rw[Int.ofNat_sub h3,Int.natCast_mul,Int.natCast_pow]
     rfl
    rw[er]
    generalize b.1*2^(b.2 - P1).toNat - cut pr (bl pr - 64) false=R at*
    rw[iZ]
    have eo2:((bl R:Nat):Int) - 64=((bl R - 64:Nat):Int):=by lia
    rw[eo2]
    refine⟨R,bl R - 64,rfl,by lia,by lia,?_,⟨rfl,rfl⟩,s2⟩
    exact Nat.lt_of_lt_of_le (nZ R) (Nat.pow_le_pow_right (by decide) (by lia))
   ·rintro σ H' ⟨v8,v9,v10,v11,rfl,s2⟩
    sleep 2
    refine⟨by decide,fun p2 hp2=>q _ _ ((s1.trans s2).trans (aH.upd hp2)) ?_⟩
    have hl:xs.length=r.length:=Paired.length hxs
    have e:gw (t::r) u=⟨false,(pat f fp t r xs.length).1,(pat f fp t r xs.length).2⟩:=by
     show(if u.w=0 then _ else _)=_
     rw[if_neg hz,hF,hFP,hl]
     unfold pat
     rw[List.take_length]
    rw[e]
    exact bI.new (n:=⟨false,(pat f fp t r xs.length).1,(pat f fp t r xs.length).2⟩)
end
end TB
end
noncomputable section
namespace TB
open PySem PySem.Spec PyProof.Rows L2 TM
section
variable{P:Program}{w:World}{K:PySem.W.Frag}{mg:Str→Option Value}{base:Heap}{aU aD aS:Addr}
structure TxtC(K:PySem.W.Frag)(mg:Str→Option Value)(aC aT:Addr):Prop where
 j3:fq mg "EIGHTH" 2305843009213693952
 wW:fq mg "TURN" 18446744073709551616
 o9:fq mg "QUARTER" 4611686018427387904
 ic:mg "COSINE_TERMS"=some (.ref aC)
 jy:mg "SINE_TERMS"=some (.ref aT)
 AQ:∃xs,eO K aC xs∧∀H,jH K H xs iC
 GA:∃xs,eO K aT xs∧∀H,jH K H xs fV
variable{aC aT:Addr}
abbrev ji:Stmt:=bJ 45
def yd(K:PySem.W.Frag):Sp:=fun vs H Q _=>∃p:Nat,vs=[.int p]∧∀(H':Hp) (v:V),aH H H'→bI K H' v (dj p)→Q v H'
theorem lq:bz ["part","rest"] ["part"] (aR ji):=⟨rfl,rfl,rfl,by decide+kernel,rfl,by decide+kernel,by decide+kernel⟩
theorem sX{f:Addr}{fd:FuncData}(F:eX K "within_eighth" "within_eighth" ji f fd)(U:TxtC K mg aC aT):cA P w K mg base eS 1 f fd ["part"] (yd K):=by
 refine F.ok lq (fun vs H Q E h=>?_) (fun cdv A outer s H vs Q E hr h=>?_)
 ·obtain⟨p,rfl,_⟩:=h
  rfl
 ·obtain⟨p,rfl,q⟩:=h
  have nd:=lq.nd
  refine⟨_,(ai (bB (i:=1) nd rfl (Or.inl rfl) (bu gS (pv 0) (bw rfl U.j3)))
   (ai (cZ (bZ je (bu gS (bu gc (pv 0) (bw rfl U.j3)) az) az (cK _)) (aB (bB (i:=1) nd rfl (Or.inl rfl) (bu cX (bw rfl U.j3) (pv 1)))) cg)
   (aB (bA (fL (aa az (aa (pv 1) (aa (nO jM az) af)))))))),?_⟩
  sleep 2
  refine⟨⟨by decide,by decide+kernel⟩,?_⟩
  have hp:((p%2^61:Nat):Int)=(p:Int)%2305843009213693952:=by rw[Int.natCast_emod];rfl
  have hd:((p / 2^61:Nat):Int)=(p:Int) / 2305843009213693952:=by rw[Int.natCast_ediv];rfl
  have hlt:p%2^61<2^61:=Nat.mod_lt _ (by decide)
  rw[←hp,←hd]
  by_cases c:p / 2^61%2=1
  ·rw[if_pos (by lia)]
   refine⟨by decide,fun a ha=>q _ _ (aH.upd ha) ?_⟩
   have e:dj p=⟨false,2^61 - p%2^61,-61⟩:=by unfold dj;rw[if_pos c]
   rw[e]
   have:=bI.new (K:=K) (H:=H) (p:=a) (n:=⟨false,2^61 - p%2^61,-61⟩)
   have e2:((2^61 - p%2^61:Nat):Int)=2305843009213693952 - ((p%2^61:Nat):Int):=by lia
   unfold nl at this
   simp only[e2]at this
   exact this
  ·rw[if_neg (by lia)]
   refine⟨by decide,fun a ha=>q _ _ (aH.upd ha) ?_⟩
   have e:dj p=⟨false,p%2^61,-61⟩:=by unfold dj;rw[if_neg c]
   rw[e]
   exact bI.new (K:=K) (H:=H) (p:=a) (n:=⟨false,p%2^61,-61⟩)
abbrev vW:Stmt:=bJ 46
def oQ(K:PySem.W.Frag):Sp:=fun vs H Q _=>∃p:Nat,vs=[.int p]∧p<2^64∧∀(H':Hp) (v:V),aH H H'→bI K H' v (cI p)→Q v H'
theorem in4(e a b c d:Nat):El (.int (e:Int)) [.int (a:Int),.int (b:Int),.int (c:Int),.int (d:Int)]=decide (e=a∨e=b∨e=c∨e=d):=by
 have h:El (.int (e:Int)) [.int (a:Int),.int (b:Int),.int (c:Int),.int (d:Int)]=(((a:Int)==(e:Int))||(((b:Int)==(e:Int))||(((c:Int)==(e:Int))||(((d:Int)==(e:Int))||false)))):=rfl
 rw[h]
 by_cases h1:e=a∨e=b∨e=c∨e=d
 ·rw[decide_eq_true h1]
  simp only[Bool.or_eq_true,beq_iff_eq]
  lia
 ·rw[decide_eq_false h1]
  simp only[Bool.or_eq_false_iff,beq_eq_false_iff_ne]
  exact⟨by lia,by lia,by lia,by lia,trivial⟩
theorem yt:bz ["part","eighth","x","u","worth"] ["part"] (aR vW):=⟨rfl,rfl,rfl,by decide+kernel,rfl,by decide+kernel,by decide+kernel⟩
theorem Fw{f:Addr}{fd:FuncData}(F:eX K "cosine" "cosine" vW f fd)(T:Txt K mg aU aD aS)(U:TxtC K mg aC aT)(h_within_eighth:di P w K mg base "within_eighth" 1 ["part"] (yd K))(h_multiply:di P w K mg base "multiply" 3 ["kind","x","y"] (eY K bC))
  (h_series:di P w K mg base "series" 4 ["terms","u"] (ye K))(h_opposite:di P w K mg base "opposite" 1 ["x"] (i7 K)):
  cA P w K mg base eS 5 f fd ["part"] (oQ K):=by
 refine F.ok yt (fun vs H Q E h=>?_) (fun cdv A outer s H vs Q E hr h=>?_)
 ·obtain⟨p,rfl,_⟩:=h
  rfl
 ·obtain⟨p,rfl,hp,q⟩:=h
  have nd:=yt.nd
  refine⟨_,(ai (bB (i:=1) nd rfl (Or.inl rfl) (bu gc (pv 0) (bw rfl U.j3)))
   (ai (bB (i:=2) nd rfl (Or.inl rfl) (aj h_within_eighth (hr.mono (by decide)) rfl (aa (pv 0) af)))
   (ai (bB (i:=3) nd rfl (Or.inl rfl) (aj h_multiply (hr.mono (by decide)) rfl (aa (cG rfl T.fz) (aa (pv 2) (aa (pv 2) af)))))
   (ai (cZ (bZ iJ (pv 1) (fL (aa az (aa az (aa az (aa az af))))) rfl) (aB (bB (i:=4) nd rfl (Or.inl rfl) (aj h_multiply (hr.mono (by decide)) rfl (aa (cG rfl T.fz) (aa (pv 2) (aa (aj h_series (hr.mono (by decide)) rfl (aa (cG rfl U.jy) (aa (pv 3) af))) af)))))) (aB (bB (i:=4) nd rfl (Or.inl rfl) (aj h_series (hr.mono (by decide)) rfl (aa (cG rfl U.ic) (aa (pv 3) af))))))
   (aB (bA (fO (bZ iJ (pv 1) (fL (aa az (aa az (aa az (aa az af))))) rfl) (aj h_opposite (hr.mono (by decide)) rfl (aa (pv 4) af)) (pv 4)))))))),?_⟩
  sleep 2
  refine⟨⟨by decide,by decide+kernel⟩,?_⟩
  have hd:(p:Int) / 2305843009213693952=((p / 2^61:Nat):Int):=by rw[Int.natCast_ediv];rfl
  rw[hd]
  refine⟨p,rfl,fun H1 x s1 hx=>?_⟩
  obtain⟨r1,o1⟩:=qZ p
  obtain⟨r2,o2⟩:=fu r1 r1 o1 o1 (by decide) (by decide)
  have n1:NB (dj p):=.of_ok o1 (by decide)
  refine⟨_,Rb50.EXT,64,79,x,x,dj p,dj p,rfl,T.unit _,gB,hx,hx,n1,n1,fun H2 u s2 hu=>?_⟩
  refine⟨by decide,fun p1 hp1=>?_⟩
  have s3:aH H2 (upd H2 p1 (.tup [.int 1,.int 2,.int 5,.int 6])):=aH.upd hp1
  refine⟨p1,_,rfl,.inr (jF.of aF),rfl,rfl,?_⟩
  have i1:=in4 (p / 2^61) 1 2 5 6
  have i2:=in4 (p / 2^61) 2 3 4 5
  have fin:∀(H5:Hp) (v:V),aH H H5→bI K H5 v (if p / 2^61=1∨p / 2^61=2∨p / 2^61=5∨p / 2^61=6 then zJ p else Ax p)→
    4≤sizeLine∧∀p2,H5 p2=none→NP K false (V.int ((p / 2^61:Nat):Int)) (V.ref p2) (upd H5 p2 (HO.tup [V.int 2,V.int 3,V.int 4,V.int 5])) fun x_3 H'=>x_3=V.bl false∧Q v H'∨x_3=V.bl true∧i7 K [v] H' Q E0:=by
   intro H5 v s5 hv
   refine⟨by decide,fun p2 hp2=>⟨p2,_,rfl,.inr (jF.of aF),rfl,rfl,?_⟩⟩
   have s6:aH H5 (upd H5 p2 (.tup [.int 2,.int 3,.int 4,.int 5])):=aH.upd hp2
   unfold cI at q
   simp only at q
   generalize (if p / 2^61=1∨p / 2^61=2∨p / 2^61=5∨p / 2^61=6 then zJ p else Ax p)=W at hv q
   by_cases c2:p / 2^61=2∨p / 2^61=3∨p / 2^61=4∨p / 2^61=5
   ·rw[if_pos c2]at q
    refine .inr ⟨?_,v,W,rfl,hv.same s6,fun H7 v7 s7 n7=>q H7 v7 ((s5.trans s6).trans s7) n7⟩
    rw[decide_eq_true c2]at i2
    exact congrArg V.bl i2
   ·rw[if_neg c2]at q
    refine .inl ⟨?_,q _ _ (s5.trans s6) (hv.same s6)⟩
    rw[decide_eq_false c2]at i2
    exact congrArg V.bl i2
  by_cases c1:p / 2^61=1∨p / 2^61=2∨p / 2^61=5∨p / 2^61=6
  ·rw[decide_eq_true c1]at i1
   rw[if_pos c1]at fin
   refine .inr ⟨congrArg V.bl i1,?_⟩
   obtain⟨xs,g,nums⟩:=U.GA
   have b3:=nums (upd H2 p1 (.tup [.int 1,.int 2,.int 5,.int 6]))
   have et:fV=(10681272806851181676,-136)::fV.tail:=rfl
   rw[et]at b3
   obtain⟨_,_,_,z4,z5,z6,so⟩:=Jy (nG p)
   cases b3 with
   |@cons y _ ys _ hy hys=>
    refine⟨aT,y,ys,u,_,_,_,rfl,g.at _,hy,hys,hu.same s3,nG p,so,fun H4 v4 s4 h4=>?_⟩
    have s14:=(s2.trans s3).trans s4
    rw[←et]at h4
    have nS:NB (gw fV (bC Rb50.EXT (dj p) (dj p))):=⟨Nat.lt_of_le_of_lt z4 ((Nat.pow_lt_pow_iff_right (by decide)).mpr (by decide)),by lia,by lia⟩
    refine⟨_,Rb50.EXT,64,79,x,v4,dj p,_,rfl,T.unit _,gB,hx.same s14,h4,n1,nS,fun H5 v5 s5 h5=>?_⟩
    exact fin H5 v5 ((s1.trans s14).trans s5) h5
  ·rw[decide_eq_false c1]at i1
   rw[if_neg c1]at fin
   refine .inl ⟨congrArg V.bl i1,?_⟩
   obtain⟨xs,g,nums⟩:=U.AQ
   have b3:=nums (upd H2 p1 (.tup [.int 1,.int 2,.int 5,.int 6]))
   have et:iC=(17849762340095794292,-132)::iC.tail:=rfl
   rw[et]at b3
   obtain⟨_,_,_,z4,z5,z6,so⟩:=Ku (nG p)
   cases b3 with
   |@cons y _ ys _ hy hys=>
    refine⟨aC,y,ys,u,_,_,_,rfl,g.at _,hy,hys,hu.same s3,nG p,so,fun H4 v4 s4 h4=>?_⟩
    rw[←et]at h4
    exact fin H4 v4 (((s1.trans s2).trans s3).trans s4) h4
def Dv(K:PySem.W.Frag):Sp:=fun vs H Q _=>∃p:Nat,vs=[.int p]∧p<2^64∧∀(H':Hp) (v:V),aH H H'→bI K H' v (gq p)→Q v H'
abbrev Cv:Stmt:=bJ 47
theorem DJ:bz ["part"] ["part"] (aR Cv):=⟨rfl,rfl,rfl,by decide+kernel,rfl,by decide+kernel,by decide+kernel⟩
theorem J1{f:Addr}{fd:FuncData}(F:eX K "sine" "sine" Cv f fd)(T:Txt K mg aU aD aS)(U:TxtC K mg aC aT)(h_cosine:di P w K mg base "cosine" 5 ["part"] (oQ K)):
  cA P w K mg base eS 6 f fd ["part"] (Dv K):=by
 refine F.ok DJ (fun vs H Q E h=>?_) (fun cdv A outer s H vs Q E hr h=>?_)
 ·obtain⟨p,rfl,_⟩:=h
  rfl
 ·have nd:=DJ.nd
  obtain⟨p,rfl,hp,q⟩:=h
  refine⟨_,(aB (bA (aj h_cosine (hr.mono (by decide)) rfl (aa (bu gS (bu cX (pv 0) (bw rfl U.o9)) (bw rfl U.wW)) af)))),?_⟩
  sleep 2
  have e:((p:Int) - 4611686018427387904)%18446744073709551616=(((p+3*2^62)%2^64:Nat):Int):=by lia
  rw[e]
  exact⟨_,rfl,Nat.mod_lt _ (by decide),q⟩
end
end TB
end
noncomputable section
namespace TB
open PySem PySem.Spec PyProof.Rows L2 TM
section
variable{X:Cx}
def vZ(K:PySem.W.Frag)(f:Str):V→Hp→VK→Prop:=fun x H Q=>∃a C dx fs v,x=.ref a∧H a=some (.ins C dx fs)∧B4 K C∧dm K C f∧fs.lookup f=some v∧Q v H
theorem bD{e:Expr}{f:Str}{pos:Pos}{ta:TE}(he:PE X e ta)(hb:attributeBase e f X.env (eval e X.env)=eval e X.env):PE X (.Attribute e f pos) (bQ (vZ X.K f) ta):=LM he hb
theorem bN{K:PySem.W.Frag}{f:Str}{a C dx:Addr}{fs:List (Str×V)}{v:V}{H:Hp}{Q:VK}(h:H a=some (.ins C dx fs))(c:B4 K C)(n:dm K C f)(l:fs.lookup f=some v)(q:Q v H):vZ K f (.ref a) H Q:=⟨a,C,dx,fs,v,rfl,h,c,n,l,q⟩
def MF(K:PySem.W.Frag)(f:Str)(x y:V)(H:Hp)(R:Hp→Prop):Prop:=∃a C dx fs,x=.ref a∧H a=some (.ins C dx fs)∧B4 K C∧dm K C f∧fs.length<1000∧R (upd H a (.ins C dx (mU f y fs)))
def bG(K:PySem.W.Frag)(ta tv:TE)(f:Str):TS:=fun D σ H=>tv σ H fun y H1=>ta σ H1 fun x H2=>MF K f x y H2 (D.nx σ)
theorem cy{o value:Expr}{f:Str}{pos pos':Pos}{ta tv:TE}(ho:PE X o ta)(hv:PE X value tv)(hs:swapsWith value (some (.Attribute o f pos')) pos.line X.env=pure false):PS X (.Assign [.Attribute o f pos'] value pos) (bG X.K ta tv f):=LI ho hv hs
theorem cU{K:PySem.W.Frag}{f:Str}{a C dx:Addr}{fs:List (Str×V)}{y:V}{H:Hp}{R:Hp→Prop}(h:H a=some (.ins C dx fs))(c:B4 K C)(n:dm K C f)(l:fs.length<1000){fs':List (Str×V)}(e:mU f y fs=fs')(q:R (upd H a (.ins C dx fs'))):MF K f (.ref a) y H R:=⟨a,C,dx,fs,rfl,h,c,n,l,e▸q⟩
end
structure qC(P:Program)(w:World)(K:PySem.W.Frag)(mg:Str→Option Value)(base:Heap)(x:Str)(C:Addr)(k:Nat)(ps:List Str)(sp:Sp):Prop where
 ex:∃(f:Addr) (fd:FuncData),Mk K C f∧cA P w K mg base eS k f fd ps sp∧mg x=some (.ref C)∧Binds K fd ps []
section
variable{X:Cx}
theorem lK{x:Str}{C:Addr}{k:Nat}{ps:List Str}{sp:Sp}{p pos:Pos}{e:Expr}{es:List Expr}{t:TA}(h:qC X.prog X.w X.K X.mg X.base x C k ps sp)(hr:iN (k+1) X.A)(hg:Gl X x)
  (ha:PA X (e::es) t)(hdb:(x==("__debug__":Str))=false:=by decide)(he:starEach (e::es) X.env=(false,eval e X.env)::starEach es X.env:=by rfl)(hpl:(backTo pos (starEach es X.env)).any (·.1)=false:=by rfl):
  PE X (.Call (.Name x p) (e::es) [] pos) (aX C sp [] E0 t):=by
 obtain⟨f,fd,M,F,hm,hb⟩:=h.ex
 exact JM M F hr hg hm hb .nil D4 ha hdb he hpl
theorem Fb{x:Str}{C:Addr}{k:Nat}{ps:List Str}{sp:Sp}{p pos:Pos}(h:qC X.prog X.w X.K X.mg X.base x C k ps sp)(hr:iN (k+1) X.A)(hg:Gl X x)(hdb:(x==("__debug__":Str))=false:=by decide):
  PE X (.Call (.Name x p) [] [] pos) (aX C sp [] E0 aI):=by
 obtain⟨f,fd,M,F,hm,hb⟩:=h.ex
 exact Hv M F hr hg hm hb .nil D4 hdb
end
structure Gs where
 (aU aD aS aC aT CW CR CS CL CP CH aSL aGA aA3 aHF aNO aOM aCA aCO:Addr)
structure Tx(K:PySem.W.Frag)(mg:Str→Option Value)(G:Gs):Prop extends Txt K mg G.aU G.aD G.aS,TxtC K mg G.aC G.aT where
 gP:fq mg "MOST_HALVINGS" 20000
 tE:fq mg "SHUT" 0
 iw:fq mg "SEA_SLUICE" 1
 iA:fq mg "INNER_SLUICE" 2
 j0:fq mg "SEA_GATE" 3
 iB:fq mg "INNER_GATE" 4
 rO:fq mg "GROUP" 4
 lQ:fq mg "NO_ROOM" (-1)
 cM:fq mg "OUT_OF_BOUNDS" (-2)
 eN:fq mg "NOT_TAKEN" (-3)
 o8:fq mg "REFUSED" (-4)
 Ab:fq mg "MARK" 1
 kE:fq mg "MOST_MEAN" 1000000000
 kF:fq mg "MOST_MARK" 100000000
 jz:fq mg "MOST_WAVES" 64
 jA:fq mg "MOST_LOCKS" 16
 gf:fq mg "MOST_MINUTES" 10000
 gF:fq mg "MOST_MINUTE" 1152921504606846976
 fP:fq mg "WHOLE_NUMBERS" 18446744073709551616
 gO:fq mg "SMALL_NUMBERS" 4294967296
 fC:fq mg "SIGN_OF_SINGLE" 2147483648
 iX:fq mg "MOST_FACTOR" 1098907648
 jB:fq mg "LEAST_AREA" 981467136
 kG:fq mg "MOST_AREA" 1317011456
 iW:fq mg "MOST_SLUICE" 1233125376
 iz:fq mg "MOST_LEVEL" 1233125376
 gg:fq mg "MOST_DRAUGHT" 1149239296
 oU:mg "SLUICES"=some (.ref G.aSL)
 oM:eO K G.aSL [.int 1,.int 2]
 oW:mg "GATES"=some (.ref G.aGA)
 oO:eO K G.aGA [.int 3,.int 4]
 rA:mg "A_32TH"=some (.ref G.aA3)
 qJ:eO K G.aA3 (nl wD)
 zG:mg "HALF"=some (.ref G.aHF)
 zl:eO K G.aHF (nl Bs)
 oV:mg "NOTHING"=some (.ref G.aNO)
 oN:eO K G.aNO (nl z0)
 iS:mg "OF_A_MINUTE"=some (.ref G.aOM)
 iR:eO K G.aOM [.int 4,.int 5,.int 7,.int 8,.int 9,.int 10,.int 11,.int 12,.int 13,.int 16]
 uN:mg "CALLS"=some (.ref G.aCA)
 rq:mg "COUNTS"=some (.ref G.aCO)
 gZ:mg "len"=none
 jE:mg "range"=none
 EB:mg "any"=none
 xJ:mg "ord"=none
 cW:B4 K G.CW
 cR:B4 K G.CR
 cS:B4 K G.CS
 cL:B4 K G.CL
 cP:B4 K G.CP
 cH:B4 K G.CH
 Dr:dm K G.CW "high"
 zh:dm K G.CW "factor"
 zg:dm K G.CW "widest"
 Ca:dm K G.CW "phase"
 vh:dm K G.CW "speed"
 Hq:dm K G.CR "high"
 uO:dm K G.CR "begins"
 DS:dm K G.CR "half"
 Bd:dm K G.CS "mean"
 vX:dm K G.CS "waves"
 sU:dm K G.CS "surge"
 Io:dm K G.CL "area"
 Ah:dm K G.CL "sluice"
 Im:dm K G.CL "sill"
 tG:dm K G.CL "inner"
 gz:dm K G.CL "level"
 Ag:dm K G.CL "way"
 zR:dm K G.CP "factor"
 pA:dm K G.CP "a"
 pB:dm K G.CP "b"
 pG:dm K G.CP "g"
 pH:dm K G.CP "h"
 pO:dm K G.CH "sea"
 jr:dm K G.CH "locks"
 Aj:dm K G.CH "now"
 Ms:G.CL≠G.CW
 Mt:G.CL≠G.CR
 MM:G.CL≠G.CS
 Np:G.CL≠G.CH
 ML:G.CS≠G.CW
 Mr:G.CS≠G.CR
 Nm:G.CS≠G.CH
 MN:G.CH≠G.CW
 MO:G.CH≠G.CR
 Nn:G.CP≠G.CW
 NU:G.CP≠G.CR
variable{P:Program}{w:World}{K:PySem.W.Frag}{mg:Str→Option Value}{base:Heap}{G:Gs}
def cz(S:Addr→Prop)(H H':Hp):Prop:=∀b o,¬S b→H b=some o→H' b=some o
def Mod(G:Gs)(S:Addr→Prop)(H:Hp):Prop:=∀b,S b→(∃C dx fs,H b=some (.ins C dx fs)∧C≠G.CW∧C≠G.CR)∨(∃xs,H b=some (.lst xs))
theorem cz.num{S:Addr→Prop}{H H':Hp}(k:cz S H H')(m:Mod G S H){v:V}{n:Num}(h:bI K H v n):bI K H' v n:=by
 obtain⟨p,rfl,q⟩:=h
 refine⟨p,rfl,?_⟩
 rcases q with(q|⟨o,q⟩)|q
 ·refine .inl (.inl (k _ _ (fun z=>?_) q))
  rcases m p z with⟨C,dx,fs,e,_⟩|⟨xs,e⟩<;>rw[q]at e<;>cases e
 ·refine .inl (.inr ⟨o,k _ _ (fun z=>?_) q⟩)
  rcases m p z with⟨C,dx,fs,e,_⟩|⟨xs,e⟩<;>rw[q]at e<;>cases e
 ·exact .inr q
theorem aH.keep{S:Addr→Prop}{H H':Hp}(s:aH H H'):cz S H H':=fun b o _ h=>s b o h
theorem cz.trans{S:Addr→Prop}{H H1 H2:Hp}(a:cz S H H1)(b:cz S H1 H2):cz S H H2:=fun c o n h=>b c o n (a c o n h)
theorem cz.upd{S:Addr→Prop}{H:Hp}{a:Addr}{o:HO}(h:S a):cz S H (L2.upd H a o):=fun b u n e=>by
 rw[cQ (show b≠a from fun z=>n (by rw[z];exact h))]
 exact e
theorem cz.mono{S S':Addr→Prop}{H H':Hp}(k:cz S H H')(h:∀b,S b→S' b):cz S' H H':=fun b o n e=>k b o (fun z=>n (h b z)) e
def wF(h f w p s:V):List (Str×V):=[("high",h),("factor",f),("widest",w),("phase",p),("speed",s)]
def rF(h b f:V):List (Str×V):=[("high",h),("begins",b),("half",f)]
def sF(m w s:V):List (Str×V):=[("mean",m),("waves",w),("surge",s)]
structure j5(K:PySem.W.Frag)(G:Gs)(H:Hp)(v:V)(x:Rb50.Wave):Prop where
 ex:∃a dx hv fv wv,v=.ref a∧H a=some (.ins G.CW dx (wF hv fv wv (.int x.phase) (.int x.speed)))∧bI K H hv (dW x.high)∧bI K H fv (gX Rb50.SINGLE x.factor)∧bI K H wv (bC Rb50.EXT (dW x.high) (gX Rb50.SINGLE x.factor))
theorem j5.same{H H':Hp}{v:V}{x:Rb50.Wave}(h:j5 K G H v x)(e:aH H H'):j5 K G H' v x:=by
 obtain⟨a,dx,hv,fv,wv,h1,h2,h3,h4,h5⟩:=h.ex
 exact⟨a,dx,hv,fv,wv,h1,e _ _ h2,h3.same e,h4.same e,h5.same e⟩
theorem j5.keep{S:Addr→Prop}{H H':Hp}{v:V}{x:Rb50.Wave}(h:j5 K G H v x)(k:cz S H H')(m:Mod G S H):j5 K G H' v x:=by
 obtain⟨a,dx,hv,fv,wv,h1,h2,h3,h4,h5⟩:=h.ex
 refine⟨a,dx,hv,fv,wv,h1,k _ _ (fun z=>?_) h2,k.num m h3,k.num m h4,k.num m h5⟩
 rcases m a z with⟨C,dx,fs,e,n1,_⟩|⟨xs,e⟩<;>rw[h2]at e
 ·cases e;exact n1 rfl
 ·cases e
structure fm(G:Gs)(H:Hp)(v:V)(x:Rb50.Surge):Prop where
 ex:∃a dx,v=.ref a∧H a=some (.ins G.CR dx (rF (.int x.high) (.int x.begins) (.int x.half_)))
theorem fm.same{H H':Hp}{v:V}{x:Rb50.Surge}(h:fm G H v x)(e:aH H H'):fm G H' v x:=by
 obtain⟨a,dx,h1,h2⟩:=h.ex
 exact⟨a,dx,h1,e _ _ h2⟩
theorem fm.keep{S:Addr→Prop}{H H':Hp}{v:V}{x:Rb50.Surge}(h:fm G H v x)(k:cz S H H')(m:Mod G S H):fm G H' v x:=by
 obtain⟨a,dx,h1,h2⟩:=h.ex
 refine⟨a,dx,h1,k _ _ (fun z=>?_) h2⟩
 rcases m a z with⟨C,dx,fs,e,_,n1⟩|⟨xs,e⟩<;>rw[h2]at e
 ·cases e;exact n1 rfl
 ·cases e
def xP(m:Int):Prop:=m.natAbs<2^80
theorem zf{x:Rb50.Wave}(h:j4 x)(m:Int):NB (dW x.high)∧NB (gX Rb50.SINGLE x.factor)∧NB (bC Rb50.EXT (dW x.high) (gX Rb50.SINGLE x.factor))∧NB (cI (Rb50.at_ x m))∧NB (rC x m):=by
 have hf:=pK (n:=4) (Nat.le_trans h.le (by decide))
 have hp:=qF _ h.fin hf (by decide)
 obtain⟨f1,f2⟩:=rM hp hf (by decide)
 obtain⟨i1,i2⟩:=fM (z:=x.high) (c:=31) h.high (by decide) (by decide)
 obtain⟨t1,t2⟩:=fu i1 f1 i2 f2 (by decide) (by decide)
 obtain⟨c1,c2⟩:=jJ (r8 x m)
 exact⟨.of_ok i2 (by decide),.of_ok f2 (by decide),.of_ok t2 (by decide),.of_ok c2 (by decide),.of_ok (Dq h m).2 (by decide)⟩
theorem Paired.same{α β:Type}{R R':α→β→Prop}(h:∀a b,R a b→R' a b):∀{l:List α} {m:List β},Paired R l m→Paired R' l m
 |_,_,.nil=>.nil
 |_,_,.cons r t=>.cons (h _ _ r) (Paired.same h t)
structure lX(K:PySem.W.Frag)(G:Gs)(H:Hp)(a la:Addr)(x:Rb50.Harbour):Prop where
 ex:∃dx ws sv,H a=some (.ins G.CS dx (sF (.int x.mean) (.ref la) sv))∧H la=some (.lst ws)∧Paired (j5 K G H) ws x.waves∧
  (match x.surge with
   |none=>sv=.gh
   |some g=>fm G H sv g)
theorem lX.keep{S:Addr→Prop}{H H':Hp}{a la:Addr}{x:Rb50.Harbour}(h:lX K G H a la x)(k:cz S H H')(m:Mod G S H)(n1:¬S a)(n2:¬S la):lX K G H' a la x:=by
 obtain⟨dx,ws,sv,h1,h2,h3,h4⟩:=h.ex
 refine⟨dx,ws,sv,k _ _ n1 h1,k _ _ n2 h2,Paired.same (fun _ _ r=>r.keep k m) h3,?_⟩
 cases hx:x.surge with
 |none=>rw[hx]at h4;exact h4
 |some g=>rw[hx]at h4;exact fm.keep h4 k m
theorem wQ{H:Hp}:Mod G (fun _=>False) H:=fun _ z=>z.elim
theorem lX.same{H H':Hp}{a la:Addr}{x:Rb50.Harbour}(h:lX K G H a la x)(e:aH H H'):lX K G H' a la x:=h.keep (S:=fun _=>False) (aH.keep e) wQ (fun z=>z) (fun z=>z)
structure vd(x:Rb50.Harbour):Prop where
 ok:ze x
 wv:∀y∈x.waves,y.phase<2^64∧y.speed<2^64
theorem Paired.get'{α β:Type}{R:α→β→Prop}:∀{l:List α} {m:List β},Paired R l m→∀{i:Nat} {a:α},l[i]?=some a→∃b,m[i]?=some b∧R a b
 |_,_,.nil,i,a,e=>by simp at e
 |_,_,.cons r _,0,a,e=>by simp at e;subst e;exact⟨_,rfl,r⟩
 |_,_,.cons _ t,i+1,a,e=>by
  obtain⟨b,h1,h2⟩:=Paired.get' t (i:=i) (a:=a) (by simpa using e)
  exact⟨b,by simpa using h1,h2⟩
def vn(K:PySem.W.Frag)(G:Gs):Sp:=fun vs H Q _=>∃(v:V) (x:Rb50.Wave) (m:Int),vs=[v,.int m]∧j5 K G H v x∧x.speed<2^64∧xP m∧Q (.int (Rb50.at_ x m)) H
abbrev zA:Stmt:=bJ 53
theorem A5:bz ["wave","minute"] ["wave","minute"] (aR zA):=⟨rfl,rfl,rfl,by decide+kernel,rfl,by decide+kernel,by decide+kernel⟩
theorem HL{f:Addr}{fd:FuncData}(F:eX K "place" "place" zA f fd)(T:Tx K mg G):
  cA P w K mg base eS 1 f fd ["wave","minute"] (vn K G):=by
 refine F.ok A5 (fun vs H Q E h=>?_) (fun cdv A outer s H vs Q E hr h=>?_)
 ·obtain⟨v,x,m,rfl,_⟩:=h
  rfl
 ·have nd:=A5.nd
  obtain⟨v,x,m,rfl,hw,hsp,hm,q⟩:=h
  obtain⟨a,dx,hv,fv,wv,rfl,h1,_,_,_⟩:=hw.ex
  refine⟨_,(aB (bA (bu gS (bu cT (bD (pv 0) rfl) (bu gm (bD (pv 0) rfl) (pv 1))) (bw rfl T.wW)))),?_⟩
  sleep 2
  refine bN h1 T.cW T.Ca rfl ?_
  refine bN h1 T.cW T.vh rfl ?_
  refine⟨_,rfl,⟨?_,dO hm (by decide)⟩,_,rfl,?_⟩
  ·rw[Int.natAbs_natCast]
   exact dO hsp (by decide)
  unfold Rb50.at_ at q
  rw[Int.toNat_of_nonneg (Int.emod_nonneg _ (by decide))]at q
  exact q
def mG(K:PySem.W.Frag)(G:Gs):Sp:=fun vs H Q _=>∃(v:V) (x:Rb50.Surge) (m:Int),vs=[v,.int m]∧fm G H v x∧vc x∧x.begins≤m∧∀(H':Hp) (v':V),aH H H'→bI K H' v' (wg x m)→Q v' H'
theorem GH{x:Rb50.Surge}(h:vc x)(m:Int):NB (dW x.high)∧NB (dW ((((m - x.begins).toNat%x.half_:Nat)):Int))∧NB (dW ((2*x.half_:Nat):Int))∧NB (dW 1)∧NB (nR Rb50.EXT (dW ((((m - x.begins).toNat%x.half_:Nat)):Int)) (dW ((2*x.half_:Nat):Int)))∧
  NB (fD Rb50.EXT (dW 1) (nR Rb50.EXT (dW ((((m - x.begins).toNat%x.half_:Nat)):Int)) (dW ((2*x.half_:Nat):Int))))∧
  NB (bC Rb50.EXT (dW x.high) (fD Rb50.EXT (dW 1) (nR Rb50.EXT (dW ((((m - x.begins).toNat%x.half_:Nat)):Int)) (dW ((2*x.half_:Nat):Int))))):=by
 have hpos:=h.pos
 have hlt:=h.lt
 have hr:(m - x.begins).toNat%x.half_<x.half_:=Nat.mod_lt _ h.pos
 obtain⟨a1,a2⟩:=fM (z:=((((m - x.begins).toNat%x.half_:Nat)):Int)) (c:=31) (by rw[Int.natAbs_natCast];show _≤2^31;lia) (by decide) (by decide)
 obtain⟨b1,b2⟩:=fM (z:=((2*x.half_:Nat):Int)) (c:=32) (by rw[Int.natAbs_natCast];show _≤2^32;lia) (by decide) (by decide)
 obtain⟨d1,d2⟩:=Ey (d:=31) a1 b1 a2 (by show((2*x.half_:Nat):Int).natAbs≠0;rw[Int.natAbs_natCast];lia) (by show(31:Int) - 0≤31;decide) (by decide) (by decide)
 obtain⟨o1,o2⟩:=fM (z:=1) (c:=31) (by decide) (by decide) (by decide)
 obtain⟨l1,l2⟩:=Ed o1 d1 o2 d2 (by decide) (by decide)
 obtain⟨i1,i2⟩:=fM (z:=x.high) (c:=31) h.high (by decide) (by decide)
 obtain⟨t1,t2⟩:=fu i1 l1 i2 l2 (by decide) (by decide)
 exact⟨.of_ok i2 (by decide),.of_ok a2 (by decide),.of_ok b2 (by decide),.of_ok o2 (by decide),.of_ok d2 (by decide),.of_ok l2 (by decide),.of_ok t2 (by decide)⟩
abbrev jQ:Stmt:=bJ 54
theorem mJ:bz ["surge","minute","passed","faded","left"] ["surge","minute"] (aR jQ):=⟨rfl,rfl,rfl,by decide+kernel,rfl,by decide+kernel,by decide+kernel⟩
theorem uD{f:Addr}{fd:FuncData}(F:eX K "surge_tenths" "surge_tenths" jQ f fd)(T:Tx K mg G)(h_divide:di P w K mg base "divide" 3 ["kind","x","y"] (lg K))(h_multiply:di P w K mg base "multiply" 3 ["kind","x","y"] (eY K bC))(h_scaled:di P w K mg base "scaled" 3 ["kind","x","power"] (yf K))(h_of_whole:di P w K mg base "of_whole" 1 ["value"] (fX K))(h_subtract:di P w K mg base "subtract" 4 ["kind","x","y"] (eY K fD)):
  cA P w K mg base eS 5 f fd ["surge","minute"] (mG K G):=by
 refine F.ok mJ (fun vs H Q E h=>?_) (fun cdv A outer s H vs Q E hr h=>?_)
 ·obtain⟨v,x,m,rfl,_⟩:=h
  rfl
 ·have nd:=mJ.nd
  obtain⟨v,x,m,rfl,hw,so,hbm,q⟩:=h
  obtain⟨a,dx,rfl,h1⟩:=hw.ex
  obtain⟨n1,n2,n3,n4,n5,n6,n7⟩:=GH so m
  have hpos:=so.pos
  have hlt:=so.lt
  refine⟨_,(ai (bB (i:=2) nd rfl (Or.inl rfl) (cE rZ (by rfl) T.oF yY (aa (bu cX (pv 1) (bD (pv 0) rfl)) (aa (bD (pv 0) rfl) af))))
   (ai (bB (i:=3) nd rfl (Or.inl rfl) (aj h_divide (hr.mono (by decide)) rfl (aa (cG rfl T.fz) (aa (aj h_of_whole (hr.mono (by decide)) rfl (aa (bq bF (pv 2) az (fun _ _=>rfl)) af)) (aa (aj h_of_whole (hr.mono (by decide)) rfl (aa (bu gm az (bD (pv 0) rfl)) af)) af)))))
   (ai (bB (i:=4) nd rfl (Or.inl rfl) (aj h_multiply (hr.mono (by decide)) rfl (aa (cG rfl T.fz) (aa (aj h_of_whole (hr.mono (by decide)) rfl (aa (bD (pv 0) rfl) af)) (aa (aj h_subtract (hr.mono (by decide)) rfl (aa (cG rfl T.fz) (aa (aj h_of_whole (hr.mono (by decide)) rfl (aa az af)) (aa (pv 3) af)))) af)))))
   (aB (bA (aj h_scaled (hr.mono (by decide)) rfl (aa (cG rfl T.fz) (aa (pv 4) (aa (nO jM (cE (pM rfl) (by rfl) T.xK Ao (aa (bq bF (pv 2) az (fun _ _=>rfl)) (aa (bw rfl T.gP) af)))) af))))))))),?_⟩
  sleep 2
  refine bN h1 T.cR T.uO rfl ?_
  refine⟨_,rfl,?_⟩
  refine bN h1 T.cR T.DS rfl ?_
  refine⟨_,_,⟨rfl,rfl⟩,⟨by lia,?_⟩,fun p hp=>?_⟩
  ·exact Int.lt_trans (show((x.half_:Nat):Int)<2^31 by lia) (by decide+kernel)
  have e1:m - x.begins=(((m - x.begins).toNat:Nat):Int):=by lia
  rw[e1,←Int.natCast_ediv,←Int.natCast_emod]
  generalize hD:(m - x.begins).toNat=D at*
  have s1:aH H (upd H p (.tup [.int ((D / x.half_:Nat):Int),.int ((D%x.half_:Nat):Int)])):=aH.upd hp
  have hp1:jF K (upd H p (.tup [.int ((D / x.half_:Nat):Int),.int ((D%x.half_:Nat):Int)])) p [.int ((D / x.half_:Nat):Int),.int ((D%x.half_:Nat):Int)]:=jF.of aF
  refine bP hp1 rfl ?_
  refine⟨_,rfl,fun H2 v2 s2 k2=>?_⟩
  have s12:=s1.trans s2
  refine bN (s12 _ _ h1) T.cR T.DS rfl ?_
  refine⟨_,rfl,⟨by decide+kernel,by rw[Int.natAbs_natCast];exact dO (b:=100000) hlt (by decide)⟩,?_⟩
  refine⟨((2*x.half_:Nat):Int),by rw[Int.natCast_mul];rfl,fun H3 v3 s3 k3=>?_⟩
  have s13:=s12.trans s3
  refine⟨_,Rb50.EXT,64,79,v2,v3,_,_,rfl,T.toTxt.unit _,gB,k2.same s3,k3,n2,n3,?_,fun H4 v4 s4 k4=>?_⟩
  ·show((2*x.half_:Nat):Int).natAbs≠0
   rw[Int.natAbs_natCast];lia
  have s14:=s13.trans s4
  refine bN (s14 _ _ h1) T.cR T.Hq rfl ?_
  refine⟨_,rfl,fun H5 v5 s5 k5=>?_⟩
  refine⟨_,rfl,fun H6 v6 s6 k6=>?_⟩
  have s46:=s5.trans s6
  refine⟨_,Rb50.EXT,64,79,v6,v4,_,_,rfl,T.toTxt.unit _,gB,k6,k4.same s46,n4,n5,fun H7 v7 s7 k7=>?_⟩
  refine⟨_,Rb50.EXT,64,79,v5,v7,_,_,rfl,T.toTxt.unit _,gB,(k5.same s6).same s7,k7,n1,n6,fun H8 v8 s8 k8=>?_⟩
  have s28:=(((((s2.trans s3).trans s4).trans s46).trans s7).trans s8)
  refine bP (aH.tup s28 hp1) rfl ?_
  refine⟨_,_,⟨rfl,rfl⟩,?_⟩
  have em: -(if(20000:Int)<((D / x.half_:Nat):Int)then 20000 else((D / x.half_:Nat):Int))=-((min (D / x.half_) 20000:Nat):Int):=by
   generalize D / x.half_=z
   split<;>lia
  rw[em]
  refine⟨_,Rb50.EXT,64,79,v8,_,_,rfl,T.toTxt.unit _,gB,k8,n7,?_,fun H9 v9 s9 k9=>q H9 v9 ((s1.trans s28).trans s9) ?_⟩
  ·generalize D / x.half_=z
   lia
  ·unfold wg
   rw[hD]
   exact k9
def ve(x:Rb50.Harbour)(m:Int)(i:Nat):Num:=(x.waves.take i).foldl (fun a y=>bL Rb50.EXT a (rC y m)) (dW x.mean)
theorem B8{x:Rb50.Harbour}{m:Int}{i:Nat}{y:Rb50.Wave}(h:x.waves[i]?=some y):ve x m (i+1)=bL Rb50.EXT (ve x m i) (rC y m):=by
 unfold ve
 rw[List.take_succ,h,List.foldl_append]
 rfl
theorem AA{x:Rb50.Harbour}(o:ze x)(m:Int)(i:Nat):NB (ve x m i):=by
 obtain⟨i1,i2⟩:=fM (z:=x.mean) (c:=45) (Nat.le_trans o.mean (by decide)) (by decide) (by decide)
 have hl:=o.len
 have hl2:(x.waves.take i).length≤64:=by rw[List.length_take];lia
 obtain⟨w1,w2⟩:=vg m (x.waves.take i) (fun y hy=>o.waves y (List.mem_of_mem_take hy)) i1 i2 (by decide) (by lia)
 exact .of_ok w2 (by lia)
def dP(K:PySem.W.Frag)(G:Gs)(g:Rb50.Harbour→Int→Num):Sp:=fun vs H Q _=>∃(a la:Addr) (x:Rb50.Harbour) (m:Int),vs=[.ref a,.int m]∧lX K G H a la x∧vd x∧xP m∧∀(H':Hp) (v':V),aH H H'→bI K H' v' (g x m)→Q v' H'
abbrev vK:Stmt:=bJ 55
theorem yj:bz ["sea","minute","total","wave"] ["sea","minute"] (aR vK):=⟨rfl,rfl,rfl,by decide+kernel,rfl,by decide+kernel,by decide+kernel⟩
theorem Ff{f:Addr}{fd:FuncData}(F:eX K "tenths" "tenths" vK f fd)(T:Tx K mg G)(h_of_whole:di P w K mg base "of_whole" 1 ["value"] (fX K))(h_add:di P w K mg base "add" 3 ["kind","x","y"] (eY K bL))(h_multiply:di P w K mg base "multiply" 3 ["kind","x","y"] (eY K bC))(h_surge_tenths:di P w K mg base "surge_tenths" 5 ["surge","minute"] (mG K G))(h_cosine:di P w K mg base "cosine" 5 ["part"] (oQ K))(h_place:di P w K mg base "place" 1 ["wave","minute"] (vn K G)):
  cA P w K mg base eS 6 f fd ["sea","minute"] (dP K G cB):=by
 refine F.ok yj (fun vs H Q E h=>?_) (fun cdv A outer s H vs Q E hr h=>?_)
 ·obtain⟨a,la,x,m,rfl,_⟩:=h
  rfl
 ·have nd:=yj.nd
  obtain⟨a,la,x,m,rfl,hs,fQ,hm,q⟩:=h
  obtain⟨dx,ws,sv,h1,h4,h5,h7⟩:=hs.ex
  refine⟨_,(ai (bB (i:=2) nd rfl (Or.inl rfl) (aj h_of_whole (hr.mono (by decide)) rfl (aa (bD (pv 0) rfl) af)))
   (ai (jq PassesOwn.never rfl (gK (bD (pv 0) rfl)) (dJ (i:=3) nd rfl (Or.inl rfl))
    (aB (bB (i:=2) nd rfl (Or.inl rfl) (aj h_add (hr.mono (by decide)) rfl (aa (cG rfl T.fz) (aa (pv 2) (aa (aj h_multiply (hr.mono (by decide)) rfl (aa (cG rfl T.fz) (aa (bD (pv 3) rfl) (aa (aj h_cosine (hr.mono (by decide)) rfl (aa (aj h_place (hr.mono (by decide)) rfl (aa (pv 3) (aa (pv 1) af))) af)) af)))) af)))))))
   (ai (cZ (PW.pt (zI (bZ JU (bD (pv 0) rfl) Hu (cK _)) (uQ (bZ HG (pv 1) (bD (bD (pv 0) rfl) rfl) (cK _))))) (aB (bB (i:=2) nd rfl (Or.inl rfl) (aj h_add (hr.mono (by decide)) rfl (aa (cG rfl T.fz) (aa (pv 2) (aa (aj h_surge_tenths (hr.mono (by decide)) rfl (aa (bD (pv 0) rfl) (aa (pv 1) af))) af)))))) cg)
   (aB (bA (pv 2)))))),?_⟩
  sleep 2
  refine bN h1 T.cS T.Bd rfl ?_
  refine⟨_,rfl,fun H1 v1 s1 k1=>?_⟩
  refine⟨_,rfl,?_⟩
  refine bN (s1 _ _ h1) T.cS T.vX rfl ?_
  refine⟨la,rfl,⟨ws,dY.of (s1 _ _ h4)⟩,?_⟩
  refine ow (K:=K) (a:=la) (xs:=ws) (fun i σ H'=>∃(v:V) (v3:Option V),σ=[some (.ref a),some (.int m),some v,v3]∧aH H1 H'∧bI K H' v (ve x m i))
   ⟨v1,none,rfl,aH.refl _,k1⟩ (fun i σ H' _ ⟨_,_,_,s2,_⟩=>dY.of (s2 _ _ (s1 _ _ h4))) ?_ ?_
  ·rintro i y σ H' hi ⟨v,v3,rfl,s2,hv⟩
   obtain⟨wv,hwv,hyw⟩:=Paired.get' h5 hi
   have s12:=s1.trans s2
   have hmem:wv∈x.waves:=List.mem_of_getElem? hwv
   have wok:=fQ.ok.waves wv hmem
   obtain⟨n1,n2,n3,n4,n5⟩:=zf wok m
   have hyw':=hyw.same s12
   obtain⟨wa,wdx,hv',fv,wv',rfl,w1,w2,w3,w4⟩:=hyw'.ex
   sleep 2
   refine bN w1 T.cW T.zg rfl ?_
   refine⟨_,wv,m,rfl,hyw',(fQ.wv wv hmem).2,hm,?_⟩
   refine⟨_,rfl,r8 wv m,fun H2 v2 s3 k2=>?_⟩
   refine⟨_,Rb50.EXT,64,79,wv',v2,_,_,rfl,T.toTxt.unit _,gB,w4.same s3,k2,n3,n4,fun H3 v3 s3' k3=>?_⟩
   refine⟨_,Rb50.EXT,64,79,v,v3,_,_,rfl,T.toTxt.unit _,gB,(hv.same s3).same s3',k3,AA fQ.ok m i,n5,fun H4 v4 s4 k4=>?_⟩
   exact⟨((s2.trans s3).trans s3').trans s4,by rw[B8 hwv];exact k4⟩
  ·rintro σ H' ⟨v,v3,rfl,s2,hv⟩
   have s12:=s1.trans s2
   have hl:ws.length=x.waves.length:=Paired.length h5
   rw[hl]at hv
   sleep 2
   have e0:ve x m x.waves.length=x.waves.foldl (fun a w=>bL Rb50.EXT a (rC w m)) (dW x.mean):=by unfold ve;rw[List.take_length]
   have nb:=AA fQ.ok m x.waves.length
   refine bN (s12 _ _ h1) T.cS T.sU rfl ?_
   have hsg:=fQ.ok.surge
   unfold cB at q
   simp only at q
   rw[←e0]at q
   cases hx:x.surge with
   |none=>
    rw[hx]at h7 q
    exact .inl ⟨h7,q _ _ s12 hv⟩
   |some g=>
    rw[hx]at h7 q
    obtain⟨ga,gx,rfl,g1⟩:=(show fm G H sv g from h7).ex
    refine .inr ⟨(by intro z;cases z),?_⟩
    refine bN (s12 _ _ h1) T.cS T.sU rfl ?_
    refine bN (s12 _ _ g1) T.cR T.uO rfl ?_
    refine⟨_,rfl,?_⟩
    by_cases c:g.begins≤m
    ·rw[if_pos c]
     simp only[show ¬m<g.begins by lia,if_false]at q
     refine bN (s12 _ _ h1) T.cS T.sU rfl ?_
     refine⟨_,g,m,rfl,(show fm G H (V.ref ga) g from h7).same s12,hsg g hx,c,fun H3 v3 s3 k3=>?_⟩
     exact⟨_,Rb50.EXT,64,79,v,v3,_,_,rfl,T.toTxt.unit _,gB,hv.same s3,k3,nb,.of_ok (AS (hsg g hx) m).2 (by decide),fun H4 v4 s4 k4=>q H4 v4 ((s12.trans s3).trans s4) k4⟩
    ·rw[if_neg c]
     simp only[show m<g.begins by lia,if_true]at q
     exact q _ _ s12 hv
def jw(K:PySem.W.Frag):Sp:=fun vs H Q _=>∃(v:V) (n:Num),vs=[v]∧bI K H v n∧NB n∧∀(H':Hp) (v':V),aH H H'→bI K H' v' (eG n)→Q v' H'
abbrev nD:Stmt:=bJ 56
theorem qW:bz ["height"] ["height"] (aR nD):=⟨rfl,rfl,rfl,by decide+kernel,rfl,by decide+kernel,by decide+kernel⟩
theorem zZ{f:Addr}{fd:FuncData}(F:eX K "as_metres" "as_metres" nD f fd)(T:Tx K mg G)(h_divide:di P w K mg base "divide" 3 ["kind","x","y"] (lg K))(h_of_whole:di P w K mg base "of_whole" 1 ["value"] (fX K)):
  cA P w K mg base eS 4 f fd ["height"] (jw K):=by
 refine F.ok qW (fun vs H Q E h=>?_) (fun cdv A outer s H vs Q E hr h=>?_)
 ·obtain⟨v,n,rfl,_⟩:=h
  rfl
 ·have nd:=qW.nd
  obtain⟨v,n,rfl,hv,nb,q⟩:=h
  refine⟨_,(aB (bA (aj h_divide (hr.mono (by decide)) rfl (aa (cG rfl T.fz) (aa (pv 0) (aa (aj h_of_whole (hr.mono (by decide)) rfl (aa az af)) af)))))),?_⟩
  sleep 2
  refine⟨_,rfl,fun H2 v2 s2 k2=>?_⟩
  exact⟨_,Rb50.EXT,64,79,v,v2,_,_,rfl,T.toTxt.unit _,gB,hv.same s2,k2,nb,⟨by decide,by decide,by decide⟩,by decide,fun H3 v3 s3 k3=>q H3 v3 (s2.trans s3) k3⟩
abbrev vQ:Stmt:=bJ 57
theorem ym:bz ["sea","minute"] ["sea","minute"] (aR vQ):=⟨rfl,rfl,rfl,by decide+kernel,rfl,by decide+kernel,by decide+kernel⟩
theorem Fo{f:Addr}{fd:FuncData}(F:eX K "metres" "metres" vQ f fd)(T:Tx K mg G)(h_as_metres:di P w K mg base "as_metres" 4 ["height"] (jw K))(h_tenths:di P w K mg base "tenths" 6 ["sea","minute"] (dP K G cB)):
  cA P w K mg base eS 7 f fd ["sea","minute"] (dP K G fun x m=>eG (cB x m)):=by
 refine F.ok ym (fun vs H Q E h=>?_) (fun cdv A outer s H vs Q E hr h=>?_)
 ·obtain⟨a,la,x,m,rfl,_⟩:=h
  rfl
 ·have nd:=ym.nd
  obtain⟨a,la,x,m,rfl,hs,fQ,hm,q⟩:=h
  refine⟨_,(aB (bA (aj h_as_metres (hr.mono (by decide)) rfl (aa (aj h_tenths (hr.mono (by decide)) rfl (aa (pv 0) (aa (pv 1) af))) af)))),?_⟩
  sleep 2
  refine⟨a,la,x,m,rfl,hs,fQ,hm,fun H1 v1 s1 k1=>?_⟩
  exact⟨_,_,rfl,k1,.of_ok (gk fQ.ok m).2 (by decide),fun H3 v3 s3 k3=>q H3 v3 (s1.trans s3) k3⟩
abbrev nj:Stmt:=bJ 58
theorem qQ:bz ["sea","minute"] ["sea","minute"] (aR nj):=⟨rfl,rfl,rfl,by decide+kernel,rfl,by decide+kernel,by decide+kernel⟩
theorem zT{f:Addr}{fd:FuncData}(F:eX K "sea_level" "sea_level" nj f fd)(T:Tx K mg G)(h_turned:di P w K mg base "turned" 3 ["kind","x"] (kX K))(h_metres:di P w K mg base "metres" 7 ["sea","minute"] (dP K G fun x m=>eG (cB x m))):
  cA P w K mg base eS 8 f fd ["sea","minute"] (dP K G zK):=by
 refine F.ok qQ (fun vs H Q E h=>?_) (fun cdv A outer s H vs Q E hr h=>?_)
 ·obtain⟨a,la,x,m,rfl,_⟩:=h
  rfl
 ·have nd:=qQ.nd
  obtain⟨a,la,x,m,rfl,hs,fQ,hm,q⟩:=h
  refine⟨_,(aB (bA (aj h_turned (hr.mono (by decide)) rfl (aa (cG rfl T.cu) (aa (aj h_metres (hr.mono (by decide)) rfl (aa (pv 0) (aa (pv 1) af))) af))))),?_⟩
  sleep 2
  refine⟨a,la,x,m,rfl,hs,fQ,hm,fun H1 v1 s1 k1=>?_⟩
  obtain⟨t1,t2⟩:=gk fQ.ok m
  obtain⟨m1,m2⟩:=fU t1 t2 (by decide) (by decide)
  exact⟨_,Rb50.SINGLE,23,31,_,_,rfl,T.toTxt.single _,cF,k1,.of_ok m2 (by decide),fun H3 v3 s3 k3=>q H3 v3 (s1.trans s3) k3⟩
abbrev kN:Stmt:=bJ 59
theorem nh:bz ["sea","minute"] ["sea","minute"] (aR kN):=⟨rfl,rfl,rfl,by decide+kernel,rfl,by decide+kernel,by decide+kernel⟩
theorem wK{f:Addr}{fd:FuncData}(F:eX K "millimetres" "millimetres" kN f fd)(T:Tx K mg G)(h_divide:di P w K mg base "divide" 3 ["kind","x","y"] (lg K))(h_tenths:di P w K mg base "tenths" 6 ["sea","minute"] (dP K G cB))(h_of_whole:di P w K mg base "of_whole" 1 ["value"] (fX K)):
  cA P w K mg base eS 7 f fd ["sea","minute"] (dP K G fun x m=>LJ (cB x m)):=by
 refine F.ok nh (fun vs H Q E h=>?_) (fun cdv A outer s H vs Q E hr h=>?_)
 ·obtain⟨a,la,x,m,rfl,_⟩:=h
  rfl
 ·have nd:=nh.nd
  obtain⟨a,la,x,m,rfl,hs,fQ,hm,q⟩:=h
  refine⟨_,(aB (bA (aj h_divide (hr.mono (by decide)) rfl (aa (cG rfl T.fz) (aa (aj h_tenths (hr.mono (by decide)) rfl (aa (pv 0) (aa (pv 1) af))) (aa (aj h_of_whole (hr.mono (by decide)) rfl (aa az af)) af)))))),?_⟩
  sleep 2
  refine⟨a,la,x,m,rfl,hs,fQ,hm,fun H1 v1 s1 k1=>?_⟩
  refine⟨_,rfl,fun H2 v2 s2 k2=>?_⟩
  exact⟨_,Rb50.EXT,64,79,v1,v2,_,_,rfl,T.toTxt.unit _,gB,k1.same s2,k2,.of_ok (gk fQ.ok m).2 (by decide),⟨by decide,by decide,by decide⟩,by decide,fun H3 v3 s3 k3=>q H3 v3 ((s1.trans s2).trans s3) k3⟩
end TB
end
local macro_rules|`(tactic|sleep 1)=>`(tactic|((try dsimp[L2.cJ,L2.aN,L2.aL,L2.bO,L2.bQ,L2.aG,L2.rI,L2.bR,L2.rU,L2.ao,L2.start,L2.aK,L2.bV,L2.bT,L2.aP,L2.aV,L2.au,L2.bS,L2.aO,L2.tC,L2.ay,L2.aM,L2.bU,L2.ak,L2.aI,L2.aQ,L2.aW,L2.aq,L2.aJ,L2.cD,L2.bf,TB.aA,TB.bG,L2.aX,L2.bW,L2.aY,L2.aZ,L2.bH,L2.aE]);(try simp[L2.cJ,L2.aN,L2.aL,L2.bO,L2.bQ,L2.aG,L2.rI,L2.bR,L2.rU,L2.ao,L2.start,L2.aK,L2.bV,L2.bT,L2.aP,L2.aV,L2.au,L2.bS,L2.aO,L2.tC,L2.ay,L2.aM,L2.bU,L2.ak,L2.aI,L2.aQ,L2.aW,L2.aq,L2.aJ,L2.cD,L2.bf,TB.aA,TB.bG,L2.aX,L2.bW,L2.aY,L2.aZ,L2.bH,L2.aE])))
noncomputable section
namespace TB
open PySem PySem.Spec PyProof.Rows L2 TM
section
variable{P:Program}{w:World}{K:PySem.W.Frag}{mg:Str→Option Value}{base:Heap}{aU aD aS aC aT:Addr}
structure Gg(mg:Str→Option Value):Prop where
 jf:fq mg "PACKED" 9
 pq:fq mg "MINUS" 128
 gZ:mg "len"=none
 BZ:mg "str"=none
 mD:mg "reversed"=none
 xJ:mg "ord"=none
theorem qA:∀(n x k:Nat),(Rb50.digits n x).getD k 0=if k<n then x / 10^k%10 else 0
 |0,x,k=>by simp[Rb50.digits]
 |n+1,x,0=>by simp[Rb50.digits]
 |n+1,x,k+1=>by
  show(Rb50.digits n (x / 10)).getD k 0=_
  rw[qA n (x / 10) k,Nat.div_div_eq_div_mul,Nat.pow_succ,Nat.mul_comm 10]
  by_cases h:k<n
  ·rw[if_pos h,if_pos (by lia)]
  ·rw[if_neg h,if_neg (by lia)]
def pk(z i:Nat):Nat:=z / 100^i / 10%10*16+z / 100^i%10
theorem Df(z:Int):Rb50.decimal z=(List.range 9).map (pk z.natAbs)++[if z<0 then 128 else 0]:=by
 unfold Rb50.decimal
 congr 1
 apply List.map_congr_left
 intro i hi
 have hi':i<9:=List.mem_range.mp hi
 rw[qA,qA,if_pos (by lia),if_pos (by lia)]
 unfold pk
 have e1:(100:Nat)^i=10^(2*i):=by rw[Nat.pow_mul]
 rw[e1,Nat.div_div_eq_div_mul,←Nat.pow_succ,Nat.mul_comm 16,Nat.add_comm]
theorem JL(z i:Nat):z / 100^i / 100=z / 100^(i+1):=by rw[Nat.div_div_eq_div_mul,←Nat.pow_succ]
theorem ty_list{H:Hp}{p:Addr}{xs:List V}(h:dY K H p xs):bW K "list" (.ref p) H:=.inl ⟨rfl,_,h⟩
theorem fT{H:Hp}{l:Addr}{xs:List V}{y:V}{Q:VK}(h:H l=some (.lst xs))(hz:xs.length<sizeLine)(q:Q .gh (upd H l (.lst (xs++[y])))):zH (.ref l) [y] H Q:=⟨l,xs,y,rfl,rfl,h,hz,q⟩
theorem aH.put{H H':Hp}{p:Addr}{o:HO}(e:aH H H')(h:H p=none):aH H (L2.upd H' p o):=fun b u hb=>by
 rw[cQ (cO hb h)]
 exact e b u hb
def vN(n:Nat):V:=.int (n:Int)
abbrev vP:Stmt:=bJ 3
def yg:Sp:=fun vs H Q _=>∃z:Int,vs=[.int z]∧∀(H':Hp) (p:Addr),aH H H'→H p=none→H' p=some (.lst ((Rb50.decimal z).map vN))→Q (.ref p) H'
theorem yl:bz ["value","rest","row"] ["value"] (aR vP):=⟨rfl,rfl,rfl,by decide+kernel,rfl,by decide+kernel,by decide+kernel⟩
theorem Fl{f:Addr}{fd:FuncData}(F:eX K "packed" "packed" vP f fd)(T:Txt K mg aU aD aS)(D:Gg mg):cA P w K mg base eS 1 f fd ["value"] yg:=by
 refine F.ok yl (fun vs H Q E h=>?_) (fun cdv A outer s H vs Q E hr h=>?_)
 ·obtain⟨z,rfl,_⟩:=h
  rfl
 ·obtain⟨z,rfl,q⟩:=h
  have nd:=yl.nd
  refine⟨_,(ai (bB (i:=1) nd rfl (Or.inl rfl) (cE jh (by rfl) T.oG oE (aa (pv 0) af)))
   (ai (bB (i:=2) nd rfl (Or.inl rfl) (cC af))
   (ai (nI PassesOwn.never (bZ lM (cE fk (by rfl) D.gZ iD (aa (pv 2) af)) (bw rfl D.jf) (cK _))
    (ai (fK (nQ PySem.F.plainAttrs_list PySem.F.slot_list_append PySem.F.type_list_append gn (pv 2) (aa (bu cT (bu gm (bu gS (bu gc (pv 1) az) az) az) (bu gS (pv 1) az)) af)))
    (aB (bB (i:=1) nd rfl (Or.inl rfl) (bu gc (pv 1) az)))))
   (ai (fK (nQ PySem.F.plainAttrs_list PySem.F.slot_list_append PySem.F.type_list_append gn (pv 2) (aa (fO (bZ lM (pv 0) az (cK _)) (bw rfl D.pq) az) af)))
   (aB (bA (pv 2))))))),?_⟩
  refine⟨_,rfl,z,rfl,Nat.zero_le _,fun p hp=>?_⟩
  have ea:(if z<0 then -z else z)=((z.natAbs:Nat):Int):=by split<;>lia
  rw[ea]
  refine mY (fun σ H'=>∃i,i≤9∧σ=[some (.int z),some (vN (z.natAbs / 100^i)),some (.ref p)]∧H' p=some (.lst ((List.range i).map fun j=>vN (pk z.natAbs j)))∧aH H H')
   (fun σ H'=>match H' p with|some (.lst xs)=>9 - xs.length|_=>0) ⟨0,by decide,by simp[vN,L2.start],by rw[aF];rfl,aH.upd hp⟩ ?_ ?_
  ·rintro σ H' ⟨i,hi,rfl,h1,s1⟩
   refine⟨_,rfl,_,_,rfl,.inl ⟨_,dY.of h1,rfl⟩,?_⟩
   refine⟨_,_,rfl,rfl,_,rfl,?_⟩
   rw[List.length_map,List.length_range]
   show(if decide ((i:Int)<9)=true then _ else _)
   by_cases c:i<9
   ·rw[if_pos (decide_eq_true (show(i:Int)<9 by lia))]
    try dsimp[aN,aL,bO,bQ,aG,rI,bR,rU,ao,L2.start,aK,bV,bT,aP,aV,au,bS,aO,tC,ay,aM,bU,ak,aI,aQ,aW,aq,aJ,cD,vN]
    try simp[aN,aL,bO,bQ,aG,rI,bR,rU,ao,L2.start,aK,bV,bT,aP,aV,au,bS,aO,tC,ay,aM,bU,ak,aI,aQ,aW,aq,aJ,cD,vN]
    refine⟨ty_list (dY.of h1),⟨by decide,by decide+kernel⟩,⟨?_,by decide+kernel⟩,?_⟩
    ·have b1:=Int.emod_nonneg ((z.natAbs:Int) / 100^i / 10) (by decide:(10:Int)≠0)
     have b2:=Int.emod_lt_of_pos ((z.natAbs:Int) / 100^i / 10) (by decide:(0:Int)<10)
     exact Nat.lt_of_lt_of_le (m:=2^4) (by lia) (Nat.pow_le_pow_right (by decide) (by decide))
    refine fT h1 (by rw[List.length_map,List.length_range];exact Nat.lt_of_lt_of_le c (by decide)) ?_
    refine⟨⟨by decide,by decide+kernel⟩,⟨i+1,by lia,?_,?_,aH.put s1 hp⟩,?_⟩
    ·have:=JL z.natAbs i
     have e2:=congrArg (fun n:Nat=>(n:Int)) this
     simp only[Int.natCast_ediv,Int.natCast_pow]at e2
     exact e2
    ·rw[aF,List.range_succ,List.map_append]
     have e3:(z.natAbs:Int) / 100^i / 10%10*16+(z.natAbs:Int) / 100^i%10=((pk z.natAbs i:Nat):Int):=by
      unfold pk
      simp only[Int.natCast_add,Int.natCast_mul,Int.natCast_ediv,Int.natCast_emod,Int.natCast_pow]
      rfl
     rw[e3]
     rfl
    ·rw[aF,h1]
     simp only[List.length_append,List.length_map,List.length_range,List.length_cons,List.length_nil]
     lia
   ·rw[if_neg (by rw[decide_eq_false (show ¬(i:Int)<9 by lia)];decide)]
    have e9:i=9:=by lia
    subst e9
    try dsimp[aN,aL,bO,bQ,aG,rI,bR,rU,ao,L2.start,aK,bV,bT,aP,aV,au,bS,aO,tC,ay,aM,bU,ak,aI,aQ,aW,aq,aJ,cD,vN]
    try simp[aN,aL,bO,bQ,aG,rI,bR,rU,ao,L2.start,aK,bV,bT,aP,aV,au,bS,aO,tC,ay,aM,bU,ak,aI,aQ,aW,aq,aJ,cD,vN]
    refine⟨ty_list (dY.of h1),?_⟩
    have ez:(List.range 9).length<sizeLine:=by decide
    have fin:∀m:Nat,(if z<0 then 128 else 0)=m→zH (V.ref p) [V.int (m:Int)] H' fun x H1=>Q (V.ref p) H1:=by
     intro m em
     refine fT h1 (by rw[List.length_map];exact ez) (q _ _ (aH.put s1 hp) hp ?_)
     rw[aF,Df,em,List.map_append,List.map_map]
     rfl
    by_cases c2:z<0
    ·rw[if_pos c2]
     exact fin 128 (if_pos c2)
    ·rw[if_neg c2]
     exact fin 0 (if_neg c2)
  ·intro σ H1 Q1 Q2 hQ h
   obtain⟨v,hv,x,n,hx,hl,i,j,h1,h2,k,h3,h4⟩:=h
   exact⟨v,hv,x,n,hx,hl,i,j,h1,h2,k,h3,hQ _ _ h4⟩
theorem Ko{a:Addr}{xs:List V}{g:TG}{tb:TS}{D:Ends}{σ:L2.St}{H:Hp}(Pv:Nat→L2.St→Hp→Prop)(h0:Pv 0 σ H)(hl:∀i σ H,i≤xs.length→Pv i σ H→dY K H a xs)
  (hs:∀i x σ H,i<xs.length→xs[xs.length - 1 - i]?=some x→Pv i σ H→g x σ H fun σ2 H2=>tb {D with nx:=Pv (i+1),ct:=Pv (i+1),bk:=D.nx} σ2 H2)(hd:∀σ H,Pv xs.length σ H→D.nx σ H):
  ∃W:Nat→Nat→L2.St→Hp→Prop,(∃m,W 0 m σ H)∧∀i m σ H,W i m σ H→
   ((Nc K a xs.length).stop i H∧D.nx σ H)∨((Nc K a xs.length).go i H∧∃N:L2.St→Hp→Prop,(∀σ' H',N σ' H'→∃m',m'<m∧W (i+1) m' σ' H')∧∀x H',(Nc K a xs.length).Az i H x H'→g x σ H' fun σ2 H2=>tb {D with nx:=N,ct:=N,bk:=D.nx} σ2 H2):=by
 refine⟨fun i m σ H=>m=xs.length - i∧i≤xs.length∧Pv i σ H,⟨xs.length,by simp,Nat.zero_le _,h0⟩,?_⟩
 rintro i m σ H ⟨rfl,hi,p⟩
 have q:=hl i σ H hi p
 by_cases hlt:i<xs.length
 ·refine .inr ⟨⟨hlt,xs,xs[xs.length - 1 - i],q,by simp⟩,Pv (i+1),fun σ' H' p'=>⟨xs.length - (i+1),by lia,rfl,hlt,p'⟩,fun x H' y=>?_⟩
  obtain⟨e,y⟩:=y
  subst e
  exact hs i x σ _ hlt (y xs q) p
 ·have e:i=xs.length:=by lia
  subst e
  exact .inl ⟨Nat.le_refl _,hd σ H p⟩
def rS(b:Nat):Bool:=decide (b%16≤9)&&decide (b / 16≤9)
def Je(bs:List Nat):Bool:=(bs.take 9).all rS&&(decide (bs.getD 9 0=0)||decide (bs.getD 9 0=128))
theorem IP{bs:List Nat}(h:bs.length=10):pP (bs.map vN) none (some 9)=(bs.take 9).map vN:=by
 unfold pP
 have e1:HT.gC (bs.map vN).length 0 none=0:=rfl
 have e2:HT.gC (bs.map vN).length (bs.map vN).length (some 9)=9:=by
  rw[List.length_map,h]
  rfl
 rw[e1,e2,List.drop_zero,List.map_take]
theorem M0{bs:List Nat}(h:bs.length=10):zd (bs.map vN) 9=some (vN (bs.getD 9 0)):=by
 refine eV (j:=9) ?_
 rw[List.getElem?_map,List.getElem?_eq_getElem (by lia)]
 simp only[Option.map_some,List.getD_eq_getElem?_getD,List.getElem?_eq_getElem (show 9<bs.length by lia),Option.getD_some]
theorem bM{H:Hp}{p:Addr}{xs:List V}{i:Int}{v:V}{Q:VK}(h:dY K H p xs)(e:zd xs i=some v)(q:Q v H):LH K (.ref p) (.int i) H Q:=⟨p,xs,i,v,rfl,rfl,h,e,q⟩
theorem Ov(e a b:Nat):El (vN e) [vN a,vN b]=(decide (e=a)||decide (e=b)):=by
 have h:El (vN e) [vN a,vN b]=(((a:Int)==(e:Int))||(((b:Int)==(e:Int))||false)):=rfl
 rw[h]
 by_cases h1:e=a<;>by_cases h2:e=b<;>simp[h1,h2]<;>lia
abbrev nA:Stmt:=bJ 4
def qL(K:PySem.W.Frag):Sp:=fun vs H Q _=>∃(a:Addr) (bs:List Nat),vs=[.ref a]∧dY K H a (bs.map vN)∧bs.length=10∧∀H':Hp,aH H H'→Q (.bl (Je bs)) H'
theorem qU:bz ["row","byte"] ["row"] (aR nA):=⟨rfl,rfl,rfl,by decide+kernel,rfl,by decide+kernel,by decide+kernel⟩
theorem zX{f:Addr}{fd:FuncData}(F:eX K "is_packed" "is_packed" nA f fd)(D:Gg mg):cA P w K mg base eS 1 f fd ["row"] (qL K):=by
 refine F.ok qU (fun vs H Q E h=>?_) (fun cdv A outer s H vs Q E hr h=>?_)
 ·obtain⟨a,bs,rfl,_⟩:=h
  rfl
 ·obtain⟨a,bs,rfl,ha,hl,q⟩:=h
  have nd:=qU.nd
  refine⟨_,(ai (jq PassesOwn.never rfl (gK (nP uL (pv 0) uS (oY (bw rfl D.jf)))) (dJ (i:=1) nd rfl (Or.inl rfl))
    (aB (cZ (PW.pt (uc (bZ uf (bu gS (pv 1) az) az (cK _)) (nH (bZ uf (bu gc (pv 1) az) az (cK _))))) (aB (bA D3)) cg)))
   (aB (bA (mq iJ (bq bE (pv 0) (bw rfl D.jf) (fun _ _=>rfl)) (fL (aa az (aa (bw rfl D.pq) af))) rfl)))),?_⟩
  refine⟨_,rfl,_,rfl,a,bs.map vN,rfl,ha,fun p hp=>?_⟩
  rw[IP hl]
  have s0:aH H (upd H p (.lst ((bs.take 9).map vN))):=aH.upd hp
  refine⟨p,rfl,⟨_,dY.of aF⟩,?_⟩
  refine ow (K:=K) (a:=p) (xs:=(bs.take 9).map vN) (fun i σ H'=>∃v:Option V,σ=[some (.ref a),v]∧aH (upd H p (.lst ((bs.take 9).map vN))) H'∧((bs.take 9).take i).all rS=true)
   ⟨none,rfl,aH.refl _,rfl⟩ (fun i σ H' _ ⟨_,_,s2,_⟩=>dY.of (s2 _ _ aF)) ?_ ?_
  ·rintro i y σ H' hi ⟨v,rfl,s2,hg⟩
   obtain⟨b,hb,rfl⟩:∃b,(bs.take 9)[i]?=some b∧y=vN b:=by
    rw[List.getElem?_map]at hi
    cases e:(bs.take 9)[i]? with
    |none=>rw[e]at hi;cases hi
    |some b=>rw[e]at hi;exact⟨b,rfl,(Option.some.inj hi).symm⟩
   have hmem:b∈bs.take 9:=List.mem_of_getElem? hb
   try dsimp[aN,aL,bO,bQ,aG,rI,bR,rU,ao,L2.start,aK,bV,bT,aP,aV,au,bS,aO,tC,ay,aM,bU,ak,aI,aQ,aW,aq,aJ,cD,vN]
   try simp[aN,aL,bO,bQ,aG,rI,bR,rU,ao,L2.start,aK,bV,bT,aP,aV,au,bS,aO,tC,ay,aM,bU,ak,aI,aQ,aW,aq,aJ,cD,vN]
   have hbad:rS b=false→Q (V.bl false) H':=by
    intro hf
    have e:Je bs=false:=by
     unfold Je
     have:(bs.take 9).all rS=false:=by
      rw[Bool.eq_false_iff]
      intro h
      rw[List.all_eq_true]at h
      rw[h b hmem]at hf
      cases hf
     rw[this,Bool.false_and]
    rw[←e]
    exact q _ (s0.trans s2)
   have gb:rS b=(decide (b%16≤9)&&decide (b / 16≤9)):=rfl
   by_cases c1:9<b%16
   ·rw[if_pos (by lia)]
    exact hbad (by rw[gb,decide_eq_false (by lia),Bool.false_and])
   ·rw[if_neg (by lia)]
    refine⟨⟨by decide,by decide+kernel⟩,?_⟩
    by_cases c2:9<b / 16
    ·rw[if_pos (by lia)]
     exact hbad (by rw[gb,decide_eq_false (p:=b / 16≤9) (by lia),Bool.and_false])
    ·rw[if_neg (by lia)]
     rw[←List.map_take]
     refine⟨s2,?_⟩
     intro x hx
     rw[List.take_succ,hb]at hx
     rcases List.mem_append.mp hx with h|h
     ·exact List.all_eq_true.mp hg x h
     ·have:x=b:=by simpa using h
      subst this
      rw[gb,decide_eq_true (p:=x%16≤9) (by lia),decide_eq_true (p:=x / 16≤9) (by lia)]
      rfl
  ·rintro σ H' ⟨v,rfl,s2,hg⟩
   try dsimp[aN,aL,bO,bQ,aG,rI,bR,rU,ao,L2.start,aK,bV,bT,aP,aV,au,bS,aO,tC,ay,aM,bU,ak,aI,aQ,aW,aq,aJ,cD]
   try simp[aN,aL,bO,bQ,aG,rI,bR,rU,ao,L2.start,aK,bV,bT,aP,aV,au,bS,aO,tC,ay,aM,bU,ak,aI,aQ,aW,aq,aJ,cD]
   have s02:=s0.trans s2
   rw[List.length_map,List.take_length]at hg
   refine bM (s02.seq ha) (M0 hl) ⟨by decide,fun r hr=>?_⟩
   refine⟨r,_,rfl,.inr (jF.of aF),rfl,rfl,?_⟩
   have e:Je bs=El (vN (bs.getD 9 0)) [V.int 0,V.int 128]:=by
    have:=Ov (bs.getD 9 0) 0 128
    unfold Je
    rw[hg,Bool.true_and]
    exact this.symm
   rw[if_neg (by decide),←e]
   exact q _ (s02.trans (aH.upd hr))
abbrev qk:Stmt:=bJ 5
def Jh(bs:List Nat):Int:=if bs.getD 9 0=128 then -(((bs.take 9).foldr (fun(b s:Nat)=>b%16+10*(b / 16)+100*s) 0:Nat):Int)else(((bs.take 9).foldr (fun(b s:Nat)=>b%16+10*(b / 16)+100*s) 0:Nat):Int)
theorem zj{bs:List Nat}(h:bs.length=10):Rb50.undecimal bs=if Je bs=true then some (Jh bs)else none:=by
 unfold Rb50.undecimal Je
 by_cases c:(bs.take 9).all rS=true
 ·by_cases d:bs.getD 9 0=0∨bs.getD 9 0=128
  ·have e1:((bs.take 9).all rS&&(decide (bs.getD 9 0=0)||decide (bs.getD 9 0=128)))=true:=by
    rw[c];simpa using d
   rw[if_pos ⟨h,c,d⟩,if_pos e1]
   rfl
  ·have e1:¬((bs.take 9).all rS&&(decide (bs.getD 9 0=0)||decide (bs.getD 9 0=128)))=true:=by
    rw[c];simpa using d
   rw[if_neg (fun z=>d z.2.2),if_neg e1]
 ·have e1:¬((bs.take 9).all rS&&(decide (bs.getD 9 0=0)||decide (bs.getD 9 0=128)))=true:=by
   intro z
   rw[Bool.and_eq_true]at z
   exact c z.1
  rw[if_neg (fun z=>c z.2.1),if_neg e1]
def tT(K:PySem.W.Frag):Sp:=fun vs H Q _=>∃(a:Addr) (bs:List Nat),vs=[.ref a]∧dY K H a (bs.map vN)∧bs.length=10∧(∀b∈bs,b<256)∧∀H':Hp,aH H H'→Q (.int (Jh bs)) H'
theorem tW:bz ["row","value","byte"] ["row"] (aR qk):=⟨rfl,rfl,rfl,by decide+kernel,rfl,by decide+kernel,by decide+kernel⟩
def pQ(l:List Nat)(i:Nat):Nat:=(l.drop (l.length - i)).foldr (fun(b s:Nat)=>b%16+10*(b / 16)+100*s) 0
theorem Ce(l:List Nat):pQ l 0=0:=by unfold pQ;rw[Nat.sub_zero,List.drop_length];rfl
theorem EO(l:List Nat):pQ l l.length=l.foldr (fun(b s:Nat)=>b%16+10*(b / 16)+100*s) 0:=by unfold pQ;rw[Nat.sub_self,List.drop_zero]
theorem Cf{l:List Nat}{i b:Nat}(hi:i<l.length)(h:l[l.length - 1 - i]?=some b):pQ l (i+1)=b%16+10*(b / 16)+100*pQ l i:=by
 unfold pQ
 have hlt:l.length - 1 - i<l.length:=by lia
 have e:l.length - (i+1)=l.length - 1 - i:=by lia
 rw[e,List.drop_eq_getElem_cons hlt,List.foldr_cons]
 have e2:l[l.length - 1 - i]=b:=by
  rw[List.getElem?_eq_getElem hlt]at h
  exact Option.some.inj h
 have e3:l.length - 1 - i+1=l.length - i:=by lia
 rw[e2,e3]
theorem Gz(l:List Nat)(h:∀b∈l,b<256)(i:Nat):pQ l i<1000^l.length:=by
 have aux:∀m:List Nat,(∀b∈m,b<256)→m.foldr (fun(b s:Nat)=>b%16+10*(b / 16)+100*s) 0<1000^m.length:=by
  intro m
  induction m with
  |nil=>intro _;decide
  |cons b m ih=>
   intro hm
   have h1:=ih (fun x hx=>hm x (List.mem_cons_of_mem _ hx))
   have h2:=hm b (List.mem_cons_self)
   rw[List.foldr_cons,List.length_cons,Nat.pow_succ]
   lia
 refine Nat.lt_of_lt_of_le (aux _ fun b hb=>h b (List.mem_of_mem_drop hb)) (Nat.pow_le_pow_right (by decide) ?_)
 rw[List.length_drop]
 lia
theorem Bt{f:Addr}{fd:FuncData}(F:eX K "unpacked" "unpacked" qk f fd)(D:Gg mg):cA P w K mg base eS 1 f fd ["row"] (tT K):=by
 refine F.ok tW (fun vs H Q E h=>?_) (fun cdv A outer s H vs Q E hr h=>?_)
 ·obtain⟨a,bs,rfl,_⟩:=h
  rfl
 ·obtain⟨a,bs,rfl,ha,hl,hby,q⟩:=h
  have nd:=tW.nd
  refine⟨_,(ai (bB (i:=1) nd rfl (Or.inl rfl) az)
   (ai (jq PassesOwn.never rfl (Br (by rfl) D.mD (aa (nP uL (pv 0) uS (oY (bw rfl D.jf))) af)) (dJ (i:=2) nd rfl (Or.inl rfl))
    (aB (bB (i:=1) nd rfl (Or.inl rfl) (bu cT (bu cT (bu gm (pv 1) az) (bu gm (bu gc (pv 2) az) az)) (bu gS (pv 2) az)))))
   (aB (bA (fO (bZ je (bq bE (pv 0) (bw rfl D.jf) (fun _ _=>rfl)) (bw rfl D.pq) (cK _)) (nO jM (pv 1)) (pv 1)))))),?_⟩
  refine⟨_,rfl,_,rfl,a,bs.map vN,rfl,ha,fun p hp=>?_⟩
  rw[IP hl]
  have s0:aH H (upd H p (.lst ((bs.take 9).map vN))):=aH.upd hp
  have hl9:(bs.take 9).length=9:=by rw[List.length_take];lia
  refine⟨p,_,rfl,dY.of aF,?_⟩
  refine Ko (K:=K) (a:=p) (xs:=(bs.take 9).map vN) (fun i σ H'=>∃v:Option V,σ=[some (.ref a),some (vN (pQ (bs.take 9) i)),v]∧aH (upd H p (.lst ((bs.take 9).map vN))) H')
   ⟨none,by rw[Ce];rfl,aH.refl _⟩ (fun i σ H' _ ⟨_,_,s2⟩=>dY.of (s2 _ _ aF)) ?_ ?_
  ·rintro i y σ H' hil hi ⟨v,rfl,s2⟩
   rw[List.length_map]at hil
   rw[List.length_map]at hi
   obtain⟨b,hb,rfl⟩:∃b,(bs.take 9)[(bs.take 9).length - 1 - i]?=some b∧y=vN b:=by
    rw[List.getElem?_map]at hi
    cases e:(bs.take 9)[(bs.take 9).length - 1 - i]? with
    |none=>rw[e]at hi;cases hi
    |some b=>rw[e]at hi;exact⟨b,rfl,(Option.some.inj hi).symm⟩
   have hmem:b∈bs.take 9:=List.mem_of_getElem? hb
   have hb2:=hby b (List.mem_of_mem_take hmem)
   have ht:=Gz (bs.take 9) (fun x hx=>hby x (List.mem_of_mem_take hx)) i
   try dsimp[aN,aL,bO,bQ,aG,rI,bR,rU,ao,L2.start,aK,bV,bT,aP,aV,au,bS,aO,tC,ay,aM,bU,ak,aI,aQ,aW,aq,aJ,cD,vN]
   try simp[aN,aL,bO,bQ,aG,rI,bR,rU,ao,L2.start,aK,bV,bT,aP,aV,au,bS,aO,tC,ay,aM,bU,ak,aI,aQ,aW,aq,aJ,cD,vN]
   refine⟨⟨?_,by decide+kernel⟩,⟨by decide,by decide+kernel⟩,⟨?_,by decide+kernel⟩,?_,?_⟩
   ·rw[Int.natAbs_natCast]
    rw[hl9]at ht
    refine Nat.lt_trans ht (Nat.lt_of_lt_of_le (m:=2^90) (by decide) (Nat.pow_le_pow_right (by decide) (by decide)))
   ·exact Nat.lt_of_lt_of_le (m:=2^8) (by lia) (Nat.pow_le_pow_right (by decide) (by decide))
   ·rw[Cf hil hb]
    lia
   ·rw[←List.map_take]
    exact s2
  ·rintro σ H' ⟨v,rfl,s2⟩
   rw[List.length_map]
   have s02:=s0.trans s2
   have ea:=EO (bs.take 9)
   generalize pQ (bs.take 9) (bs.take 9).length=N at*
   try dsimp[aN,aL,bO,bQ,aG,rI,bR,rU,ao,L2.start,aK,bV,bT,aP,aV,au,bS,aO,tC,ay,aM,bU,ak,aI,aQ,aW,aq,aJ,cD,vN]
   try simp[aN,aL,bO,bQ,aG,rI,bR,rU,ao,L2.start,aK,bV,bT,aP,aV,au,bS,aO,tC,ay,aM,bU,ak,aI,aQ,aW,aq,aJ,cD,vN]
   refine bM (s02.seq ha) (M0 hl) ⟨rfl,?_⟩
   have q':=q _ s02
   unfold Jh at q'
   rw[←ea]at q'
   by_cases c:bs.getD 9 0=128
   ·rw[if_pos c]at q'
    rw[if_pos (by unfold vN;rw[c];rfl)]
    exact q'
   ·rw[if_neg c]at q'
    rw[if_neg (by unfold vN;intro z;have:=V.int.inj z;lia)]
    exact q'
end
end TB
end
noncomputable section
namespace TB
open PySem PySem.Spec PyProof.Rows L2 TM
section
variable{X:Cx}
def JF:V→Hp→VK→Prop:=fun x H Q=>∃y,x=.str y∧y.length≤sizeLine∧Q (.str y) H
theorem CJ{v:Expr}{pos:Pos}{tv:TE}(hv:PE X v tv):PE X (.FormattedValue v (-1) none pos) (bQ JF tv):=by
 intro pins s σ H Q I h
 refine FormattedValue_plain (fS (hv pins s σ H _ I h) fun u s1 ⟨x,H1,I1,r1,y,e,hz,q⟩=>?_)
 subst e
 obtain⟨t,rfl⟩:=r1
 exact formatField_str (fun t' tk=>⟨.str y,H1,I1.tok _,⟨_,rfl⟩,q⟩) hz
inductive PJ(X:Cx):List Expr→List TE→Prop
 |nil:PJ X [] []
 |cons {e:Expr} {t:TE} {es:List Expr} {ts:List TE}:PE X e t→PJ X es ts→PJ X (e::es) (t::ts)
def tJ:List TE→Str→TE
 |[],acc=>fun _ H Q=>acc.length≤sizeLine∧Q (.str acc) H
 |t::ts,acc=>fun σ H Q=>t σ H fun x H1=>∃y,x=.str y∧(acc++y).length≤sizeLine∧tJ ts (acc++y) σ H1 Q
theorem Ip{es:List Expr}{ts:List TE}(h:PJ X es ts):∀(acc:Str) (pins:List (Addr×Obj)) (s:Shared) (σ:L2.St) (H:Hp) (Q:VK),Inv X pins σ H s→tJ ts acc σ H Q→
  wpAny (model X.prog X.w) X.A (joinParts acc (evalEach es X.env)) (EP X pins σ Q) X.xe s:=by
 induction h with
 |nil=>
  intro acc pins s σ H Q I h
  exact joinParts_nil ⟨.str acc,H,I.tok _,⟨_,rfl⟩,h.2⟩ h.1
 |cons he _ ih=>
  intro acc pins s σ H Q I h
  refine joinParts_cons (fS (he pins s σ H _ I h) fun u s1 ⟨x,H1,I1,r1,y,e,hz,q⟩=>?_)
  subst e
  obtain⟨t,rfl⟩:=r1
  exact⟨hz,ih (acc++y) pins s1 σ H1 Q I1 q⟩
theorem Fc{v1 v2:Expr}{rest:List Expr}{ts:List TE}{pos:Pos}(h:PJ X (v1::v2::rest) ts):PE X (.JoinedStr (v1::v2::rest) pos) (tJ ts Str.empty):=
 fun pins s σ H Q I hw=>JoinedStr_many (Ip h Str.empty pins s σ H Q I hw)
def Ho:V→List V→Hp→VK→Prop:=fun x xs H Q=>∃a i,x=.str a∧xs=[.int i]∧PadOk i=true∧Q (.str (Txt.zfill a i)) H
theorem HY:Nv X "str.zfill" Ho:=by
 intro pins s σ H x xs v us Q I r rs h
 obtain⟨a,i,rfl,rfl,hp,q⟩:=h
 obtain⟨u,rfl,t',rfl⟩:=vals1 rs
 obtain⟨t,rfl⟩:=r
 exact SC.zfill hp fun t' k=>⟨.str _,H,I.tok _,⟨_,rfl⟩,q⟩
theorem IV:bootBuiltins "str"=some (.type "str"):=by decide+kernel
end
section
variable{P:Program}{w:World}{K:PySem.W.Frag}{mg:Str→Option Value}{base:Heap}{aU aD aS aC aT:Addr}
theorem Lh{r:Nat}(h:r<1000):(Txt.zfill (Str.ofString (toString ((r:Nat):Int))) 3).cps.toList=[48+r / 100%10,48+r / 10%10,48+r%10]:=by
 have all:∀r:Fin 1000,((Txt.zfill (Str.ofString (toString ((r.val:Nat):Int))) 3).cps.toList==[48+r.val / 100%10,48+r.val / 10%10,48+r.val%10])=true:=by decide+kernel
 exact eq_of_beq (all ⟨r,h⟩)
theorem xu(n:Nat):(Str.ofString (toString ((n:Nat):Int))).cps.toList=Rb50.figures n:=by
 rw[Str.ofString_eq_toList]
 rfl
theorem iY(a b:Str):(a++b).cps.toList=a.cps.toList++b.cps.toList:=by
 show(a.cps++b.cps).toList=_
 rw[Array.toList_append]
theorem kH(a:Str):a.length=a.cps.toList.length:=by
 show a.cps.size=_
 rw[Array.length_toList]
theorem ty_str{H:Hp}{y:Str}:bW K "str" (.str y) H:=rfl
theorem text_len{z:Int}(hz:z.natAbs<2^1000):(Rb50.figures (z.natAbs / 1000)).length≤1001:=by
 have h1:((z.natAbs / 1000:Nat):Int).natAbs.log2<1000:=by
  rw[Int.natAbs_natCast]
  by_cases h:z.natAbs / 1000=0
  ·rw[h];decide
  ·exact(Nat.log2_lt h).mpr (Nat.lt_of_le_of_lt (Nat.div_le_self _ _) hz)
 have h2:=int_text_length_le (a:=((z.natAbs / 1000:Nat):Int)) (k:=1000) (by decide) h1
 rw[←xu,←kH,PySem.ofString_length]
 lia
abbrev kO:Stmt:=bJ 6
def m6:Sp:=fun vs H Q _=>∃(z:Int),vs=[.int z]∧z.natAbs<2^1000∧∀t:Str,t.cps.toList=Rb50.text z→t.length≤10000→Q (.str t) H
theorem ni:bz ["value","sign","whole","rest"] ["value"] (aR kO):=⟨rfl,rfl,rfl,by decide+kernel,rfl,by decide+kernel,by decide+kernel⟩
theorem wL{f:Addr}{fd:FuncData}(F:eX K "metres_text" "metres_text" kO f fd)(T:Txt K mg aU aD aS)(D:Gg mg):cA P w K mg base eS 1 f fd ["value"] m6:=by
 refine F.ok ni (fun vs H Q E h=>?_) (fun cdv A outer s H vs Q E hr h=>?_)
 ·obtain⟨z,rfl,_⟩:=h
  rfl
 ·obtain⟨z,rfl,hz,q⟩:=h
  have nd:=ni.nd
  refine⟨_,(ai (bB (i:=1) nd rfl (Or.inl rfl) (fO (bZ lM (pv 0) az (cK _)) CI CI))
   (ai (bB (i:=2) nd rfl (Or.inl rfl) (yH rY (by rfl) D.BZ IV (aa (bu gc (cE jh (by rfl) T.oG oE (aa (pv 0) af)) az) af)))
   (ai (bB (i:=3) nd rfl (Or.inl rfl) (nQ PySem.F.plainAttrs_str PySem.F.slot_str_zfill PySem.F.type_str_zfill HY (yH rY (by rfl) D.BZ IV (aa (bu gS (cE jh (by rfl) T.oG oE (aa (pv 0) af)) az) af)) (aa az af)))
   (aB (bA (Fc (PJ.cons (CJ (pv 1)) (PJ.cons (CJ (pv 2)) (PJ.cons CI (PJ.cons (CJ (pv 3)) PJ.nil))))))))))
   ,?_⟩
  try dsimp[aN,aL,bO,bQ,aG,rI,bR,rU,ao,L2.start,aK,bV,bT,aP,aV,au,bS,aO,tC,ay,aM,bU,ak,aI,aQ,aW,aq,aJ,cD,tJ]
  try simp[aN,aL,bO,bQ,aG,rI,bR,rU,ao,L2.start,aK,bV,bT,aP,aV,au,bS,aO,tC,ay,aM,bU,ak,aI,aQ,aW,aq,aJ,cD,tJ]
  have ea:(if z<0 then -z else z)=((z.natAbs:Nat):Int):=by split<;>omega
  rw[ea]
  have e1:((z.natAbs:Nat):Int) / 1000=((z.natAbs / 1000:Nat):Int):=by rw[Int.natCast_ediv];rfl
  have e2:((z.natAbs:Nat):Int)%1000=((z.natAbs%1000:Nat):Int):=by rw[Int.natCast_emod];rfl
  rw[e1,e2]
  have hr:z.natAbs%1000<1000:=Nat.mod_lt _ (by decide)
  have l1:((z.natAbs / 1000:Nat):Int).natAbs.log2<1920:=by
   rw[Int.natAbs_natCast]
   by_cases h:z.natAbs / 1000=0
   ·rw[h];decide
   ·exact(Nat.log2_lt h).mpr (Nat.lt_of_le_of_lt (Nat.div_le_self _ _) (dO hz (by decide)))
  have l2:((z.natAbs%1000:Nat):Int).natAbs.log2<1920:=by
   rw[Int.natAbs_natCast]
   by_cases h:z.natAbs%1000=0
   ·rw[h];decide
   ·exact(Nat.log2_lt h).mpr (Nat.lt_trans hr (Nat.lt_of_lt_of_le (m:=2^10) (by decide) (Nat.pow_le_pow_right (by decide) (by decide))))
  have hc:EF ((z.natAbs:Nat):Int) 1000:=⟨by decide,by decide+kernel⟩
  have fl:=text_len hz
  have fin:∀(sg:Str) (c:Nat),sg.cps.toList=[c]→c=(if z<0 then 45 else 43)→EF ((z.natAbs:Nat):Int) 1000∧((z.natAbs / 1000:Nat):Int).natAbs.log2<1920∧((z.natAbs%1000:Nat):Int).natAbs.log2<1920∧
    bW K "str" (V.str (Str.ofString ((z.natAbs%1000:Nat):Int).repr)) H∧Ho (V.str (Str.ofString ((z.natAbs%1000:Nat):Int).repr)) [V.int 3] H fun x H1=>JF (V.str sg) H1 fun x_1 H1=>∃y,x_1=V.str y∧(Str.empty++y).length≤sizeLine∧
     JF (V.str (Str.ofString ((z.natAbs / 1000:Nat):Int).repr)) H1 fun x_2 H1=>∃y_1,x_2=V.str y_1∧(Str.empty++y++y_1).length≤sizeLine∧(Str.empty++y++y_1++Str.ofString ".").length≤sizeLine∧
      JF x H1 fun x H1=>∃y_2,x=V.str y_2∧(Str.empty++y++y_1++Str.ofString "."++y_2).length≤sizeLine∧Q (V.str (Str.empty++y++y_1++Str.ofString "."++y_2)) H1:=by
   intro sg c hs hcc
   have z3:=Lh hr
   have f1:=xu (z.natAbs / 1000)
   have d1:(Str.ofString ".").cps.toList=[46]:=by decide+kernel
   have m0:Str.empty.cps.toList=[]:=rfl
   have hsl:sizeLine=16777216:=sizeLine_eq
   refine⟨hc,l1,l2,ty_str,_,3,rfl,rfl,by decide,?_⟩
   refine⟨sg,rfl,by rw[kH,hs,hsl];simp,_,rfl,by rw[kH,iY,hs,m0,hsl];simp,?_⟩
   refine⟨_,rfl,int_text_fits l1,_,rfl,?_,?_,?_⟩
   ·rw[kH,iY,iY,hs,m0]
    show([]++[c]++(Str.ofString (toString ((z.natAbs / 1000:Nat):Int))).cps.toList).length≤_
    rw[f1,hsl]
    simp
    omega
   ·rw[kH,iY,iY,iY,hs,m0,d1]
    show([]++[c]++(Str.ofString (toString ((z.natAbs / 1000:Nat):Int))).cps.toList++[46]).length≤_
    rw[f1,hsl]
    simp
    omega
   ·have et:(Str.empty++sg++Str.ofString ((z.natAbs / 1000:Nat):Int).repr++Str.ofString "."++Txt.zfill (Str.ofString ((z.natAbs%1000:Nat):Int).repr) 3).cps.toList=Rb50.text z:=by
     rw[iY,iY,iY,iY,hs,m0,d1]
     show[]++[c]++(Str.ofString (toString ((z.natAbs / 1000:Nat):Int))).cps.toList++[46]++(Txt.zfill (Str.ofString (toString ((z.natAbs%1000:Nat):Int))) 3).cps.toList=_
     rw[f1,z3]
     unfold Rb50.text
     rw[←hcc]
     simp
     omega
    have el:(Rb50.text z).length≤2000:=by
     unfold Rb50.text
     simp
     omega
    refine⟨_,rfl,?_,_,rfl,?_,q _ et ?_⟩
    ·rw[kH]
     show(Txt.zfill (Str.ofString (toString ((z.natAbs%1000:Nat):Int))) 3).cps.toList.length≤_
     rw[z3,hsl]
     simp
    ·rw[kH,et,hsl];omega
    ·rw[kH,et];omega
  by_cases c:z<0
  ·rw[if_pos c]
   exact fin (Str.ofString "-") 45 (by decide+kernel) (by rw[if_pos c])
  ·rw[if_neg c]
   exact fin (Str.ofString "+") 43 (by decide+kernel) (by rw[if_neg c])
end
end TB
end
noncomputable section
namespace TB
open PySem PySem.Spec PyProof.Rows L2 TM
end TB
end
noncomputable section
namespace TB
open PySem PySem.Spec PyProof.Rows L2 TM
section
variable{P:Program}{w:World}{K:PySem.W.Frag}{mg:Str→Option Value}{base:Heap}{G:Gs}
def lF(a s i n l w:V):List (Str×V):=[("area",a),("sluice",s),("sill",i),("inner",n),("level",l),("way",w)]
structure dU(K:PySem.W.Frag)(G:Gs)(H:Hp)(a:Addr)(l:Rb50.Lock):Prop where
 ex:∃dx av sv iv nv lv n,H a=some (.ins G.CL dx (lF av sv iv nv lv (.int l.open_)))∧bI K H av (gX Rb50.SINGLE l.area)∧bI K H sv (gX Rb50.SINGLE l.sluice)∧bI K H iv (gX Rb50.SINGLE l.sill)∧bI K H nv (gX Rb50.SINGLE l.inner)∧bI K H lv n∧xT n l.level
theorem dU.keep{S:Addr→Prop}{H H':Hp}{a:Addr}{l:Rb50.Lock}(h:dU K G H a l)(k:cz S H H')(m:Mod G S H)(n1:¬S a):dU K G H' a l:=by
 obtain⟨dx,av,sv,iv,nv,lv,n,h1,h2,h3,h4,h5,h6,h7⟩:=h.ex
 exact⟨dx,av,sv,iv,nv,lv,n,k _ _ n1 h1,k.num m h2,k.num m h3,k.num m h4,k.num m h5,k.num m h6,h7⟩
theorem dU.same{H H':Hp}{a:Addr}{l:Rb50.Lock}(h:dU K G H a l)(e:aH H H'):dU K G H' a l:=h.keep (S:=fun _=>False) (aH.keep e) wQ (fun z=>z)
theorem dU.mod{H:Hp}{a:Addr}{l:Rb50.Lock}(T:Tx K mg G)(h:dU K G H a l):Mod G (fun b=>b=a) H:=by
 obtain⟨dx,av,sv,iv,nv,lv,n,h1,_⟩:=h.ex
 rintro b rfl
 exact .inl ⟨_,_,_,h1,T.Ms,T.Mt⟩
theorem n9{n:Num}{x:Rb50.F}(h:xT n x):NB n:=.cY h.o (by decide)
def zv(G:Gs):Sp:=fun vs H Q _=>∃(a dx:Addr) (av sv iv nv:V),vs=[.ref a,av,sv,iv,nv]∧H a=some (.ins G.CL dx [])∧Q .gh (upd H a (.ins G.CL dx (lF av sv iv nv nv (.int 0))))
abbrev jo:Stmt:=inClass (bJ 71) 0
theorem lE:bz ["self","area","sluice","sill","inner"] ["self","area","sluice","sill","inner"] (aR jo):=⟨rfl,rfl,rfl,by decide+kernel,rfl,by decide+kernel,by decide+kernel⟩
theorem tD{f:Addr}{fd:FuncData}(F:eX K "__init__" "Lock.__init__" jo f fd)(T:Tx K mg G):
  cA P w K mg base eS 1 f fd ["self","area","sluice","sill","inner"] (zv G):=by
 refine F.ok lE (fun vs H Q E h=>?_) (fun cdv A outer s H vs Q E hr h=>?_)
 ·obtain⟨a,dx,av,sv,iv,nv,rfl,_⟩:=h
  rfl
 ·have nd:=lE.nd
  obtain⟨a,dx,av,sv,iv,nv,rfl,h1,q⟩:=h
  refine⟨_,(ai (cy (pv 0) (pv 1) rfl)
   (ai (cy (pv 0) (pv 2) rfl)
   (ai (cy (pv 0) (pv 3) rfl)
   (ai (cy (pv 0) (pv 4) rfl)
   (ai (cy (pv 0) (pv 4) rfl)
   (aB (cy (pv 0) (bw rfl T.tE) rfl))))))),?_⟩
  sleep 1
  refine cU h1 T.cL T.Io ?l rfl ?_
  case l=>exact Nat.le_of_ble_eq_true rfl
  sleep 1
  refine cU aF T.cL T.Ah ?l rfl ?_
  case l=>exact Nat.le_of_ble_eq_true rfl
  sleep 1
  rw[eF]
  refine cU aF T.cL T.Im ?l rfl ?_
  case l=>exact Nat.le_of_ble_eq_true rfl
  sleep 1
  rw[eF]
  refine cU aF T.cL T.tG ?l rfl ?_
  case l=>exact Nat.le_of_ble_eq_true rfl
  sleep 1
  rw[eF]
  refine cU aF T.cL T.gz ?l rfl ?_
  case l=>exact Nat.le_of_ble_eq_true rfl
  sleep 1
  rw[eF]
  refine cU aF T.cL T.Ag ?l rfl ?_
  case l=>exact Nat.le_of_ble_eq_true rfl
  sleep 1
  rw[eF]
  exact q
theorem not_or{b:Bool}{Q:VK}{H:Hp}(h:Q (.bl (!b)) H):V.bl b=V.bl false∧Q (.bl true) H∨V.bl b=V.bl true∧Q (.bl false) H:=by
 cases b
 ·exact .inl ⟨rfl,h⟩
 ·exact .inr ⟨rfl,h⟩
def vp(K:PySem.W.Frag)(G:Gs):Sp:=fun vs H Q _=>∃(a:Addr) (l:Rb50.Lock) (v:V) (n:Num),vs=[.ref a,v]∧dU K G H a l∧eW l∧bI K H v n∧NB n∧∀(H':Hp) (v':V),aH H H'→bI K H' v' (fD Rb50.SINGLE n (gX Rb50.SINGLE l.sill))→Q v' H'
abbrev zD:Stmt:=bJ 72
theorem Bb:bz ["lock","level"] ["lock","level"] (aR zD):=⟨rfl,rfl,rfl,by decide+kernel,rfl,by decide+kernel,by decide+kernel⟩
theorem HP{f:Addr}{fd:FuncData}(F:eX K "depth" "depth" zD f fd)(T:Tx K mg G)(h_subtract:di P w K mg base "subtract" 4 ["kind","x","y"] (eY K fD)):
  cA P w K mg base eS 5 f fd ["lock","level"] (vp K G):=by
 refine F.ok Bb (fun vs H Q E h=>?_) (fun cdv A outer s H vs Q E hr h=>?_)
 ·obtain⟨a,l,v,n,rfl,_⟩:=h
  rfl
 ·have nd:=Bb.nd
  obtain⟨a,l,v,n,rfl,hl,fit,hv,nb,q⟩:=h
  obtain⟨dx,av,sv,iv,nv,lv,ln,h1,h2,h3,h4,h5,h6,h7⟩:=hl.ex
  refine⟨_,(aB (bA (aj h_subtract (hr.mono (by decide)) rfl (aa (cG rfl T.cu) (aa (pv 1) (aa (bD (pv 0) rfl) af)))))),?_⟩
  sleep 1
  refine bN h1 T.cL T.Im rfl ?_
  exact⟨_,Rb50.SINGLE,23,31,v,iv,_,_,rfl,T.toTxt.single _,cF,hv,h4,nb,.cY fit.sill.2 (by decide),q⟩
def zo(K:PySem.W.Frag)(G:Gs):Sp:=fun vs H Q _=>∃(a:Addr) (l:Rb50.Lock) (v dv:V) (n d:Num) (x xd:Rb50.F),vs=[.ref a,v,dv]∧dU K G H a l∧eW l∧bI K H v n∧xT n x∧bI K H dv d∧Rep Rb50.SINGLE d xd∧Ok Rb50.SINGLE d 10∧∀(H':Hp),aH H H'→Q (.bl (Rb50.deep x l.sill xd)) H'
abbrev iG:Stmt:=bJ 73
theorem kj:bz ["lock","level","draught"] ["lock","level","draught"] (aR iG):=⟨rfl,rfl,rfl,by decide+kernel,rfl,by decide+kernel,by decide+kernel⟩
theorem rK{f:Addr}{fd:FuncData}(F:eX K "is_deep_enough" "is_deep_enough" iG f fd)(T:Tx K mg G)(h_is_below:di P w K mg base "is_below" 2 ["x","y"] (fE K))(h_depth:di P w K mg base "depth" 5 ["lock","level"] (vp K G))(h_add:di P w K mg base "add" 3 ["kind","x","y"] (eY K bL)):
  cA P w K mg base eS 6 f fd ["lock","level","draught"] (zo K G):=by
 refine F.ok kj (fun vs H Q E h=>?_) (fun cdv A outer s H vs Q E hr h=>?_)
 ·obtain⟨a,l,v,dv,n,d,x,xd,rfl,_⟩:=h
  rfl
 ·have nd:=kj.nd
  obtain⟨a,l,v,dv,n,d,x,xd,rfl,hl,fit,hv,lev,hd,rd,od,q⟩:=h
  refine⟨_,(aB (bA (zP (aj h_is_below (hr.mono (by decide)) rfl (aa (aj h_depth (hr.mono (by decide)) rfl (aa (pv 0) (aa (pv 1) af))) (aa (aj h_add (hr.mono (by decide)) rfl (aa (cG rfl T.cu) (aa (pv 2) (aa (cG rfl T.zG) af)))) af)))))),?_⟩
  sleep 1
  have ls:xT (gX Rb50.SINGLE l.sill) l.sill:=⟨fit.sill.1,fit.sill.2⟩
  obtain⟨d1,d2⟩:=jc lev.r ls.r lev.o ls.o (by decide)
  obtain⟨e1,e2⟩:=jb rd rR.1 od (rR.2.mono (by decide)) (by decide)
  refine⟨a,l,v,n,rfl,hl,fit,hv,(n9 lev),fun H1 v1 s1 k1=>?_⟩
  refine⟨_,Rb50.SINGLE,23,31,dv,.ref G.aHF,d,Bs,rfl,T.toTxt.single _,cF,hd.same s1,⟨_,rfl,T.zl.at _⟩,.cY od (by decide),.cY rR.2 (by decide),fun H2 v2 s2 k2=>?_⟩
  refine⟨v1,v2,_,_,rfl,k1.same s2,k2,.cY d2 (by decide),.cY e2 (by decide),?_⟩
  have:=q H2 (s1.trans s2)
  rw[←Kq lev ls rd od]at this
  exact not_or this
def qh(K:PySem.W.Frag):Sp:=fun vs H Q _=>∃(v u:V) (n m:Num) (x y:Rb50.F),vs=[v,u]∧bI K H v n∧xT n x∧bI K H u m∧xT m y∧∀(H':Hp),aH H H'→Q (.bl (!Rb50.apart x y)) H'
abbrev sO:Stmt:=bJ 74
theorem vE:bz ["level","other"] ["level","other"] (aR sO):=⟨rfl,rfl,rfl,by decide+kernel,rfl,by decide+kernel,by decide+kernel⟩
theorem CQ{f:Addr}{fd:FuncData}(F:eX K "is_near" "is_near" sO f fd)(T:Tx K mg G)(h_is_below:di P w K mg base "is_below" 2 ["x","y"] (fE K))(h_without_sign:di P w K mg base "without_sign" 1 ["x"] (qf K))(h_subtract:di P w K mg base "subtract" 4 ["kind","x","y"] (eY K fD)):
  cA P w K mg base eS 5 f fd ["level","other"] (qh K):=by
 refine F.ok vE (fun vs H Q E h=>?_) (fun cdv A outer s H vs Q E hr h=>?_)
 ·obtain⟨v,u,n,m,x,y,rfl,_⟩:=h
  rfl
 ·have nd:=vE.nd
  obtain⟨v,u,n,m,x,y,rfl,hv,lv,hu,lu,q⟩:=h
  refine⟨_,(aB (bA (zP (aj h_is_below (hr.mono (by decide)) rfl (aa (cG rfl T.rA) (aa (aj h_without_sign (hr.mono (by decide)) rfl (aa (aj h_subtract (hr.mono (by decide)) rfl (aa (cG rfl T.cu) (aa (pv 0) (aa (pv 1) af)))) af)) af)))))),?_⟩
  sleep 1
  obtain⟨d1,d2⟩:=jc lv.r lu.r lv.o lu.o (by decide)
  refine⟨_,Rb50.SINGLE,23,31,v,u,_,_,rfl,T.toTxt.single _,cF,hv,hu,(n9 lv),(n9 lu),fun H1 v1 s1 k1=>?_⟩
  refine⟨v1,_,rfl,k1,fun H2 v2 s2 k2=>?_⟩
  refine⟨_,v2,wD,_,rfl,⟨_,rfl,T.qJ.at _⟩,k2,.cY xC.2 (by decide),.cY (mw d2) (by decide),?_⟩
  have:=q H2 (s1.trans s2)
  rw[←IZ lv lu]at this
  exact not_or this
def Ga(o w:Nat)(ap:Bool):Bool:=if w=0 then true else if w=1∨w=2 then !decide (o=3∨o=4)else if(o=3∨o=4)∧o≠w then false else !ap
theorem NY(e a b:Nat):El (.int (e:Int)) [.int (a:Int),.int (b:Int)]=decide (e=a∨e=b):=by
 have h:El (.int (e:Int)) [.int (a:Int),.int (b:Int)]=(((a:Int)==(e:Int))||(((b:Int)==(e:Int))||false)):=rfl
 rw[h]
 by_cases h1:e=a∨e=b
 ·rw[decide_eq_true h1]
  simp only[Bool.or_eq_true,beq_iff_eq]
  lia
 ·rw[decide_eq_false h1]
  simp only[Bool.or_eq_false_iff,beq_eq_false_iff_ne]
  exact⟨by lia,by lia,trivial⟩
def Ck(K:PySem.W.Frag)(G:Gs):Sp:=fun vs H Q _=>∃(a:Addr) (l:Rb50.Lock) (w:Nat) (v:V) (n:Num) (x:Rb50.F),vs=[.ref a,.int w,v]∧dU K G H a l∧bI K H v n∧xT n x∧∀(H':Hp),aH H H'→Q (.bl (Ga l.open_ w (Rb50.apart x l.level))) H'
abbrev mj:Stmt:=bJ 75
theorem pV:bz ["lock","way","water"] ["lock","way","water"] (aR mj):=⟨rfl,rfl,rfl,by decide+kernel,rfl,by decide+kernel,by decide+kernel⟩
theorem xY{f:Addr}{fd:FuncData}(F:eX K "can_be_set" "can_be_set" mj f fd)(T:Tx K mg G)(h_is_near:di P w K mg base "is_near" 5 ["level","other"] (qh K)):
  cA P w K mg base eS 6 f fd ["lock","way","water"] (Ck K G):=by
 refine F.ok pV (fun vs H Q E h=>?_) (fun cdv A outer s H vs Q E hr h=>?_)
 ·obtain⟨a,l,w,v,n,x,rfl,_⟩:=h
  rfl
 ·have nd:=pV.nd
  obtain⟨a,l,w,v,n,x,rfl,hl,hv,lv,q⟩:=h
  obtain⟨dx,av,sv,iv,nv,lv',ln,h1,h2,h3,h4,h5,h6,h7⟩:=hl.ex
  refine⟨_,(ai (cZ (bZ je (pv 1) (bw rfl T.tE) (cK _)) (aB (bA D3)) cg)
   (ai (cZ (bZ iJ (pv 1) (cG rfl T.oU) rfl) (aB (bA (mq zS (bD (pv 0) rfl) (cG rfl T.oW) rfl))) cg)
   (ai (cZ (PW.pt (zI (bZ iJ (bD (pv 0) rfl) (cG rfl T.oW) rfl) (uQ (bZ MH (bD (pv 0) rfl) (pv 1) (cK _))))) (aB (bA D3)) cg)
   (aB (bA (aj h_is_near (hr.mono (by decide)) rfl (aa (pv 2) (aa (bD (pv 0) rfl) af)))))))),?_⟩
  sleep 1
  have q0:=q H (aH.refl _)
  unfold Ga at q0
  by_cases c0:w=0
  ·rw[if_pos c0]
   rw[if_pos c0]at q0
   exact q0
  rw[if_neg c0]
  rw[if_neg c0]at q0
  refine⟨_,_,rfl,.inr (T.oM.at _),rfl,rfl,?_⟩
  have i1:El (.int (w:Int)) [.int 1,.int 2]=decide (w=1∨w=2):=NY w 1 2
  have i2:El (.int (l.open_:Int)) [.int 3,.int 4]=decide (l.open_=3∨l.open_=4):=NY l.open_ 3 4
  simp only[i1]
  by_cases c1:w=1∨w=2
  ·rw[if_pos c1]at q0
   refine .inr ⟨by rw[decide_eq_true c1];rfl,?_⟩
   refine bN h1 T.cL T.Ag rfl ?_
   refine⟨_,_,rfl,.inr (T.oO.at _),rfl,rfl,?_⟩
   rw[i2]
   exact q0
  ·rw[if_neg c1]at q0
   refine .inl ⟨by rw[decide_eq_false c1];rfl,?_⟩
   refine bN h1 T.cL T.Ag rfl ?_
   refine⟨_,_,rfl,.inr (T.oO.at _),rfl,rfl,?_⟩
   rw[i2]
   have near:¬((l.open_=3∨l.open_=4)∧l.open_≠w)→qh K [v,lv'] H Q E0:=by
    intro z
    refine⟨v,lv',n,ln,x,l.level,rfl,hv,lv,h6,h7,fun H' s'=>?_⟩
    have:=q H' s'
    unfold Ga at this
    rw[if_neg c0,if_neg c1,if_neg z]at this
    exact this
   by_cases c2:l.open_=3∨l.open_=4
   ·refine .inr ⟨by rw[decide_eq_true c2];rfl,?_⟩
    refine bN h1 T.cL T.Ag rfl ?_
    refine⟨rfl,?_⟩
    by_cases c3:l.open_=w
    ·refine .inl ⟨by rw[c3],?_⟩
     refine bN h1 T.cL T.gz rfl ?_
     exact near (fun z=>z.2 c3)
    ·refine .inr ⟨fun z=>c3 (by have:=V.int.inj z;lia),?_⟩
     rw[if_pos ⟨c2,c3⟩]at q0
     exact q0
   ·refine .inl ⟨by rw[decide_eq_false c2];rfl,?_⟩
    refine bN h1 T.cL T.gz rfl ?_
    exact near (fun z=>c2 z.1)
def qg(K:PySem.W.Frag)(G:Gs):Sp:=fun vs H Q _=>∃(a:Addr) (l:Rb50.Lock) (w:Nat) (v:V) (n:Num) (x:Rb50.F),vs=[.ref a,.int w,v]∧dU K G H a l∧bI K H v n∧xT n x∧∀(H':Hp),cz (fun b=>b=a) H H'→dU K G H' a {l with open_:=w,level:=if w=3∨w=4 then x else l.level}→Q .gh H'
abbrev sJ:Stmt:=bJ 76
theorem vC:bz ["lock","way","water"] ["lock","way","water"] (aR sJ):=⟨rfl,rfl,rfl,by decide+kernel,rfl,by decide+kernel,by decide+kernel⟩
theorem CN{f:Addr}{fd:FuncData}(F:eX K "set_way" "set_way" sJ f fd)(T:Tx K mg G):
  cA P w K mg base eS 1 f fd ["lock","way","water"] (qg K G):=by
 refine F.ok vC (fun vs H Q E h=>?_) (fun cdv A outer s H vs Q E hr h=>?_)
 ·obtain⟨a,l,w,v,n,x,rfl,_⟩:=h
  rfl
 ·have nd:=vC.nd
  obtain⟨a,l,w,v,n,x,rfl,hl,hv,lv,q⟩:=h
  have md:=hl.mod T
  obtain⟨dx,av,sv,iv,nv,lv',ln,h1,h2,h3,h4,h5,h6,h7⟩:=hl.ex
  refine⟨_,(ai (cy (pv 0) (pv 1) rfl)
   (aB (cZ (bZ iJ (pv 1) (cG rfl T.oW) rfl) (aB (cy (pv 0) (pv 2) rfl)) cg))),?_⟩
  sleep 1
  refine cU h1 T.cL T.Ag ?l rfl ?_
  case l=>exact Nat.le_of_ble_eq_true rfl
  have i2:El (.int (w:Int)) [.int 3,.int 4]=decide (w=3∨w=4):=NY w 3 4
  sleep 1
  refine⟨_,_,rfl,.inr (T.oO.at _),rfl,rfl,?_⟩
  rw[i2]
  have k1:cz (fun b=>b=a) H (upd H a (.ins G.CL dx (lF av sv iv nv lv' (.int w)))):=cz.upd rfl
  by_cases c:w=3∨w=4
  ·refine .inr ⟨by rw[decide_eq_true c];rfl,?_⟩
   refine cU aF T.cL T.gz ?l rfl ?_
   case l=>exact Nat.le_of_ble_eq_true rfl
   rw[eF]
   have k2:cz (fun b=>b=a) H (upd H a (.ins G.CL dx (lF av sv iv nv v (.int w)))):=cz.upd rfl
   refine q _ k2 ⟨dx,av,sv,iv,nv,v,n,aF,k2.num md h2,k2.num md h3,k2.num md h4,k2.num md h5,k2.num md hv,?_⟩
   show xT n (if w=3∨w=4 then x else l.level)
   rw[if_pos c]
   exact lv
  ·refine .inl ⟨by rw[decide_eq_false c];rfl,?_⟩
   refine q _ k1 ⟨dx,av,sv,iv,nv,lv',ln,aF,k1.num md h2,k1.num md h3,k1.num md h4,k1.num md h5,k1.num md h6,?_⟩
   show xT ln (if w=3∨w=4 then x else l.level)
   rw[if_neg c]
   exact h7
def uK(K:PySem.W.Frag)(G:Gs):Sp:=fun vs H Q _=>∃(a:Addr) (l:Rb50.Lock) (v:V) (n:Num) (x:Rb50.F),vs=[.ref a,v]∧dU K G H a l∧eW l∧bI K H v n∧xT n x∧∀(H':Hp),cz (fun b=>b=a) H H'→dU K G H' a {l with level:=Rb50.toward x l.level l.sluice l.area}→Q .gh H'
abbrev CB:Stmt:=bJ 77
theorem DO:bz ["lock","water","rise","least","step"] ["lock","water"] (aR CB):=⟨rfl,rfl,rfl,by decide+kernel,rfl,by decide+kernel,by decide+kernel⟩
theorem J6{f:Addr}{fd:FuncData}(F:eX K "flow" "flow" CB f fd)(T:Tx K mg G)(h_subtract:di P w K mg base "subtract" 4 ["kind","x","y"] (eY K fD))(h_without_sign:di P w K mg base "without_sign" 1 ["x"] (qf K))(h_divide:di P w K mg base "divide" 3 ["kind","x","y"] (lg K))(h_multiply:di P w K mg base "multiply" 3 ["kind","x","y"] (eY K bC))(h_is_below:di P w K mg base "is_below" 2 ["x","y"] (fE K))(h_root:di P w K mg base "root" 3 ["kind","x"] (Dy K))(h_add:di P w K mg base "add" 3 ["kind","x","y"] (eY K bL))(h_opposite:di P w K mg base "opposite" 1 ["x"] (i7 K)):
  cA P w K mg base eS 5 f fd ["lock","water"] (uK K G):=by
 refine F.ok DO (fun vs H Q E h=>?_) (fun cdv A outer s H vs Q E hr h=>?_)
 ·obtain⟨a,l,v,n,x,rfl,_⟩:=h
  rfl
 ·have nd:=DO.nd
  obtain⟨a,l,v,n,x,rfl,hl,fit,hv,lv,q⟩:=h
  have md:=hl.mod T
  obtain⟨dx,av,sv,iv,nv,lv',ln,h1,h2,h3,h4,h5,h6,h7⟩:=hl.ex
  refine⟨_,(ai (bB (i:=2) nd rfl (Or.inl rfl) (aj h_subtract (hr.mono (by decide)) rfl (aa (cG rfl T.cu) (aa (pv 1) (aa (bD (pv 0) rfl) af)))))
   (ai (bB (i:=3) nd rfl (Or.inl rfl) (aj h_without_sign (hr.mono (by decide)) rfl (aa (pv 2) af)))
   (ai (bB (i:=4) nd rfl (Or.inl rfl) (aj h_divide (hr.mono (by decide)) rfl (aa (cG rfl T.cu) (aa (aj h_multiply (hr.mono (by decide)) rfl (aa (cG rfl T.cu) (aa (bD (pv 0) rfl) (aa (aj h_root (hr.mono (by decide)) rfl (aa (cG rfl T.cu) (aa (pv 3) af))) af)))) (aa (bD (pv 0) rfl) af)))))
   (aB (cZ (eT (dD (aj h_is_below (hr.mono (by decide)) rfl (aa (pv 4) (aa (pv 3) af))))) (aB (cy (pv 0) (pv 1) rfl)) (aB (cZ (dD (bq bF (pv 2) (bw rfl T.gy) (fun _ _=>rfl))) (aB (cy (pv 0) (aj h_add (hr.mono (by decide)) rfl (aa (cG rfl T.cu) (aa (bD (pv 0) rfl) (aa (aj h_opposite (hr.mono (by decide)) rfl (aa (pv 4) af)) af)))) rfl)) (aB (cy (pv 0) (aj h_add (hr.mono (by decide)) rfl (aa (cG rfl T.cu) (aa (bD (pv 0) rfl) (aa (pv 4) af)))) rfl))))))))),?_⟩
  sleep 1
  obtain⟨a1,a2,a3,a4,a5⟩:=fit.area
  obtain⟨s1,s2,s3⟩:=fit.sluice
  obtain⟨d1,d2⟩:=jc lv.r h7.r lv.o h7.o (by decide)
  obtain⟨r1,r2⟩:=Bp (d:=56) (size_rep d1) (mw d2) rfl (by decide) (by decide) (by decide)
  obtain⟨m1,m2⟩:=sS s1 r1 s2 r2 (by decide) (by decide)
  obtain⟨t1,t2⟩:=G8 (d:=109) m1 a1 m2 a3 (by lia) (by decide) (by decide)
  have stp:=GL fit lv h7
  unfold K2 at stp
  rw[CD]at stp
  refine bN h1 T.cL T.gz rfl ?_
  refine⟨_,Rb50.SINGLE,23,31,v,lv',n,ln,rfl,T.toTxt.single _,cF,hv,h6,n9 lv,n9 h7,fun H1 v1 e1 k1=>?_⟩
  refine⟨v1,_,rfl,k1,fun H2 v2 e2 k2=>?_⟩
  have e12:=e1.trans e2
  refine bN (e12 _ _ h1) T.cL T.Ah rfl ?_
  refine⟨_,Rb50.SINGLE,23,31,v2,_,rfl,T.toTxt.single _,cF,k2,.cY (mw d2) (by decide),fun H3 v3 e3 k3=>?_⟩
  have e13:=e12.trans e3
  refine⟨_,Rb50.SINGLE,23,31,sv,v3,_,_,rfl,T.toTxt.single _,cF,h3.same e13,k3,.cY s2 (by decide),.cY r2 (by decide),fun H4 v4 e4 k4=>?_⟩
  have e14:=e13.trans e4
  refine bN (e14 _ _ h1) T.cL T.Io rfl ?_
  refine⟨_,Rb50.SINGLE,23,31,v4,av,_,_,rfl,T.toTxt.single _,cF,k4,h2.same e14,.cY m2 (by decide),.cY a2 (by decide),a3,fun H5 v5 e5 k5=>?_⟩
  have e15:=e14.trans e5
  have k2':=(((k2.same e3).same e4).same e5)
  refine⟨v5,v2,_,_,rfl,k5,k2',.cY t2 (by decide),.cY (mw d2) (by decide),?_⟩
  generalize hst:nR Rb50.SINGLE (bC Rb50.SINGLE (gX Rb50.SINGLE l.sluice) (lI Rb50.SINGLE (kQ (fD Rb50.SINGLE n ln)))) (gX Rb50.SINGLE l.area)=st at*
  have hpf:fZ (gX Rb50.SINGLE l.sluice) (gX Rb50.SINGLE l.area) (lI Rb50.SINGLE (kQ (fD Rb50.SINGLE n ln)))=st:=hst
  rw[hpf]at stp
  have fin:∀(H6:Hp) (v6:V) (m:Num),aH H H6→bI K H6 v6 m→xT m (Rb50.toward x l.level l.sluice l.area)→Q .gh (upd H6 a (.ins G.CL dx (lF av sv iv nv v6 (.int l.open_)))):=by
   intro H6 v6 m e6 k6 l6
   have kk:cz (fun b=>b=a) H (upd H6 a (.ins G.CL dx (lF av sv iv nv v6 (.int l.open_)))):=(aH.keep e6).trans (cz.upd rfl)
   have kk6:cz (fun b=>b=a) H6 (upd H6 a (.ins G.CL dx (lF av sv iv nv v6 (.int l.open_)))):=cz.upd rfl
   have md6:Mod G (fun b=>b=a) H6:=by
    rintro b rfl
    exact .inl ⟨_,_,_,e6 _ _ h1,T.Ms,T.Mt⟩
   exact q _ kk ⟨dx,av,sv,iv,nv,v6,m,aF,kk.num md h2,kk.num md h3,kk.num md h4,kk.num md h5,kk6.num md6 k6,l6⟩
  by_cases c:dH st (kQ (fD Rb50.SINGLE n ln))=true
  ·rw[if_pos c]at stp
   refine .inr ⟨c.symm,?_⟩
   obtain⟨p1,rfl,q1⟩:=k1
   have e25:=(e2.trans (e3.trans (e4.trans e5)))
   refine bP (aH.tup e25 q1) rfl ?_
   have k5':=k5
   cases hs:(fD Rb50.SINGLE n ln).s with
   |false=>
    rw[hs]at stp
    refine .inl ⟨rfl,?_⟩
    refine bN (e15 _ _ h1) T.cL T.gz rfl ?_
    refine⟨_,Rb50.SINGLE,23,31,lv',v5,ln,st,rfl,T.toTxt.single _,cF,h6.same e15,k5,n9 h7,.cY t2 (by decide),fun H6 v6 e6 k6=>?_⟩
    have e16:=e15.trans e6
    refine cU (e16 _ _ h1) T.cL T.gz ?l rfl ?_
    case l=>exact Nat.le_of_ble_eq_true rfl
    exact fin H6 v6 _ e16 k6 stp
   |true=>
    rw[hs]at stp
    refine .inr ⟨rfl,?_⟩
    refine bN (e15 _ _ h1) T.cL T.gz rfl ?_
    refine⟨v5,st,rfl,k5,fun H6 v6 e6 k6=>?_⟩
    have e16:=e15.trans e6
    have op2:Ok Rb50.SINGLE (fB st) 109:=iI t2
    refine⟨_,Rb50.SINGLE,23,31,lv',v6,ln,fB st,rfl,T.toTxt.single _,cF,h6.same e16,k6,n9 h7,.cY op2 (by decide),fun H7 v7 e7 k7=>?_⟩
    have e17:=e16.trans e7
    refine cU (e17 _ _ h1) T.cL T.gz ?l rfl ?_
    case l=>exact Nat.le_of_ble_eq_true rfl
    exact fin H7 v7 _ e17 k7 stp
  ·rw[if_neg c]at stp
   refine .inl ⟨by cases hb:dH st (kQ (fD Rb50.SINGLE n ln))with|false=>rfl|true=>exact absurd hb c,?_⟩
   refine cU (e15 _ _ h1) T.cL T.gz ?l rfl ?_
   case l=>exact Nat.le_of_ble_eq_true rfl
   exact fin H5 v n e15 (hv.same e15) stp
end
end TB
end
noncomputable section
namespace TB
open PySem PySem.Spec PyProof.Rows L2 TM
section
variable{P:Program}{w:World}{K:PySem.W.Frag}{mg:Str→Option Value}{base:Heap}{G:Gs}
section
variable{X:Cx}
theorem zQ{K:PySem.W.Frag}{e:Expr}{f:Str}{pos:Pos}{ta:TE}(he:PE X e ta)(hb:attributeBase e f X.env (eval e X.env)=eval e X.env)(hK:X.K=K):PE X (.Attribute e f pos) (bQ (vZ K f) ta):=hK▸bD he hb
theorem Ei{K:PySem.W.Frag}(hK:X.K=K):Nb X (JE K):=hK▸bF
theorem Iq{K:PySem.W.Frag}(hK:X.K=K):Nb X (LH K):=hK▸bE
end
theorem aH.lst{K:PySem.W.Frag}{H H':Hp}{a:Addr}{xs:List V}(e:aH H H')(h:dY K H a xs):dY K H' a xs:=by
 rcases h with(h|⟨o,h⟩)|h
 ·exact .inl (.inl (e _ _ h))
 ·exact .inl (.inr ⟨o,e _ _ h⟩)
 ·exact .inr h
theorem qE(σ:L2.St)(vi:Nat)(x:V):(wipe σ [vi]).set vi (some x)=σ.set vi (some x):=by
 show((σ.set vi none).set vi (some x))=_
 rw[List.set_set]
theorem oJ(σ:L2.St)(vi:Nat)(x:V):wipe (σ.set vi (some x)) [vi]=wipe σ [vi]:=by
 show((σ.set vi (some x)).set vi none)=σ.set vi none
 rw[List.set_set]
structure Mw(H1:Hp)(D:Addr)(R:Nat→V→Hp→Prop)(i:Nat)(H:Hp):Prop where
 ex:∃ys,H D=some (.lst ys)∧ys.length=i∧aH H1 H∧∀j y,ys[j]?=some y→R j y H
section
variable{H1:Hp}{D:Addr}{R:Nat→V→Hp→Prop}
theorem wR(hD:H1 D=none):Mw H1 D R 0 (upd H1 D (.lst [])):=⟨[],aF,rfl,aH.upd hD,fun j y e=>by simp at e⟩
theorem wU(hD:H1 D=none)(mono:∀i y H H',(∃zs,H D=some (.lst zs))→cz (fun b=>b=D) H H'→R i y H→R i y H'){i:Nat}{H H4:Hp}{y:V}(h:Mw H1 D R i H)(s:aH H H4)(r:R i y H4)(hz:i<sizeLine):
  ∃acc,H4 D=some (.lst acc)∧acc.length<sizeLine∧Mw H1 D R (i+1) (upd H4 D (.lst (acc++[y]))):=by
 obtain⟨ys,h1,h2,h3,h4⟩:=h.ex
 have h5:=s _ _ h1
 refine⟨ys,h5,by lia,⟨ys++[y],aF,by rw[List.length_append,h2];rfl,aH.put (h3.trans s) hD,?_⟩⟩
 intro j z e
 by_cases c:j<ys.length
 ·rw[List.getElem?_append_left c]at e
  exact mono _ _ _ _ ⟨_,h1⟩ ((aH.keep s).trans (cz.upd rfl)) (h4 j z e)
 ·have hj:j=ys.length:=by
   have:=(List.getElem?_eq_some_iff.mp e).1
   rw[List.length_append]at this
   simp at this
   lia
  subst hj
  rw[List.getElem?_append_right (Nat.le_refl _),Nat.sub_self]at e
  simp at e
  subst e
  rw[h2]
  exact mono _ _ _ _ ⟨_,h5⟩ (cz.upd rfl) r
end
theorem rP{K:PySem.W.Frag}{a:Addr}{xs:List V}{te:TE}{vi:Nat}{σ:L2.St}{H1:Hp}{Qd:Hp→Prop}{D:Addr}(hD:H1 D=none)(hl:dY K H1 a xs)(hz:xs.length<sizeLine)(R:Nat→V→Hp→Prop)
  (mono:∀i y H H',(∃zs,H D=some (.lst zs))→cz (fun b=>b=D) H H'→R i y H→R i y H')
  (hs:∀i x H' (Q':VK),xs[i]?=some x→aH H1 H'→(∀y H4,aH H' H4→R i y H4→Q' y H4)→te (σ.set vi (some x)) H' Q')
  (hd:∀ys H,H D=some (.lst ys)→ys.length=xs.length→aH H1 H→(∀j y,ys[j]?=some y→R j y H)→Qd H):
  ∃W:Nat→Nat→Hp→Prop,(∃m,W 0 m (upd H1 D (.lst [])))∧∀i m H,W i m H→
   ((EE K a).stop i H∧Qd H)∨((EE K a).go i H∧∃Nx:Hp→Prop,(∀H',Nx H'→∃m',m'<m∧W (i+1) m' H')∧∀x H',(EE K a).Az i H x H'→ao vi x (wipe σ [vi]) H' fun σ2 H2=>wipe σ2 [vi]=wipe σ [vi]∧AR σ2 H2 fun b H3=>
    if b=true then te σ2 H3 fun y H4=>∃acc,H4 D=some (.lst acc)∧acc.length<sizeLine∧Nx (upd H4 D (.lst (acc++[y])))else Nx H3):=by
 refine Ef (Qd:=Qd) (xs:=xs) (Mw H1 D R) (wR hD) (fun i H _ h=>by obtain⟨_,_,_,s,_⟩:=h.ex;exact aH.lst s hl) ?_ ?_
 ·intro i x H hx h
  obtain⟨ys,h1,h2,h3,h4⟩:=h.ex
  have hi:i<xs.length:=(List.getElem?_eq_some_iff.mp hx).1
  show wipe ((wipe σ [vi]).set vi (some x)) [vi]=wipe σ [vi]∧_
  rw[qE,oJ]
  refine⟨rfl,?_⟩
  show te (σ.set vi (some x)) H _
  exact hs i x H _ hx h3 fun y H4 s4 r4=>wU hD mono h s4 r4 (by lia)
 ·intro H h
  obtain⟨ys,h1,h2,h3,h4⟩:=h.ex
  exact hd ys H h1 h2 h3 h4
theorem Kf{K:PySem.W.Frag}{a:Addr}{xs:List V}{te:TE}{vi:Nat}{σ:L2.St}{H1:Hp}{Qd:Hp→Prop}{D:Addr}(hD:H1 D=none)(hl:jF K H1 a xs)(hz:xs.length<sizeLine)(R:Nat→V→Hp→Prop)
  (mono:∀i y H H',(∃zs,H D=some (.lst zs))→cz (fun b=>b=D) H H'→R i y H→R i y H')
  (hs:∀i x H' (Q':VK),xs[i]?=some x→aH H1 H'→(∀y H4,aH H' H4→R i y H4→Q' y H4)→te (σ.set vi (some x)) H' Q')
  (hd:∀ys H,H D=some (.lst ys)→ys.length=xs.length→aH H1 H→(∀j y,ys[j]?=some y→R j y H)→Qd H):
  ∃W:Nat→Nat→Hp→Prop,(∃m,W 0 m (upd H1 D (.lst [])))∧∀i m H,W i m H→
   ((ED K a).stop i H∧Qd H)∨((ED K a).go i H∧∃Nx:Hp→Prop,(∀H',Nx H'→∃m',m'<m∧W (i+1) m' H')∧∀x H',(ED K a).Az i H x H'→ao vi x (wipe σ [vi]) H' fun σ2 H2=>wipe σ2 [vi]=wipe σ [vi]∧AR σ2 H2 fun b H3=>
    if b=true then te σ2 H3 fun y H4=>∃acc,H4 D=some (.lst acc)∧acc.length<sizeLine∧Nx (upd H4 D (.lst (acc++[y])))else Nx H3):=by
 refine L1 (Qd:=Qd) (xs:=xs) (Mw H1 D R) (wR hD) (fun i H _ h=>by obtain⟨_,_,_,s,_⟩:=h.ex;exact aH.tup s hl) ?_ ?_
 ·intro i x H hx h
  obtain⟨ys,h1,h2,h3,h4⟩:=h.ex
  have hi:i<xs.length:=(List.getElem?_eq_some_iff.mp hx).1
  show wipe ((wipe σ [vi]).set vi (some x)) [vi]=wipe σ [vi]∧_
  rw[qE,oJ]
  refine⟨rfl,?_⟩
  show te (σ.set vi (some x)) H _
  exact hs i x H _ hx h3 fun y H4 s4 r4=>wU hD mono h s4 r4 (by lia)
 ·intro H h
  obtain⟨ys,h1,h2,h3,h4⟩:=h.ex
  exact hd ys H h1 h2 h3 h4
theorem FN{lo:Int}{n:Nat}{te:TE}{vi:Nat}{σ:L2.St}{H1:Hp}{Qd:Hp→Prop}{D:Addr}(hD:H1 D=none)(hz:n<sizeLine)(R:Nat→V→Hp→Prop)
  (mono:∀i y H H',(∃zs,H D=some (.lst zs))→cz (fun b=>b=D) H H'→R i y H→R i y H')
  (hs:∀i H' (Q':VK),i<n→aH H1 H'→(∀y H4,aH H' H4→R i y H4→Q' y H4)→te (σ.set vi (some (.int (lo+i)))) H' Q')
  (hd:∀ys H,H D=some (.lst ys)→ys.length=n→aH H1 H→(∀j y,ys[j]?=some y→R j y H)→Qd H):
  ∃W:Nat→Nat→Hp→Prop,(∃m,W 0 m (upd H1 D (.lst [])))∧∀i m H,W i m H→
   ((Gk lo n).stop i H∧Qd H)∨((Gk lo n).go i H∧∃Nx:Hp→Prop,(∀H',Nx H'→∃m',m'<m∧W (i+1) m' H')∧∀x H',(Gk lo n).Az i H x H'→ao vi x (wipe σ [vi]) H' fun σ2 H2=>wipe σ2 [vi]=wipe σ [vi]∧AR σ2 H2 fun b H3=>
    if b=true then te σ2 H3 fun y H4=>∃acc,H4 D=some (.lst acc)∧acc.length<sizeLine∧Nx (upd H4 D (.lst (acc++[y])))else Nx H3):=by
 refine Il (Qd:=Qd) (Mw H1 D R) (wR hD) ?_ ?_
 ·intro i H hi h
  obtain⟨ys,h1,h2,h3,h4⟩:=h.ex
  show wipe ((wipe σ [vi]).set vi (some (.int (lo+i)))) [vi]=wipe σ [vi]∧_
  rw[qE,oJ]
  refine⟨rfl,?_⟩
  show te (σ.set vi (some (.int (lo+i)))) H _
  exact hs i H _ hi h3 fun y H4 s4 r4=>wU hD mono h s4 r4 (by lia)
 ·intro H h
  obtain⟨ys,h1,h2,h3,h4⟩:=h.ex
  exact hd ys H h1 h2 h3 h4
theorem Mi:bootBuiltins "any"=some (.builtin "any"):=by decide+kernel
def ck(K:PySem.W.Frag)(G:Gs)(H:Hp)(ls:List Addr)(xs:List Rb50.Lock):Prop:=Paired (dU K G H) ls xs
def Dz(K:PySem.W.Frag)(G:Gs):Sp:=fun vs H Q _=>∃(la sa wa:Addr) (ls:List Addr) (h:Rb50.Harbour) (n:Nat),vs=[.ref la,.ref sa,.int (h.now+1),.int (h.now+n)]∧H la=some (.lst (ls.map V.ref))∧ck K G H ls h.locks∧ls.Nodup∧lX K G H sa wa h∧qD h∧0<n∧n≤10000∧
 ∀(H':Hp),cz (fun b=>b∈ls) H H'→ck K G H' ls (h.locks.map (eZ h h.now n))→Q .gh H'
theorem ck.mod{H:Hp}{ls:List Addr}{xs:List Rb50.Lock}(T:Tx K mg G)(h:ck K G H ls xs):Mod G (fun b=>b∈ls) H:=by
 intro b hb
 obtain⟨i,hi⟩:=List.getElem?_of_mem hb
 obtain⟨l,_,r⟩:=Paired.get' h hi
 exact r.mod T b rfl
theorem ck.ins{H:Hp}{ls:List Addr}{xs:List Rb50.Lock}(h:ck K G H ls xs){b:Addr}(hb:b∈ls):∃dx fs,H b=some (.ins G.CL dx fs):=by
 obtain⟨i,hi⟩:=List.getElem?_of_mem hb
 obtain⟨l,_,r⟩:=Paired.get' h hi
 obtain⟨dx,av,sv,iv,nv,lv',ln,h1,_⟩:=r.ex
 exact⟨_,_,h1⟩
theorem ck.keep{S:Addr→Prop}{H H':Hp}(k:cz S H H')(m:Mod G S H):∀{ls:List Addr} {xs:List Rb50.Lock},ck K G H ls xs→(∀a∈ls,¬S a)→ck K G H' ls xs
 |_,_,.nil,_=>.nil
 |_,_,.cons r t,n=>.cons (r.keep k m (n _ List.mem_cons_self)) (ck.keep k m t fun a ha=>n a (List.mem_cons_of_mem _ ha))
theorem ck.same{H H':Hp}(e:aH H H'){ls:List Addr}{xs:List Rb50.Lock}(h:ck K G H ls xs):ck K G H' ls xs:=ck.keep (S:=fun _=>False) (aH.keep e) wQ h fun _ _ z=>z
theorem ck.set{H H':Hp}{a:Addr}{l':Rb50.Lock}(k:cz (fun b=>b=a) H H')(m:Mod G (fun b=>b=a) H)(hl:dU K G H' a l'):∀{ls:List Addr} {xs:List Rb50.Lock} {i:Nat},ls.Nodup→ck K G H ls xs→ls[i]?=some a→ck K G H' ls (xs.set i l')
 |_,_,i,_,.nil,e=>by simp at e
 |b::ls,_,0,nd,.cons r t,e=>by
  simp at e
  subst e
  rw[List.nodup_cons]at nd
  exact .cons hl (ck.keep k m t fun c hc z=>nd.1 (z▸hc))
 |b::ls,_,i+1,nd,.cons r t,e=>by
  rw[List.nodup_cons]at nd
  have e':ls[i]?=some a:=by simpa using e
  have ha:a∈ls:=List.mem_of_getElem? e'
  exact .cons (r.keep k m fun z=>nd.1 (z▸ha)) (ck.set k m hl nd.2 t e')
theorem qD.fQ{h:Rb50.Harbour}(f:qD h):vd h:=⟨f.ok,f.wv⟩
theorem ir{m:Int}(h1: -9223372036854775808≤m)(h2:m≤9223372036854775808):xP m:=by
 unfold xP
 omega
def wB(K:PySem.W.Frag)(G:Gs):TS:=
 aK (au (bO bS (bQ (vZ K "way") (aG 5)) (tC (.int 1)))) (Jo (Em K (aG 4)) (ao 7) (aJ (aq (uK K G) [] E0 (ak (aG 5) (ak (aG 7) aI)))))
  (aK (au (bO bS (bQ (vZ K "way") (aG 5)) (tC (.int 2)))) (Jo (K9 (ak (aG 2) (ak (bO (bR fun i j=>V.int (i+j)) (aG 3) (tC (V.int 1))) aI))) (ao 6) (aJ (aq (uK K G) [] E0 (ak (aG 5) (ak (bQ (vZ K "inner") (aG 5)) aI)))))
   (aK (au (bO bS (bQ (vZ K "way") (aG 5)) (tC (.int 3)))) (bG K (aG 5) (aq (dP K G zK) [] E0 (ak (aG 1) (ak (aG 3) aI))) "level")
    (aK (au (bO bS (bQ (vZ K "way") (aG 5)) (tC (.int 4)))) (bG K (aG 5) (bQ (vZ K "inner") (aG 5)) "level") ay)))
theorem qG{D:Ends}{t e:TS}{σ:L2.St}{H:Hp}{a:Addr}{l:Rb50.Lock}{c:Nat}(T:Tx K mg G)(hl:dU K G H a l)(h5:σ[5]?=some (some (.ref a)))(h1:l.open_=c→t D σ H)(h2:l.open_≠c→e D σ H):
  aK (au (bO bS (bQ (vZ K "way") (aG 5)) (tC (.int c)))) t e D σ H:=by
 obtain⟨dx,av,sv,iv,nv,lv',ln,g1,_⟩:=hl.ex
 refine⟨_,h5,bN g1 T.cL T.Ag rfl ⟨rfl,_,rfl,?_⟩⟩
 show(if decide (V.int (l.open_:Int)=V.int (c:Int))=true then t D σ H else e D σ H)
 by_cases z:l.open_=c
 ·rw[if_pos (decide_eq_true (by rw[z]))]
  exact h1 z
 ·rw[if_neg (by rw[decide_eq_false (fun y=>z (by have:=V.int.inj y;lia))];decide)]
  exact h2 z
theorem yJ(T:Tx K mg G){la sa wa lp:Addr}{ls:List Addr}{h:Rb50.Harbour}{n:Nat}{H:Hp}{lvs:List V}{v5 v6 v7:Option V}{D:Ends}(hla:H la=some (.lst (ls.map V.ref)))(hls:ck K G H ls h.locks)(ndl:ls.Nodup)(hsea:lX K G H sa wa h)(fit:qD h)(hn0:0<n)(hn:n≤10000)
  (hlp:H lp=some (.lst lvs))(hlv:(∃l∈h.locks,l.open_=1)→lvs.length=n∧∀(k:Nat) v,lvs[k]?=some v→bI K H v (zK h (h.now+1+k)))
  (hD:∀σ H',cz (fun b=>b∈ls) H H'→ck K G H' ls (h.locks.map (eZ h h.now n))→D.nx σ H'):
  Jo (Em K (aG 0)) (ao 5) (wB K G) D [some (.ref la),some (.ref sa),some (.int (h.now+1)),some (.int (h.now+n)),some (.ref lp),v5,v6,v7] H:=by
 have hlo:=fit.lo
 have hhi:=fit.hi
 have hll:ls.length=h.locks.length:=Paired.length hls
 have md:=ck.mod T hls
 have nla:la∉ls:=fun z=>by obtain⟨_,_,e⟩:=ck.ins hls z;rw[hla]at e;cases e
 have nlp:lp∉ls:=fun z=>by obtain⟨_,_,e⟩:=ck.ins hls z;rw[hlp]at e;cases e
 have nsa:sa∉ls:=fun z=>by
  obtain⟨_,_,e⟩:=ck.ins hls z
  obtain⟨_,_,_,e2,_⟩:=hsea.ex
  rw[e2]at e
  exact T.MM (HO.ins.inj (Option.some.inj e)).1.symm
 have nwa:wa∉ls:=fun z=>by
  obtain⟨_,_,e⟩:=ck.ins hls z
  obtain⟨_,_,_,_,e2,_⟩:=hsea.ex
  rw[e2]at e
  cases e
 refine⟨_,rfl,la,rfl,⟨_,dY.of hla⟩,?_⟩
 refine ow (K:=K) (a:=la) (xs:=ls.map V.ref) (fun i σ H'=>∃(v5 v6 v7:Option V),σ=[some (.ref la),some (.ref sa),some (.int (h.now+1)),some (.int (h.now+n)),some (.ref lp),v5,v6,v7]∧cz (fun b=>b∈ls) H H'∧ck K G H' ls (mix (eZ h h.now n) h.locks i))
  ⟨v5,v6,v7,rfl,fun _ _ _ e=>e,by rw[BG];exact hls⟩ (fun i σ H' _ ⟨_,_,_,_,k,_⟩=>dY.of (k _ _ nla hla)) ?_ ?_
 ·rintro i x σ H' hi ⟨v5,v6,v7,rfl,k,hL⟩
  rw[List.getElem?_map]at hi
  obtain⟨a,ha,rfl⟩:∃a,ls[i]?=some a∧V.ref a=x:=by
   cases hx:ls[i]? with
   |none=>rw[hx]at hi;cases hi
   |some a=>rw[hx]at hi;exact⟨a,rfl,Option.some.inj hi⟩
  have hi':i<ls.length:=(List.getElem?_eq_some_iff.mp ha).1
  obtain⟨l,hl⟩:∃l,h.locks[i]?=some l:=⟨_,List.getElem?_eq_getElem (by lia)⟩
  have hmem:l∈h.locks:=List.mem_of_getElem? hl
  have fl:=fit.lk l hmem
  have hal:dU K G H' a l:=by
   obtain⟨l',h1,h2⟩:=Paired.get' hL ha
   rw[D7 hl]at h1
   cases h1
   exact h2
  have mda:=hal.mod T
  have ham:a∈ls:=List.mem_of_getElem? ha
  have kls:∀{H2:Hp},cz (fun b=>b=a) H' H2→cz (fun b=>b∈ls) H H2:=fun k2=>k.trans (k2.mono fun b z=>by rw[z];exact ham)
  have fin:∀(H2:Hp) (v5 v6 v7:Option V),cz (fun b=>b=a) H' H2→dU K G H2 a (eZ h h.now n l)→
    ∃(w5 w6 w7:Option V),[some (V.ref la),some (.ref sa),some (.int (h.now+1)),some (.int (h.now+n)),some (.ref lp),v5,v6,v7]=[some (.ref la),some (.ref sa),some (.int (h.now+1)),some (.int (h.now+n)),some (.ref lp),w5,w6,w7]∧cz (fun b=>b∈ls) H H2∧ck K G H2 ls (mix (eZ h h.now n) h.locks (i+1)):=
   fun H2 v5 v6 v7 k2 l2=>⟨v5,v6,v7,rfl,kls k2,by rw[←BH hl];exact ck.set k2 mda l2 ndl hL ha⟩
  show wB K G _ [some (.ref la),some (.ref sa),some (.int (h.now+1)),some (.int (h.now+n)),some (.ref lp),some (.ref a),v6,v7] H'
  unfold wB
  refine qG (c:=1) T hal rfl (fun c1=>?_) (fun c1=>?_)
  ·obtain⟨hlen,hlvs⟩:=hlv ⟨l,hmem,c1⟩
   have hlp':=k _ _ nlp hlp
   refine⟨_,rfl,lp,rfl,⟨_,dY.of hlp'⟩,?_⟩
   have nal:a≠lp:=fun z=>nlp (z▸ham)
   refine ow (K:=K) (a:=lp) (xs:=lvs) (fun j σ H2=>∃v7:Option V,σ=[some (.ref la),some (.ref sa),some (.int (h.now+1)),some (.int (h.now+n)),some (.ref lp),some (.ref a),v6,v7]∧cz (fun b=>b=a) H' H2∧dU K G H2 a (eZ h h.now j l))
    ⟨v7,rfl,fun _ _ _ e=>e,hal⟩ (fun j σ H2 _ ⟨_,_,k2,_⟩=>dY.of (k2 _ _ (fun z=>nal z.symm) hlp')) ?_ ?_
   ·rintro j x σ H2 hj ⟨v7,rfl,k2,l2⟩
    have kv:=(kls k2).num md (hlvs j x hj)
    simp only[ao,aJ,aq,ak,aI,aG,bQ]
    refine⟨_,rfl,_,rfl,?_⟩
    refine⟨a,_,x,_,_,rfl,l2,wX fl _ _,kv,qP fit.ok _,fun H3 k3 l3=>?_⟩
    refine⟨some x,rfl,k2.trans k3,?_⟩
    rw[Ih h h.now j c1]
    exact l3
   ·rintro σ H2 ⟨v7,rfl,k2,l2⟩
    rw[hlen]at l2
    exact fin H2 _ _ _ k2 l2
  ·refine qG (c:=2) T hal rfl (fun c2=>?_) (fun c2=>?_)
   ·refine⟨_,rfl,_,rfl,_,_,rfl,rfl,_,_,rfl,⟨by lia,by lia,by lia,by lia⟩,?_⟩
    have en:(h.now+n+1 - (h.now+1)).toNat=n:=by lia
    rw[en]
    refine pI (fun j σ H2=>∃v6:Option V,σ=[some (.ref la),some (.ref sa),some (.int (h.now+1)),some (.int (h.now+n)),some (.ref lp),some (.ref a),v6,v7]∧cz (fun b=>b=a) H' H2∧dU K G H2 a (eZ h h.now j l))
     ⟨v6,rfl,fun _ _ _ e=>e,hal⟩ ?_ ?_
    ·rintro j σ H2 hj ⟨v6,rfl,k2,l2⟩
     obtain⟨dx,av,sv,iv,nv,lv',ln,g1,g2,g3,g4,g5,g6,g7⟩:=l2.ex
     obtain⟨e1,e2,e3,e4,e5⟩:=iK h j h.now l
     have fj:=wX (h:=h) fl h.now j
     simp only[ao,aJ,aq,ak,aI,aG,bQ]
     refine⟨_,rfl,_,rfl,bN g1 T.cL T.tG rfl ?_⟩
     refine⟨a,_,nv,_,_,rfl,l2,fj,g5,⟨fj.inner.1,fj.inner.2⟩,fun H3 k3 l3=>?_⟩
     refine⟨_,rfl,k2.trans k3,?_⟩
     rw[Ig h h.now j c2]
     exact l3
    ·rintro σ H2 ⟨v6,rfl,k2,l2⟩
     exact fin H2 _ _ _ k2 l2
   ·obtain⟨dx,av,sv,iv,nv,lv',ln,g1,g2,g3,g4,g5,g6,g7⟩:=hal.ex
    refine qG (c:=3) T hal rfl (fun c3=>?_) (fun c3=>?_)
    ·simp only[bG,ao,aJ,aq,ak,aI,aG,bQ]
     refine⟨_,rfl,_,rfl,?_⟩
     refine⟨sa,wa,h,_,rfl,hsea.keep k md nsa nwa,qD.fQ fit,ir (by lia) (by lia),fun H2 v2 s2 k2=>?_⟩
     refine⟨_,rfl,cU (s2 _ _ g1) T.cL T.gz (Nat.le_of_ble_eq_true rfl) rfl ?_⟩
     have kk:cz (fun b=>b=a) H' (upd H2 a (.ins G.CL dx (lF av sv iv nv v2 (.int l.open_)))):=(aH.keep s2).trans (cz.upd rfl)
     have kk2:cz (fun b=>b=a) H2 (upd H2 a (.ins G.CL dx (lF av sv iv nv v2 (.int l.open_)))):=cz.upd rfl
     have md2:Mod G (fun b=>b=a) H2:=by
      rintro b rfl
      exact .inl ⟨_,_,_,s2 _ _ g1,T.Ms,T.Mt⟩
     refine fin _ _ _ _ kk ?_
     rw[C6 h h.now hn0 c3]
     exact⟨dx,av,sv,iv,nv,v2,_,aF,kk.num mda g2,kk.num mda g3,kk.num mda g4,kk.num mda g5,kk2.num md2 k2,qP fit.ok _⟩
    ·refine qG (c:=4) T hal rfl (fun c4=>?_) (fun c4=>?_)
     ·simp only[bG,ao,aJ,aq,ak,aI,aG,bQ]
      refine⟨_,rfl,bN g1 T.cL T.tG rfl ?_⟩
      refine⟨_,rfl,cU g1 T.cL T.gz (Nat.le_of_ble_eq_true rfl) rfl ?_⟩
      have kk:cz (fun b=>b=a) H' (upd H' a (.ins G.CL dx (lF av sv iv nv nv (.int l.open_)))):=cz.upd rfl
      refine fin _ _ _ _ kk ?_
      rw[FI h h.now hn0 c4]
      exact⟨dx,av,sv,iv,nv,nv,_,aF,kk.num mda g2,kk.num mda g3,kk.num mda g4,kk.num mda g5,kk.num mda g5,⟨fl.inner.1,fl.inner.2⟩⟩
     ·have hop:=fl.op
      have h0:l.open_=0:=by lia
      refine fin H' _ _ _ (fun _ _ _ e=>e) ?_
      rw[FH h h.now n h0]
      exact hal
 ·rintro σ H' ⟨v5,v6,v7,rfl,k,hL⟩
  refine hD _ H' k ?_
  rw[List.length_map,hll,D8]at hL
  exact hL
abbrev jR:Stmt:=bJ 78
theorem mK:bz ["locks","sea","first","last","levels","lock","minute","level"] ["locks","sea","first","last"] (aR jR):=⟨rfl,rfl,rfl,by decide+kernel,rfl,by decide+kernel,by decide+kernel⟩
theorem uE{f:Addr}{fd:FuncData}(F:eX K "pass_minutes" "pass_minutes" jR f fd)(T:Tx K mg G)(h_sea_level:di P w K mg base "sea_level" 8 ["sea","minute"] (dP K G zK))(h_flow:di P w K mg base "flow" 5 ["lock","water"] (uK K G)):
  cA P w K mg base eS 9 f fd ["locks","sea","first","last"] (Dz K G):=by
 refine F.ok mK (fun vs H Q E h=>?_) (fun cdv A outer s H vs Q E hr h=>?_)
 ·obtain⟨la,sa,wa,ls,h,n,rfl,_⟩:=h
  rfl
 ·have nd:=mK.nd
  obtain⟨la,sa,wa,ls,h,n,rfl,hla,hls,ndl,hsea,fit,hn0,hn,q⟩:=h
  have hlo:=fit.lo
  have hhi:=fit.hi
  have hll:ls.length=h.locks.length:=Paired.length hls
  have hnl:=fit.nl
  refine⟨_,(ai (bB (i:=4) nd rfl (Or.inl rfl) (cC af))
   (ai (cZ (dD (cE (Mf rfl) (by rfl) T.EB Mi (aa (yG (own:=[("lock",5)]) rfl nd (gK (pv 0)) (fR rfl) (fun _ _ _ _ _=>dJ (i:=5) nd rfl (Or.inl rfl)) (fun _ _ _ _ _=>gJ) (fun _ _ _ _ _=>(mq je (zQ (K:=K) (pv 5) rfl rfl) (bw rfl T.iw) (cK _)))) af))) (aB (lH (i:=4) (own:=[("minute",6)]) rfl nd rfl rfl rfl (o7 rfl T.jE (aa (pv 2) (aa (bu cT (pv 3) az) af))) (fR rfl) (fun _ _ _ _ _=>dJ (i:=6) nd rfl (Or.inl rfl)) (fun _ _ _ _ _=>gJ) (fun _ _ _ _ _=>(aj h_sea_level (hr.mono (by decide)) rfl (aa (pv 1) (aa (pv 6) af)))))) cg)
   (aB (jq PassesOwn.never rfl (gK (pv 0)) (dJ (i:=5) nd rfl (Or.inl rfl))
    (aB (cZ (bZ je (bD (pv 5) rfl) (bw rfl T.iw) (cK _)) (aB (jq PassesOwn.never rfl (gK (pv 4)) (dJ (i:=7) nd rfl (Or.inl rfl))
      (aB (fK (aj h_flow (hr.mono (by decide)) rfl (aa (pv 5) (aa (pv 7) af))))))) (aB (cZ (bZ je (bD (pv 5) rfl) (bw rfl T.iA) (cK _)) (aB (jq PassesOwn.never rfl (o7 rfl T.jE (aa (pv 2) (aa (bu cT (pv 3) az) af))) (dJ (i:=6) nd rfl (Or.inl rfl))
       (aB (fK (aj h_flow (hr.mono (by decide)) rfl (aa (pv 5) (aa (bD (pv 5) rfl) af))))))) (aB (cZ (bZ je (bD (pv 5) rfl) (bw rfl T.j0) (cK _)) (aB (cy (pv 5) (aj h_sea_level (hr.mono (by decide)) rfl (aa (pv 1) (aa (pv 3) af))) rfl)) (aB (cZ (bZ je (bD (pv 5) rfl) (bw rfl T.iB) (cK _)) (aB (cy (pv 5) (bD (pv 5) rfl) rfl)) cg)))))))))))),?_⟩
  sleep 1
  intro p hp
  have s0:aH H (upd H p (.lst [])):=aH.upd hp
  refine⟨_,rfl,la,rfl,⟨_,dY.of (s0 _ _ hla)⟩,fun D hD=>?_⟩
  refine rP (K:=K) (xs:=ls.map V.ref) hD (dY.of (s0 _ _ hla)) (by rw[List.length_map];exact Nat.lt_of_le_of_lt (m:=16) (by lia) (by decide)) (fun i y _=>∃l,h.locks[i]?=some l∧y=.bl (decide (l.open_=1))) (fun _ _ _ _ _ _ r=>r) ?_ ?_
  ·intro i x H' Q' hx s1 hQ
   rw[List.getElem?_map]at hx
   obtain⟨a,ha,rfl⟩:∃a,ls[i]?=some a∧V.ref a=x:=by
    cases hy:ls[i]? with
    |none=>rw[hy]at hx;cases hx
    |some a=>rw[hy]at hx;exact⟨a,rfl,Option.some.inj hx⟩
   obtain⟨l,hl,hal⟩:=Paired.get' hls ha
   obtain⟨dx,av,sv,iv,nv,lv',ln,g1,_⟩:=(hal.same (s0.trans s1)).ex
   refine⟨_,rfl,bN g1 T.cL T.Ag rfl ⟨rfl,?_⟩⟩
   refine hQ _ _ (aH.refl _) ⟨l,hl,?_⟩
   congr 1
   apply decide_eq_decide.mpr
   constructor
   ·intro y;have:=V.int.inj y;lia
   ·intro y;rw[y];rfl
  ·intro ys H1 hy hlen s1 hR
   have hys:ys=(h.locks.map fun l=>decide (l.open_=1)).map V.bl:=by
    rw[List.length_map]at hlen
    apply List.ext_getElem?
    intro j
    rw[List.getElem?_map,List.getElem?_map]
    cases hj:ys[j]? with
    |none=>
     have:h.locks[j]?=none:=List.getElem?_eq_none (by have:=List.getElem?_eq_none_iff.mp hj;lia)
     rw[this];rfl
    |some y=>
     obtain⟨l,h1,h2⟩:=hR j y hj
     rw[h1,h2];rfl
   subst hys
   refine⟨D,_,rfl,dY.of hy,?_⟩
   have s2:=s0.trans s1
   have hany:((h.locks.map fun l=>decide (l.open_=1)).any id)=true↔∃l∈h.locks,l.open_=1:=by
    rw[List.any_map,List.any_eq_true]
    constructor
    ·rintro⟨l,h1,h2⟩;exact⟨l,h1,of_decide_eq_true h2⟩
    ·rintro⟨l,h1,h2⟩;exact⟨l,h1,decide_eq_true h2⟩
   cases hb:((h.locks.map fun l=>decide (l.open_=1)).any id)with
   |false=>
    refine .inl ⟨rfl,?_⟩
    refine yJ T (s2 _ _ hla) (ck.same s2 hls) ndl (hsea.same s2) fit hn0 hn (s1 _ _ aF) (fun z=>?_) (fun σ H' k l=>q H' ((aH.keep s2).trans k) l)
    rw[←hany,hb]at z
    cases z
   |true=>
    refine .inr ⟨rfl,?_⟩
    refine⟨_,rfl,_,rfl,_,_,rfl,rfl,_,_,rfl,⟨by lia,by lia,by lia,by lia⟩,fun D2 hD2=>?_⟩
    have en:(h.now+n+1 - (h.now+1)).toNat=n:=by lia
    rw[en]
    refine FN hD2 (Nat.lt_of_le_of_lt hn (by decide)) (fun i y H'=>bI K H' y (zK h (h.now+1+i))) (fun i y Ha Hb hz k r=>k.num (G:=G) (fun b z=>.inr (by rw[z];exact hz)) r) ?_ ?_
    ·intro i H' Q' hi s3 hQ
     simp only[bG,ao,aJ,aq,ak,aI,aG,bQ]
     refine⟨_,rfl,_,rfl,?_⟩
     exact⟨sa,wa,h,_,rfl,hsea.same (s2.trans s3),qD.fQ fit,ir (by lia) (by lia),fun H2 v2 e2 k2=>hQ v2 H2 e2 k2⟩
    ·intro lvs H3 hl3 hlen3 s3 hR3
     have s4:=s2.trans s3
     exact yJ T (s4 _ _ hla) (ck.same s4 hls) ndl (hsea.same s4) fit hn0 hn hl3 (fun _=>⟨hlen3,hR3⟩) (fun σ H' k l=>q H' ((aH.keep s4).trans k) l)
end
end TB
end
noncomputable section
namespace TB
open PySem PySem.Spec PyProof.Rows L2 TM
section
variable{P:Program}{w:World}{K:PySem.W.Frag}{mg:Str→Option Value}{base:Heap}{G:Gs}
theorem aH.made{H:Hp}{x dx:Addr}{o u:HO}(h1:H x=none)(h2:H dx=none):aH H (L2.upd (L2.upd H dx o) x u):=aH.put (aH.upd h2) h1
def vq(G:Gs):Sp:=fun vs H Q _=>∃(a dx:Addr) (x y z:V),vs=[.ref a,x,y,z]∧H a=some (.ins G.CR dx [])∧Q .gh (upd H a (.ins G.CR dx (rF x y z)))
abbrev iH:Stmt:=inClass (bJ 51) 0
theorem kq:bz ["self","high","begins","half"] ["self","high","begins","half"] (aR iH):=⟨rfl,rfl,rfl,by decide+kernel,rfl,by decide+kernel,by decide+kernel⟩
theorem rL{f:Addr}{fd:FuncData}(F:eX K "__init__" "Surge.__init__" iH f fd)(T:Tx K mg G):
  cA P w K mg base eS 1 f fd ["self","high","begins","half"] (vq G):=by
 refine F.ok kq (fun vs H Q E h=>?_) (fun cdv A outer s H vs Q E hr h=>?_)
 ·obtain⟨a,dx,x,y,z,rfl,_⟩:=h
  rfl
 ·have nd:=kq.nd
  obtain⟨a,dx,x,y,z,rfl,h1,q⟩:=h
  refine⟨_,(ai (cy (pv 0) (pv 1) rfl)
   (ai (cy (pv 0) (pv 2) rfl)
   (aB (cy (pv 0) (pv 3) rfl)))),?_⟩
  sleep 1
  refine cU h1 T.cR T.Hq ?l rfl ?_
  case l=>exact Nat.le_of_ble_eq_true rfl
  sleep 1
  refine cU aF T.cR T.uO ?l rfl ?_
  case l=>exact Nat.le_of_ble_eq_true rfl
  rw[eF]
  sleep 1
  refine cU aF T.cR T.DS ?l rfl ?_
  case l=>exact Nat.le_of_ble_eq_true rfl
  rw[eF]
  exact q
def zq(G:Gs):Sp:=fun vs H Q _=>∃(a dx:Addr) (m:V),vs=[.ref a,m]∧H a=some (.ins G.CS dx [])∧∀(H':Hp) (la:Addr),cz (fun b=>b=a) H H'→H' a=some (.ins G.CS dx (sF m (.ref la) .gh))→H' la=some (.lst [])→H la=none→Q .gh H'
abbrev jV:Stmt:=inClass (bJ 52) 0
theorem mQ:bz ["self","mean"] ["self","mean"] (aR jV):=⟨rfl,rfl,rfl,by decide+kernel,rfl,by decide+kernel,by decide+kernel⟩
theorem uI{f:Addr}{fd:FuncData}(F:eX K "__init__" "Sea.__init__" jV f fd)(T:Tx K mg G):
  cA P w K mg base eS 1 f fd ["self","mean"] (zq G):=by
 refine F.ok mQ (fun vs H Q E h=>?_) (fun cdv A outer s H vs Q E hr h=>?_)
 ·obtain⟨a,dx,m,rfl,_⟩:=h
  rfl
 ·have nd:=mQ.nd
  obtain⟨a,dx,m,rfl,h1,q⟩:=h
  refine⟨_,(ai (cy (pv 0) (pv 1) rfl)
   (ai (cy (pv 0) (cC af) rfl)
   (aB (cy (pv 0) Hu rfl)))),?_⟩
  sleep 1
  refine cU h1 T.cS T.Bd ?l rfl ?_
  case l=>exact Nat.le_of_ble_eq_true rfl
  sleep 1
  intro la hla
  have hne:la≠a:=fun z=>by rw[z,aF]at hla;cases hla
  have hla':H la=none:=by rw[cQ hne]at hla;exact hla
  have e1:upd (upd H a (.ins G.CS dx [("mean",m)])) la (.lst []) a=some (.ins G.CS dx [("mean",m)]):=by rw[cQ (fun z=>hne z.symm)];exact aF
  refine cU e1 T.cS T.vX ?l rfl ?_
  case l=>exact Nat.le_of_ble_eq_true rfl
  sleep 1
  refine cU aF T.cS T.sU ?l rfl ?_
  case l=>exact Nat.le_of_ble_eq_true rfl
  rw[eF]
  refine q _ la ?_ aF ?_ hla'
  ·intro b o hb e
   rw[cQ hb,cQ (fun z=>by rw[z]at e;rw[hla']at e;cases e),cQ hb]
   exact e
  ·rw[cQ hne]
   exact aF
def zp(K:PySem.W.Frag)(G:Gs):Sp:=fun vs H Q _=>∃(a dx:Addr) (hv fv:V) (x:Rb50.Wave),vs=[.ref a,hv,fv,.int x.phase,.int x.speed]∧H a=some (.ins G.CW dx [])∧bI K H hv (dW x.high)∧bI K H fv (gX Rb50.SINGLE x.factor)∧j4 x∧
 ∀(H':Hp),cz (fun b=>b=a) H H'→j5 K G H' (.ref a) x→Q .gh H'
theorem dM{S:Addr→Prop}{H H':Hp}(k:cz S H H'){v:V}{n:Num}(h:bI K H v n)(hS:∀b xs,S b→¬Rd H b (.tup xs)):bI K H' v n:=by
 obtain⟨p,rfl,q⟩:=h
 refine⟨p,rfl,?_⟩
 rcases q with q|q
 ·have hn:¬S p:=fun z=>hS p _ z q
  rcases q with q|⟨o,q⟩
  ·exact .inl (.inl (k _ _ hn q))
  ·exact .inl (.inr ⟨o,k _ _ hn q⟩)
 ·exact .inr q
theorem jD{H:Hp}{a C dx:Addr}{fs:List (Str×V)}(h:H a=some (.ins C dx fs)):∀b xs,b=a→¬Rd H b (.tup xs):=by
 rintro b xs rfl (z|⟨o,z⟩)<;>rw[h]at z<;>cases z
abbrev jm:Stmt:=inClass (bJ 50) 0
theorem lC:bz ["self","high","factor","phase","speed"] ["self","high","factor","phase","speed"] (aR jm):=⟨rfl,rfl,rfl,by decide+kernel,rfl,by decide+kernel,by decide+kernel⟩
theorem tw{f:Addr}{fd:FuncData}(F:eX K "__init__" "Wave.__init__" jm f fd)(T:Tx K mg G)(h_multiply:di P w K mg base "multiply" 3 ["kind","x","y"] (eY K bC)):
  cA P w K mg base eS 4 f fd ["self","high","factor","phase","speed"] (zp K G):=by
 refine F.ok lC (fun vs H Q E h=>?_) (fun cdv A outer s H vs Q E hr h=>?_)
 ·obtain⟨a,dx,hv,fv,x,rfl,_⟩:=h
  rfl
 ·have nd:=lC.nd
  obtain⟨a,dx,hv,fv,x,rfl,h1,h2,h3,wo,q⟩:=h
  obtain⟨n1,n2,n3,n4,n5⟩:=zf wo 0
  refine⟨_,(ai (cy (pv 0) (pv 1) rfl)
   (ai (cy (pv 0) (pv 2) rfl)
   (ai (cy (pv 0) (aj h_multiply (hr.mono (by decide)) rfl (aa (cG rfl T.fz) (aa (pv 1) (aa (pv 2) af)))) rfl)
   (ai (cy (pv 0) (pv 3) rfl)
   (aB (cy (pv 0) (pv 4) rfl)))))),?_⟩
  sleep 1
  refine cU h1 T.cW T.Dr ?l rfl ?_
  case l=>exact Nat.le_of_ble_eq_true rfl
  sleep 1
  refine cU aF T.cW T.zh ?l rfl ?_
  case l=>exact Nat.le_of_ble_eq_true rfl
  rw[eF]
  sleep 1
  have k1:cz (fun b=>b=a) H (upd H a (.ins G.CW dx [("high",hv),("factor",fv)])):=cz.upd rfl
  have h2':=dM k1 h2 (jD h1)
  have h3':=dM k1 h3 (jD h1)
  refine⟨_,Rb50.EXT,64,79,hv,fv,_,_,rfl,T.toTxt.unit _,gB,h2',h3',n1,n2,fun H2 v2 s2 g2=>?_⟩
  refine cU (s2 _ _ aF) T.cW T.zg ?l rfl ?_
  case l=>exact Nat.le_of_ble_eq_true rfl
  sleep 1
  refine cU aF T.cW T.Ca ?l rfl ?_
  case l=>exact Nat.le_of_ble_eq_true rfl
  rw[eF]
  sleep 1
  refine cU aF T.cW T.vh ?l rfl ?_
  case l=>exact Nat.le_of_ble_eq_true rfl
  rw[eF]
  have k2:cz (fun b=>b=a) H2 (upd H2 a (.ins G.CW dx (wF hv fv v2 (.int x.phase) (.int x.speed)))):=cz.upd rfl
  have o2:=jD (s2 _ _ (aF (H:=H) (a:=a) (o:=.ins G.CW dx [("high",hv),("factor",fv)])))
  refine q _ ((k1.trans (aH.keep s2)).trans k2) ⟨a,dx,hv,fv,v2,rfl,aF,dM k2 (h2'.same s2) o2,dM k2 (h3'.same s2) o2,dM k2 g2 o2⟩
def mW(K:PySem.W.Frag)(H:Hp)(v:V)(x:Num×Nat):Prop:=∃p u,v=.ref p∧jF K H p [u,.int x.2]∧bI K H u x.1
theorem mW.same{H H':Hp}{v:V}{x:Num×Nat}(h:mW K H v x)(e:aH H H'):mW K H' v x:=by
 obtain⟨p,u,h1,h2,h3⟩:=h
 exact⟨p,u,h1,aH.tup e h2,h3.same e⟩
theorem IE{f:Nat→Num}(h:∀k,NB (f k)):∀i,NB (rH f i).1.1∧NB (rH f i).2.1
 |0=>⟨h 0,h 0⟩
 |i+1=>by
  obtain⟨h1,h2⟩:=IE h i
  show NB (if _ then _ else _:Num×Nat).1∧NB (if _ then _ else _:Num×Nat).1
  constructor
  ·split
   ·exact h (i+1)
   ·exact h1
  ·split
   ·exact h (i+1)
   ·exact h2
def tV(K:PySem.W.Frag)(G:Gs):Sp:=fun vs H Q _=>∃(a la:Addr) (x:Rb50.Harbour) (m:Int) (n:Nat),vs=[.ref a,.int m,.int (n+1:Nat)]∧lX K G H a la x∧vd x∧ -1152921504606846976≤m∧m≤1152921504606846976∧n≤10000∧
 ∀(H':Hp) (p:Addr) (u v:V),aH H H'→jF K H' p [u,v]→mW K H' u (rH (fun k=>cB x (m+k)) n).1→mW K H' v (rH (fun k=>cB x (m+k)) n).2→Q (.ref p) H'
abbrev qx:Stmt:=bJ 60
theorem ua:bz ["sea","minute","n","least","greatest","k","height"] ["sea","minute","n"] (aR qx):=⟨rfl,rfl,rfl,by decide+kernel,rfl,by decide+kernel,by decide+kernel⟩
theorem BD{f:Addr}{fd:FuncData}(F:eX K "extremes" "extremes" qx f fd)(T:Tx K mg G)(h_tenths:di P w K mg base "tenths" 6 ["sea","minute"] (dP K G cB))(h_is_below:di P w K mg base "is_below" 2 ["x","y"] (fE K)):
  cA P w K mg base eS 7 f fd ["sea","minute","n"] (tV K G):=by
 refine F.ok ua (fun vs H Q E h=>?_) (fun cdv A outer s H vs Q E hr h=>?_)
 ·obtain⟨a,la,x,m,n,rfl,_⟩:=h
  rfl
 ·have nd:=ua.nd
  obtain⟨a,la,x,m,n,rfl,hs,fQ,hm1,hm2,hn,q⟩:=h
  have nb:∀k:Nat,NB (cB x (m+(k:Int))):=fun k=>.of_ok (gk fQ.ok _).2 (by decide)
  refine⟨_,(ai (bB (i:=3) nd rfl (Or.inl rfl) (fL (aa (aj h_tenths (hr.mono (by decide)) rfl (aa (pv 0) (aa (pv 1) af))) (aa az af))))
   (ai (bB (i:=4) nd rfl (Or.inl rfl) (pv 3))
   (ai (jq PassesOwn.never rfl (o7 rfl T.jE (aa az (aa (pv 2) af))) (dJ (i:=5) nd rfl (Or.inl rfl))
    (ai (bB (i:=6) nd rfl (Or.inl rfl) (aj h_tenths (hr.mono (by decide)) rfl (aa (pv 0) (aa (bu cT (pv 1) (pv 5)) af))))
    (ai (cZ (dD (aj h_is_below (hr.mono (by decide)) rfl (aa (pv 6) (aa (bq bF (pv 3) az (fun _ _=>rfl)) af)))) (aB (bB (i:=3) nd rfl (Or.inl rfl) (fL (aa (pv 6) (aa (pv 5) af))))) cg)
    (aB (cZ (dD (aj h_is_below (hr.mono (by decide)) rfl (aa (bq bF (pv 4) az (fun _ _=>rfl)) (aa (pv 6) af)))) (aB (bB (i:=4) nd rfl (Or.inl rfl) (fL (aa (pv 6) (aa (pv 5) af))))) cg)))))
   (aB (bA (fL (aa (pv 3) (aa (pv 4) af)))))))),?_⟩
  sleep 1
  refine⟨a,la,x,m,rfl,hs,fQ,ir (by lia) (by lia),fun H1 v1 s1 k1=>?_⟩
  refine⟨by decide,fun p hp=>?_⟩
  have s2:aH H1 (upd H1 p (.tup [v1,.int 0])):=aH.upd hp
  have s12:=s1.trans s2
  refine⟨_,rfl,_,_,rfl,⟨by lia,by lia,by lia,by lia⟩,?_⟩
  have en:((n:Int)+1 - 1).toNat=n:=by lia
  rw[en]
  have hpk:mW K (upd H1 p (.tup [v1,.int 0])) (.ref p) (cB x m,0):=⟨p,v1,rfl,jF.of aF,k1.same s2⟩
  have hf0:rH (fun k=>cB x (m+k)) 0=((cB x m,0),(cB x m,0)):=by
   unfold rH
   simp
  refine pI (fun i σ H'=>∃(u v:V) (v5 v6:Option V),σ=[some (.ref a),some (.int m),some (.int (n+1)),some u,some v,v5,v6]∧aH H H'∧mW K H' u (rH (fun k=>cB x (m+k)) i).1∧mW K H' v (rH (fun k=>cB x (m+k)) i).2)
   ⟨_,_,none,none,rfl,s12,by rw[hf0];exact hpk,by rw[hf0];exact hpk⟩ ?_ ?_
  ·rintro i σ H' hi ⟨u,v,v5,v6,rfl,s3,⟨pu,uu,rfl,hu1,hu2⟩,⟨pw,vv,rfl,hv1,hv2⟩⟩
   sleep 1
   refine⟨a,la,x,_,rfl,hs.same s3,fQ,ir (by lia) (by lia),fun H2 v2 s4 k2=>?_⟩
   have em:m+(1+(i:Int))=m+((i+1:Nat):Int):=by lia
   rw[em]at k2
   have ek:(V.int (1+(i:Int)))=V.int ((i+1:Nat):Int):=by congr 1;lia
   rw[ek]
   have ep:rH (fun k=>cB x (m+k)) (i+1)=rG (cB x (m+((i+1:Nat):Int))) (i+1) (rH (fun k=>cB x (m+k)) i):=rfl
   have nbs:=IE (f:=fun(k:Nat)=>cB x (m+(k:Int))) nb i
   have nb2:NB (cB x (m+((i+1:Nat):Int))):=nb (i+1)
   rw[ep]
   clear ep q nb hf0
   revert hu1 hu2 hv1 hv2 nbs
   generalize rH (fun(k:Nat)=>cB x (m+(k:Int))) i=e
   intro hu1 hu2 hv1 hv2 nbs
   revert k2 nb2
   generalize cB x (m+((i+1:Nat):Int))=N
   intro k2 nb2
   have s34:=s3.trans s4
   have second:∀(H3:Hp) (u:V),aH H2 H3→mW K H3 u (rG N (i+1) e).1→JE K (V.ref pw) (V.int 0) H3 fun x_2 H1=>fE K [x_2,v2] H1 (fun x_3 H1=>
     (eH K x_3 H1 false∧∃u' v,(u=u'∧V.ref pw=v)∧aH H H1∧mW K H1 u' (rG N (i+1) e).1∧mW K H1 v (rG N (i+1) e).2)∨
     (eH K x_3 H1 true∧2≤sizeLine∧∀(p:Addr),H1 p=none→∃u' v,(u=u'∧V.ref p=v)∧aH H (upd H1 p (HO.tup [v2,V.int ((i+1:Nat):Int)]))∧
      mW K (upd H1 p (HO.tup [v2,V.int ((i+1:Nat):Int)])) u' (rG N (i+1) e).1∧mW K (upd H1 p (HO.tup [v2,V.int ((i+1:Nat):Int)])) v (rG N (i+1) e).2)) E0:=by
    intro H3 u s5 hu
    have s45:=s4.trans s5
    refine bP (aH.tup s45 hv1) rfl ?_
    refine⟨_,_,_,_,rfl,hv2.same s45,k2.same s5,nbs.2,nb2,?_⟩
    cases hb:dH e.2.1 N with
    |false=>
     refine .inl ⟨rfl,u,_,⟨rfl,rfl⟩,s3.trans s45,hu,?_⟩
     show mW K H3 (.ref pw) (if dH e.2.1 N=true then(N,i+1)else e.2)
     rw[if_neg (by rw[hb];decide)]
     exact⟨pw,vv,rfl,aH.tup s45 hv1,hv2.same s45⟩
    |true=>
     refine .inr ⟨rfl,by decide,fun p2 hp2=>⟨u,_,⟨rfl,rfl⟩,(s3.trans s45).trans (aH.upd hp2),hu.same (aH.upd hp2),?_⟩⟩
     show mW K _ (.ref p2) (if dH e.2.1 N=true then(N,i+1)else e.2)
     rw[if_pos hb]
     exact⟨p2,v2,rfl,jF.of aF,(k2.same s5).same (aH.upd hp2)⟩
   refine bP (aH.tup s4 hu1) rfl ?_
   refine⟨_,_,_,_,rfl,k2,hu2.same s4,nb2,nbs.1,?_⟩
   cases hb:dH N e.1.1 with
   |false=>
    refine .inl ⟨rfl,second H2 _ (aH.refl _) ?_⟩
    show mW K H2 (.ref pu) (if dH N e.1.1=true then(N,i+1)else e.1)
    rw[if_neg (by rw[hb];decide)]
    exact⟨pu,uu,rfl,aH.tup s4 hu1,hu2.same s4⟩
   |true=>
    refine .inr ⟨rfl,by decide,fun p2 hp2=>second _ _ (aH.upd hp2) ?_⟩
    show mW K _ (.ref p2) (if dH N e.1.1=true then(N,i+1)else e.1)
    rw[if_pos hb]
    exact⟨p2,v2,rfl,jF.of aF,k2.same (aH.upd hp2)⟩
  ·rintro σ H' ⟨u,v,v5,v6,rfl,s3,hu,hv⟩
   sleep 1
   exact⟨by decide,fun p2 hp2=>q _ p2 u v (s3.trans (aH.upd hp2)) (jF.of aF) (hu.same (aH.upd hp2)) (hv.same (aH.upd hp2))⟩
def pF(f a b g h:V):List (Str×V):=[("factor",f),("a",a),("b",b),("g",g),("h",h)]
structure tQ(K:PySem.W.Frag)(G:Gs)(H:Hp)(a:Addr)(p:eB):Prop where
 ex:∃dx fv av bv gv hv,H a=some (.ins G.CP dx (pF fv av bv gv hv))∧bI K H fv p.f∧bI K H av p.a∧bI K H bv p.b∧bI K H gv p.g∧bI K H hv p.h
def uz(S:Addr→Prop)(H:Hp):Prop:=∀b xs,S b→¬Rd H b (.tup xs)
theorem yL{H:Hp}{S:Addr→Prop}(h:∀b,S b→∃C dx fs,H b=some (.ins C dx fs)):uz S H:=by
 intro b xs hb
 obtain⟨C,dx,fs,e⟩:=h b hb
 rintro(z|⟨o,z⟩)<;>rw[e]at z<;>cases z
theorem lN{H:Hp}{D:Addr}(h:∃zs,H D=some (.lst zs)):uz (fun b=>b=D) H:=by
 rintro b xs rfl
 obtain⟨zs,e⟩:=h
 rintro(z|⟨o,z⟩)<;>rw[e]at z<;>cases z
theorem tQ.keep{S:Addr→Prop}{H H':Hp}{a:Addr}{p:eB}(h:tQ K G H a p)(k:cz S H H')(m:uz S H)(n1:¬S a):tQ K G H' a p:=by
 obtain⟨dx,fv,av,bv,gv,hv,h1,h2,h3,h4,h5,h6⟩:=h.ex
 exact⟨dx,fv,av,bv,gv,hv,k _ _ n1 h1,dM k h2 m,dM k h3 m,dM k h4 m,dM k h5 m,dM k h6 m⟩
theorem tQ.same{H H':Hp}{a:Addr}{p:eB}(h:tQ K G H a p)(e:aH H H'):tQ K G H' a p:=h.keep (S:=fun _=>False) (aH.keep e) (fun _ _ z=>z.elim) (fun z=>z)
def iF(K:PySem.W.Frag):Sp:=fun vs H Q _=>∃(v:V) (n:Num) (c:Int),vs=[v]∧bI K H v n∧NB n∧NB (eG n)∧∀(H':Hp) (v':V),aH H H'→bI K H' v' (dR Rb50.SINGLE (eG n))→Q v' H'
abbrev jj:Stmt:=bJ 83
theorem lz:bz ["height"] ["height"] (aR jj):=⟨rfl,rfl,rfl,by decide+kernel,rfl,by decide+kernel,by decide+kernel⟩
theorem sY{f:Addr}{fd:FuncData}(F:eX K "single_metres" "single_metres" jj f fd)(T:Tx K mg G)(h_turned:di P w K mg base "turned" 3 ["kind","x"] (kX K))(h_as_metres:di P w K mg base "as_metres" 4 ["height"] (jw K)):
  cA P w K mg base eS 5 f fd ["height"] (iF K):=by
 refine F.ok lz (fun vs H Q E h=>?_) (fun cdv A outer s H vs Q E hr h=>?_)
 ·obtain⟨v,n,c,rfl,_⟩:=h
  rfl
 ·have nd:=lz.nd
  obtain⟨v,n,c,rfl,hv,nb,nb2,q⟩:=h
  refine⟨_,(aB (bA (aj h_turned (hr.mono (by decide)) rfl (aa (cG rfl T.cu) (aa (aj h_as_metres (hr.mono (by decide)) rfl (aa (pv 0) af)) af))))),?_⟩
  sleep 1
  refine⟨v,n,rfl,hv,nb,fun H1 v1 s1 k1=>?_⟩
  exact⟨_,Rb50.SINGLE,23,31,v1,_,rfl,T.toTxt.single _,cF,k1,nb2,fun H3 v3 s3 k3=>q H3 v3 (s1.trans s3) k3⟩
theorem JQ{x:Rb50.Wave}(h:j4 x){p:Nat}(hp:p<2^64):NB (bC Rb50.EXT (dW x.high) (cI p))∧NB (eG (bC Rb50.EXT (dW x.high) (cI p))):=by
 obtain⟨i1,i2⟩:=fM (z:=x.high) (c:=31) h.high (by decide) (by decide)
 obtain⟨c1,c2⟩:=jJ hp
 obtain⟨t1,t2⟩:=fu i1 c1 i2 c2 (by decide) (by decide)
 obtain⟨m1,m2⟩:=fU t1 t2 (by decide) (by decide)
 exact⟨.of_ok t2 (by decide),.of_ok m2 (by decide)⟩
theorem HB{x:Rb50.Wave}(h:j4 x){p:Nat}(hp:p<2^64):NB (bC Rb50.EXT (dW x.high) (gq p))∧NB (eG (bC Rb50.EXT (dW x.high) (gq p))):=by
 obtain⟨i1,i2⟩:=fM (z:=x.high) (c:=31) h.high (by decide) (by decide)
 obtain⟨c1,c2⟩:=qN hp
 obtain⟨t1,t2⟩:=fu i1 c1 i2 c2 (by decide) (by decide)
 obtain⟨m1,m2⟩:=fU t1 t2 (by decide) (by decide)
 exact⟨.of_ok t2 (by decide),.of_ok m2 (by decide)⟩
def zu(K:PySem.W.Frag)(G:Gs):Sp:=fun vs H Q _=>∃(a dx:Addr) (wv:V) (x:Rb50.Wave) (m:Int),vs=[.ref a,wv,.int m]∧H a=some (.ins G.CP dx [])∧j5 K G H wv x∧j4 x∧x.speed<2^64∧xP m∧
 ∀(H':Hp),cz (fun b=>b=a) H H'→tQ K G H' a (lJ x m)→Q .gh H'
abbrev jn:Stmt:=inClass (bJ 82) 0
theorem lD:bz ["self","wave","minute","first"] ["self","wave","minute"] (aR jn):=⟨rfl,rfl,rfl,by decide+kernel,rfl,by decide+kernel,by decide+kernel⟩
theorem tB{f:Addr}{fd:FuncData}(F:eX K "__init__" "Pair.__init__" jn f fd)(T:Tx K mg G)(h_place:di P w K mg base "place" 1 ["wave","minute"] (vn K G))(h_single_metres:di P w K mg base "single_metres" 5 ["height"] (iF K))(h_turned:di P w K mg base "turned" 3 ["kind","x"] (kX K))(h_multiply:di P w K mg base "multiply" 3 ["kind","x","y"] (eY K bC))(h_cosine:di P w K mg base "cosine" 5 ["part"] (oQ K))(h_sine:di P w K mg base "sine" 6 ["part"] (Dv K)):
  cA P w K mg base eS 7 f fd ["self","wave","minute"] (zu K G):=by
 refine F.ok lD (fun vs H Q E h=>?_) (fun cdv A outer s H vs Q E hr h=>?_)
 ·obtain⟨a,dx,wv,x,m,rfl,_⟩:=h
  rfl
 ·have nd:=lD.nd
  obtain⟨a,dx,wv,x,m,rfl,h1,hw,wo,hsp,hm,q⟩:=h
  refine⟨_,(ai (bB (i:=3) nd rfl (Or.inl rfl) (aj h_place (hr.mono (by decide)) rfl (aa (pv 1) (aa (pv 2) af))))
   (ai (cy (pv 0) (bD (pv 1) rfl) rfl)
   (ai (cy (pv 0) (aj h_single_metres (hr.mono (by decide)) rfl (aa (aj h_multiply (hr.mono (by decide)) rfl (aa (cG rfl T.fz) (aa (bD (pv 1) rfl) (aa (aj h_cosine (hr.mono (by decide)) rfl (aa (pv 3) af)) af)))) af)) rfl)
   (ai (cy (pv 0) (aj h_single_metres (hr.mono (by decide)) rfl (aa (aj h_multiply (hr.mono (by decide)) rfl (aa (cG rfl T.fz) (aa (bD (pv 1) rfl) (aa (aj h_sine (hr.mono (by decide)) rfl (aa (pv 3) af)) af)))) af)) rfl)
   (ai (cy (pv 0) (aj h_turned (hr.mono (by decide)) rfl (aa (cG rfl T.cu) (aa (aj h_cosine (hr.mono (by decide)) rfl (aa (bD (pv 1) rfl) af)) af))) rfl)
   (aB (cy (pv 0) (aj h_turned (hr.mono (by decide)) rfl (aa (cG rfl T.cu) (aa (aj h_sine (hr.mono (by decide)) rfl (aa (bD (pv 1) rfl) af)) af))) rfl))))))),?_⟩
  sleep 1
  refine⟨wv,x,m,rfl,hw,hsp,hm,?_⟩
  obtain⟨wa,wdx,hv,fv,wv',rfl,w1,w2,w3,w4⟩:=hw.ex
  have hne:wa≠a:=fun z=>by rw[z,h1]at w1;exact T.Nn (HO.ins.inj (Option.some.inj w1)).1
  obtain⟨n1,n2,n3,n4,n5⟩:=zf wo m
  obtain⟨p1,p2⟩:=JQ wo (r8 x m)
  obtain⟨p3,p4⟩:=HB wo (r8 x m)
  obtain⟨cs1,cs2⟩:=jJ hsp
  obtain⟨ss1,ss2⟩:=qN hsp
  obtain⟨sm1,sm2⟩:=qN (r8 x m)
  show vZ K "factor" (.ref wa) H _
  refine bN w1 T.cW T.zh rfl ?_
  refine cU (fs':=[("factor",fv)]) h1 T.cP T.zR ?l rfl ?_
  case l=>exact Nat.le_of_ble_eq_true rfl
  have k1:cz (fun b=>b=a) H (upd H a (.ins G.CP dx [("factor",fv)])):=cz.upd rfl
  have f1:∀{v:V} {n:Num},bI K H v n→bI K (upd H a (.ins G.CP dx [("factor",fv)])) v n:=fun h=>dM k1 h (jD h1)
  have a1:=aF (H:=H) (a:=a) (o:=.ins G.CP dx [("factor",fv)])
  have b1:=k1 _ _ hne w1
  have x1:=f1 w2
  have y1:=f1 w3
  clear f1
  generalize upd H a (.ins G.CP dx [("factor",fv)])=H1 at*
  sleep 1
  refine bN b1 T.cW T.Dr rfl ?_
  refine⟨_,rfl,r8 x m,fun H2 v2 s2 c2=>?_⟩
  refine⟨_,Rb50.EXT,64,79,hv,v2,_,_,rfl,T.toTxt.unit _,gB,x1.same s2,c2,n1,n4,fun H3 v3 s3 c3=>?_⟩
  refine⟨v3,_,0,rfl,c3,p1,p2,fun H4 v4 s4 c4=>?_⟩
  have s14:=(s2.trans s3).trans s4
  have a4:=s14 _ _ a1
  refine cU (fs':=[("factor",fv),("a",v4)]) a4 T.cP T.pA ?l rfl ?_
  case l=>exact Nat.le_of_ble_eq_true rfl
  have k5:cz (fun b=>b=a) H4 (upd H4 a (.ins G.CP dx [("factor",fv),("a",v4)])):=cz.upd rfl
  have f5:∀{v:V} {n:Num},bI K H4 v n→bI K (upd H4 a (.ins G.CP dx [("factor",fv),("a",v4)])) v n:=fun h=>dM k5 h (jD a4)
  have a5:=aF (H:=H4) (a:=a) (o:=.ins G.CP dx [("factor",fv),("a",v4)])
  have b5:=k5 _ _ hne (s14 _ _ b1)
  have x5:=f5 (x1.same s14)
  have y5:=f5 (y1.same s14)
  have z5:=f5 c4
  have k15:=(k1.trans (aH.keep s14)).trans k5
  clear f5
  generalize upd H4 a (.ins G.CP dx [("factor",fv),("a",v4)])=H5 at*
  sleep 1
  refine bN b5 T.cW T.Dr rfl ?_
  refine⟨_,rfl,r8 x m,fun H6 v6 s6 c6=>?_⟩
  refine⟨_,Rb50.EXT,64,79,hv,v6,_,_,rfl,T.toTxt.unit _,gB,x5.same s6,c6,n1,.of_ok sm2 (by decide),fun H7 v7 s7 c7=>?_⟩
  refine⟨v7,_,0,rfl,c7,p3,p4,fun H8 v8 s8 c8=>?_⟩
  have s58:=(s6.trans s7).trans s8
  have a8:=s58 _ _ a5
  refine cU (fs':=[("factor",fv),("a",v4),("b",v8)]) a8 T.cP T.pB ?l rfl ?_
  case l=>exact Nat.le_of_ble_eq_true rfl
  have k9:cz (fun b=>b=a) H8 (upd H8 a (.ins G.CP dx [("factor",fv),("a",v4),("b",v8)])):=cz.upd rfl
  have f9:∀{v:V} {n:Num},bI K H8 v n→bI K (upd H8 a (.ins G.CP dx [("factor",fv),("a",v4),("b",v8)])) v n:=fun h=>dM k9 h (jD a8)
  have a9:=aF (H:=H8) (a:=a) (o:=.ins G.CP dx [("factor",fv),("a",v4),("b",v8)])
  have b9:=k9 _ _ hne (s58 _ _ b5)
  have y9:=f9 (y5.same s58)
  have z9:=f9 (z5.same s58)
  have u9:=f9 c8
  have k19:=(k15.trans (aH.keep s58)).trans k9
  clear f9
  generalize upd H8 a (.ins G.CP dx [("factor",fv),("a",v4),("b",v8)])=H9 at*
  sleep 1
  refine bN b9 T.cW T.vh rfl ?_
  refine⟨_,rfl,hsp,fun H10 v10 s10 c10=>?_⟩
  refine⟨_,Rb50.SINGLE,23,31,v10,_,rfl,T.toTxt.single _,cF,c10,.of_ok cs2 (by decide),fun H11 v11 s11 c11=>?_⟩
  have s911:=s10.trans s11
  have a11:=s911 _ _ a9
  refine cU (fs':=[("factor",fv),("a",v4),("b",v8),("g",v11)]) a11 T.cP T.pG ?l rfl ?_
  case l=>exact Nat.le_of_ble_eq_true rfl
  have k12:cz (fun b=>b=a) H11 (upd H11 a (.ins G.CP dx [("factor",fv),("a",v4),("b",v8),("g",v11)])):=cz.upd rfl
  have f12:∀{v:V} {n:Num},bI K H11 v n→bI K (upd H11 a (.ins G.CP dx [("factor",fv),("a",v4),("b",v8),("g",v11)])) v n:=fun h=>dM k12 h (jD a11)
  have a12:=aF (H:=H11) (a:=a) (o:=.ins G.CP dx [("factor",fv),("a",v4),("b",v8),("g",v11)])
  have b12:=k12 _ _ hne (s911 _ _ b9)
  have y12:=f12 (y9.same s911)
  have z12:=f12 (z9.same s911)
  have u12:=f12 (u9.same s911)
  have t12:=f12 c11
  have k112:=(k19.trans (aH.keep s911)).trans k12
  clear f12
  generalize upd H11 a (.ins G.CP dx [("factor",fv),("a",v4),("b",v8),("g",v11)])=H12 at*
  sleep 1
  refine bN b12 T.cW T.vh rfl ?_
  refine⟨_,rfl,hsp,fun H13 v13 s13 c13=>?_⟩
  refine⟨_,Rb50.SINGLE,23,31,v13,_,rfl,T.toTxt.single _,cF,c13,.of_ok ss2 (by decide),fun H14 v14 s14 c14=>?_⟩
  have s1214:=s13.trans s14
  have a14:=s1214 _ _ a12
  refine cU (fs':=pF fv v4 v8 v11 v14) a14 T.cP T.pH ?l rfl ?_
  case l=>exact Nat.le_of_ble_eq_true rfl
  have k15:cz (fun b=>b=a) H14 (upd H14 a (.ins G.CP dx (pF fv v4 v8 v11 v14))):=cz.upd rfl
  have f15:∀{v:V} {n:Num},bI K H14 v n→bI K (upd H14 a (.ins G.CP dx (pF fv v4 v8 v11 v14))) v n:=fun h=>dM k15 h (jD a14)
  exact q _ ((k112.trans (aH.keep s1214)).trans k15) ⟨dx,fv,v4,v8,v11,v14,aF,f15 (y12.same s1214),f15 (z12.same s1214),f15 (u12.same s1214),f15 (t12.same s1214),f15 c14⟩
end
end TB
end
noncomputable section
namespace TB
open PySem PySem.Spec PyProof.Rows L2 TM
section
variable{P:Program}{w:World}{K:PySem.W.Frag}{mg:Str→Option Value}{base:Heap}{G:Gs}
structure Nh(p:eB):Prop where
 a:NB p.a
 b:NB p.b
 g:NB p.g
 h:NB p.h
 ag:NB (bC Rb50.SINGLE p.a p.g)
 bh:NB (bC Rb50.SINGLE p.b p.h)
 bg:NB (bC Rb50.SINGLE p.b p.g)
 ah:NB (bC Rb50.SINGLE p.a p.h)
theorem MZ{p:eB}{x:Rb50.Hand}{L:Rat}(h:tR p x L)(hL:1≤L)(hL2:L≤2^(96:Int)):Nh p:=by
 obtain⟨⟨g1,g2⟩,⟨k1,k2⟩⟩:=h.turn.le
 have qa:=fW (rv p.a)
 have qb:=fW (rv p.b)
 have hl:=h.pair.len
 obtain⟨a1,a2⟩:=jg (a:=rv p.a) (L:=L) (by grind) (by grind)
 obtain⟨b1,b2⟩:=jg (a:=rv p.b) (L:=L) (by grind) (by grind)
 have t:=h.turn
 have r:=h.pair
 exact⟨.cY r.oa (by decide),.cY r.ob (by decide),.cY t.og (by decide),.cY t.oh (by decide),
  .cY (i6 r.ra t.rg r.oa t.pg hL hL2 a1 a2 g1 g2).2.1 (by decide),.cY (i6 r.rb t.rh r.ob t.ph hL hL2 b1 b2 k1 k2).2.1 (by decide),
  .cY (i6 r.rb t.rg r.ob t.pg hL hL2 b1 b2 g1 g2).2.1 (by decide),.cY (i6 r.ra t.rh r.oa t.ph hL hL2 a1 a2 k1 k2).2.1 (by decide)⟩
def AY(K:PySem.W.Frag)(G:Gs):Sp:=fun vs H Q _=>∃(a:Addr) (p:eB),vs=[.ref a]∧tQ K G H a p∧Nh p∧∀(H':Hp),cz (fun b=>b=a) H H'→tQ K G H' a (gI p)→Q .gh H'
abbrev zB:Stmt:=bJ 84
theorem A9:bz ["pair","a"] ["pair"] (aR zB):=⟨rfl,rfl,rfl,by decide+kernel,rfl,by decide+kernel,by decide+kernel⟩
theorem HM{f:Addr}{fd:FuncData}(F:eX K "go_on" "go_on" zB f fd)(T:Tx K mg G)(h_subtract:di P w K mg base "subtract" 4 ["kind","x","y"] (eY K fD))(h_add:di P w K mg base "add" 3 ["kind","x","y"] (eY K bL))(h_multiply:di P w K mg base "multiply" 3 ["kind","x","y"] (eY K bC)):
  cA P w K mg base eS 5 f fd ["pair"] (AY K G):=by
 refine F.ok A9 (fun vs H Q E h=>?_) (fun cdv A outer s H vs Q E hr h=>?_)
 ·obtain⟨a,p,rfl,_⟩:=h
  rfl
 ·have nd:=A9.nd
  obtain⟨a,p,rfl,hp,go,q⟩:=h
  obtain⟨dx,fv,av,bv,gv,hv,h1,h2,h3,h4,h5,h6⟩:=hp.ex
  refine⟨_,(ai (bB (i:=1) nd rfl (Or.inl rfl) (aj h_subtract (hr.mono (by decide)) rfl (aa (cG rfl T.cu) (aa (aj h_multiply (hr.mono (by decide)) rfl (aa (cG rfl T.cu) (aa (bD (pv 0) rfl) (aa (bD (pv 0) rfl) af)))) (aa (aj h_multiply (hr.mono (by decide)) rfl (aa (cG rfl T.cu) (aa (bD (pv 0) rfl) (aa (bD (pv 0) rfl) af)))) af)))))
   (ai (cy (pv 0) (aj h_add (hr.mono (by decide)) rfl (aa (cG rfl T.cu) (aa (aj h_multiply (hr.mono (by decide)) rfl (aa (cG rfl T.cu) (aa (bD (pv 0) rfl) (aa (bD (pv 0) rfl) af)))) (aa (aj h_multiply (hr.mono (by decide)) rfl (aa (cG rfl T.cu) (aa (bD (pv 0) rfl) (aa (bD (pv 0) rfl) af)))) af)))) rfl)
   (aB (cy (pv 0) (pv 1) rfl)))),?_⟩
  sleep 1
  refine bN h1 T.cP T.pA rfl ?_
  refine bN h1 T.cP T.pG rfl ?_
  refine⟨_,Rb50.SINGLE,23,31,av,gv,_,_,rfl,T.toTxt.single _,cF,h3,h5,go.a,go.g,fun H1 v1 s1 k1=>?_⟩
  refine bN (s1 _ _ h1) T.cP T.pB rfl ?_
  refine bN (s1 _ _ h1) T.cP T.pH rfl ?_
  refine⟨_,Rb50.SINGLE,23,31,bv,hv,_,_,rfl,T.toTxt.single _,cF,h4.same s1,h6.same s1,go.b,go.h,fun H2 v2 s2 k2=>?_⟩
  refine⟨_,Rb50.SINGLE,23,31,v1,v2,_,_,rfl,T.toTxt.single _,cF,k1.same s2,k2,go.ag,go.bh,fun H3 v3 s3 k3=>?_⟩
  have e3:=(s1.trans s2).trans s3
  refine bN (e3 _ _ h1) T.cP T.pB rfl ?_
  refine bN (e3 _ _ h1) T.cP T.pG rfl ?_
  refine⟨_,Rb50.SINGLE,23,31,bv,gv,_,_,rfl,T.toTxt.single _,cF,h4.same e3,h5.same e3,go.b,go.g,fun H4 v4 s4 k4=>?_⟩
  have e4:=e3.trans s4
  refine bN (e4 _ _ h1) T.cP T.pA rfl ?_
  refine bN (e4 _ _ h1) T.cP T.pH rfl ?_
  refine⟨_,Rb50.SINGLE,23,31,av,hv,_,_,rfl,T.toTxt.single _,cF,h3.same e4,h6.same e4,go.a,go.h,fun H5 v5 s5 k5=>?_⟩
  refine⟨_,Rb50.SINGLE,23,31,v4,v5,_,_,rfl,T.toTxt.single _,cF,k4.same s5,k5,go.bg,go.ah,fun H6 v6 s6 k6=>?_⟩
  have e6:=(e4.trans s5).trans s6
  have k3':=((k3.same s4).same s5).same s6
  refine cU (fs':=pF fv av v6 gv hv) (e6 _ _ h1) T.cP T.pB ?l rfl ?_
  case l=>exact Nat.le_of_ble_eq_true rfl
  sleep 1
  refine cU (fs':=pF fv v3 v6 gv hv) aF T.cP T.pA ?l rfl ?_
  case l=>exact Nat.le_of_ble_eq_true rfl
  rw[eF]
  have kk:cz (fun b=>b=a) H6 (upd H6 a (.ins G.CP dx (pF fv v3 v6 gv hv))):=cz.upd rfl
  have ff:∀{v:V} {n:Num},bI K H6 v n→bI K (upd H6 a (.ins G.CP dx (pF fv v3 v6 gv hv))) v n:=fun h=>dM kk h (jD (e6 _ _ h1))
  exact q _ ((aH.keep e6).trans kk) ⟨dx,fv,v3,v6,gv,hv,aF,ff (h2.same e6),ff k3',ff k6,ff (h5.same e6),ff (h6.same e6)⟩
def eE(K:PySem.W.Frag)(G:Gs)(H:Hp)(as:List Addr)(ps:List eB):Prop:=Paired (tQ K G H) as ps
theorem JJ:bC Rb50.SINGLE z0 z0=z0:=by decide+kernel
theorem E6{ps:List eB}{j:Nat}(h:ps.length≤j):nL ps j=z0:=by
 unfold nL
 rw[List.getD_eq_getElem?_getD,List.getElem?_eq_none h]
 exact JJ
theorem NJ(c:Nat)(h:c≤100):Oa 0 ((4*c:Nat):Int) 4 c:=by
 refine⟨by decide,by decide,?_,?_⟩
 ·have:∀c:Nat,c≤100→Builtin.Range.small 0 ((4*c:Nat):Int) 4=true:=by decide+kernel
  exact this c h
 ·have:∀c:Nat,c≤100→Builtin.Range.rangeSize 0 ((4*c:Nat):Int) 4=c:=by decide+kernel
  exact this c h
def pS(K:PySem.W.Frag)(G:Gs):Sp:=fun vs H Q _=>∃(mv:V) (pp:Addr) (as:List Addr) (ps:List eB) (xs:List Rb50.Hand) (m:Num) (x:Rb50.F) (L:Rat),vs=[mv,.ref pp]∧bI K H mv m∧Rep Rb50.SINGLE m x∧Ok Rb50.SINGLE m 105∧H pp=some (.lst (as.map V.ref))∧eE K G H as ps∧dZ L ps xs∧ps.length≤64∧
 ∀(H':Hp) (v:V),aH H H'→bI K H' v (mR m ps)→Q v H'
abbrev mh:Stmt:=bJ 85
theorem pU:bz ["mean","pairs","products","pair","total","at","former","latter"] ["mean","pairs"] (aR mh):=⟨rfl,rfl,rfl,by decide+kernel,rfl,by decide+kernel,by decide+kernel⟩
theorem xX{f:Addr}{fd:FuncData}(F:eX K "row_height" "row_height" mh f fd)(T:Tx K mg G)(h_multiply:di P w K mg base "multiply" 3 ["kind","x","y"] (eY K bC))(h_add:di P w K mg base "add" 3 ["kind","x","y"] (eY K bL)):
  cA P w K mg base eS 4 f fd ["mean","pairs"] (pS K G):=by
 refine F.ok pU (fun vs H Q E h=>?_) (fun cdv A outer s H vs Q E hr h=>?_)
 ·obtain⟨mv,pp,as,ps,xs,m,x,L,rfl,_⟩:=h
  rfl
 ·have nd:=pU.nd
  obtain⟨mv,pp,as,ps,xs,m,x,L,rfl,hm,rm,om,hpp,hps,hands,hlen,q⟩:=h
  have hal:as.length=ps.length:=Paired.length hps
  refine⟨_,(ai (lH (i:=2) (own:=[("pair",3)]) rfl nd rfl rfl rfl (gK (pv 1)) (fR rfl) (fun _ _ _ _ _=>dJ (i:=3) nd rfl (Or.inl rfl)) (fun _ _ _ _ _=>gJ) (fun _ _ _ _ _=>(aj h_multiply (hr.mono (by decide)) rfl (aa (cG rfl T.cu) (aa (zQ (K:=K) (pv 3) rfl rfl) (aa (zQ (K:=K) (pv 3) rfl rfl) af))))))
   (ai (nI PassesOwn.never (bZ uf (bu gS (cE fk (by rfl) T.gZ iD (aa (pv 2) af)) (bw rfl T.rO)) az (cK _))
    (aB (fK (nQ PySem.F.plainAttrs_list PySem.F.slot_list_append PySem.F.type_list_append gn (pv 2) (aa (cG rfl T.oV) af)))))
   (ai (bB (i:=4) nd rfl (Or.inl rfl) (pv 0))
   (ai (jq PassesOwn.never rfl (E8 rfl T.jE (aa az (aa (cE fk (by rfl) T.gZ iD (aa (pv 2) af)) (aa (bw rfl T.rO) af)))) (dJ (i:=5) nd rfl (Or.inl rfl))
    (ai (bB (i:=6) nd rfl (Or.inl rfl) (aj h_add (hr.mono (by decide)) rfl (aa (cG rfl T.cu) (aa (bq bE (pv 2) (pv 5) (fun _ _=>rfl)) (aa (bq bE (pv 2) (bu cT (pv 5) az) (fun _ _=>rfl)) af)))))
    (ai (bB (i:=7) nd rfl (Or.inl rfl) (aj h_add (hr.mono (by decide)) rfl (aa (cG rfl T.cu) (aa (bq bE (pv 2) (bu cT (pv 5) az) (fun _ _=>rfl)) (aa (bq bE (pv 2) (bu cT (pv 5) az) (fun _ _=>rfl)) af)))))
    (aB (bB (i:=4) nd rfl (Or.inl rfl) (aj h_add (hr.mono (by decide)) rfl (aa (cG rfl T.cu) (aa (pv 4) (aa (aj h_add (hr.mono (by decide)) rfl (aa (cG rfl T.cu) (aa (pv 6) (aa (pv 7) af)))) af)))))))))
   (aB (bA (pv 4))))))),?_⟩
  sleep 1
  refine⟨_,rfl,pp,rfl,⟨_,dY.of hpp⟩,fun D hD=>?_⟩
  refine rP (K:=K) (xs:=as.map V.ref) hD (dY.of hpp) (by rw[List.length_map];exact Nat.lt_of_le_of_lt (m:=64) (by lia) (by decide)) (fun i y H'=>bI K H' y (nL ps i)) (fun i y Ha Hb hz k r=>dM k r (lN hz)) ?_ ?_
  ·intro i v H' Q' hv s1 hQ
   rw[List.getElem?_map]at hv
   obtain⟨a,ha,rfl⟩:∃a,as[i]?=some a∧V.ref a=v:=by
    cases hy:as[i]? with
    |none=>rw[hy]at hv;cases hv
    |some a=>rw[hy]at hv;exact⟨a,rfl,Option.some.inj hv⟩
   obtain⟨p,hp,hpa⟩:=Paired.get' hps ha
   obtain⟨dx,fv,av,bv,gv,hv,g1,g2,g3,_⟩:=(hpa.same s1).ex
   have pa:=wC hands i
   rw[List.getD_eq_getElem?_getD,hp]at pa
   simp only[aq,ak,aI,aG,bQ,tC]
   refine⟨_,rfl,bN g1 T.cP T.zR rfl ?_⟩
   refine⟨_,rfl,bN g1 T.cP T.pA rfl ?_⟩
   refine⟨_,Rb50.SINGLE,23,31,fv,av,_,_,rfl,T.toTxt.single _,cF,g2,g3,.cY pa.of (by decide),.cY pa.oa (by decide),fun H2 v2 s2 k2=>hQ v2 H2 s2 ?_⟩
   unfold nL
   rw[List.getD_eq_getElem?_getD,hp]
   exact k2
  ·intro ys H1 hy hyl s1 hR
   rw[List.length_map,hal]at hyl
   refine mY (fun σ H'=>σ=[some mv,some (.ref pp),some (.ref D),none,none,none,none,none]∧∃ys,H' D=some (.lst ys)∧ps.length≤ys.length∧ys.length≤4*((ps.length+3) / 4)∧aH H H'∧∀(j:Nat) y,ys[j]?=some y→bI K H' y (nL ps j))
    (fun σ H'=>match H' D with|some (.lst ys)=>4*((ps.length+3) / 4) - ys.length|_=>0) ⟨rfl,ys,hy,by lia,by lia,s1,hR⟩ ?_ ?_
   ·rintro σ H' ⟨rfl,ys,hy,hy1,hy2,s2,hR⟩
    refine⟨_,rfl,_,rfl,_,.inl ⟨_,dY.of hy,rfl⟩,?_⟩
    refine⟨_,_,rfl,rfl,(show(0:Int)<4 by decide),_,_,rfl,rfl,_,rfl,?_⟩
    show(if decide ((0:Int)<(ys.length:Int)%4)=true then _ else _)
    by_cases c:(0:Int)<(ys.length:Int)%4
    ·rw[if_pos (decide_eq_true c)]
     sleep 1
     refine⟨⟨_,dY.of hy⟩,fT hy (Nat.lt_of_le_of_lt (m:=68) (by lia) (by decide)) ?_⟩
     refine⟨⟨ys++[.ref G.aNO],aF,by rw[List.length_append];lia,by rw[List.length_append];simp;lia,aH.put s2 hD,?_⟩,?_⟩
     ·intro j y e
      have kk:cz (fun b=>b=D) H' (upd H' D (.lst (ys++[.ref G.aNO]))):=cz.upd rfl
      by_cases cj:j<ys.length
      ·rw[List.getElem?_append_left cj]at e
       exact dM kk (hR j y e) (lN ⟨_,hy⟩)
      ·have hj:j=ys.length:=by
        have:=(List.getElem?_eq_some_iff.mp e).1
        rw[List.length_append]at this
        simp at this
        lia
       subst hj
       rw[List.getElem?_append_right (Nat.le_refl _),Nat.sub_self]at e
       simp at e
       subst e
       rw[E6 hy1]
       exact⟨_,rfl,T.oN.at _⟩
     ·rw[aF,hy]
      simp
      lia
    ·rw[if_neg (by rw[decide_eq_false c];decide)]
     have hfull:ys.length=4*((ps.length+3) / 4):=by lia
     have hrg:Oa 0 (ys.length:Int) 4 ((ps.length+3) / 4):=by rw[hfull];exact NJ _ (by lia)
     sleep 1
     refine⟨_,rfl,_,rfl,_,.inl ⟨_,dY.of hy,rfl⟩,_,_,_,_,rfl,hrg,?_⟩
     refine C9 (fun i σ H2=>∃(t:V) (v5 v6 v7:Option V),σ=[some mv,some (.ref pp),some (.ref D),none,some t,v5,v6,v7]∧aH H' H2∧bI K H2 t ((List.range i).foldl (fun a i=>bL Rb50.SINGLE a (yF ps i)) m))
      ⟨mv,none,none,none,rfl,aH.refl _,hm.same s2⟩ ?_ ?_
     ·rintro i σ H2 hi ⟨t,v5,v6,v7,rfl,s3,ht⟩
      have ei:(0:Int)+(i:Int)*4=((4*i:Nat):Int):=by lia
      rw[ei]
      have hy':=dY.of (K:=K) (s3 _ _ hy)
      obtain⟨y0,hy0⟩:∃y,ys[4*i]?=some y:=⟨_,List.getElem?_eq_getElem (by lia)⟩
      obtain⟨y1,hy1'⟩:∃y,ys[4*i+1]?=some y:=⟨_,List.getElem?_eq_getElem (by lia)⟩
      obtain⟨y2,hy2'⟩:∃y,ys[4*i+2]?=some y:=⟨_,List.getElem?_eq_getElem (by lia)⟩
      obtain⟨y3,hy3'⟩:∃y,ys[4*i+3]?=some y:=⟨_,List.getElem?_eq_getElem (by lia)⟩
      have n0:=(hR _ _ hy0).same s3
      have n1:=(hR _ _ hy1').same s3
      have n2:=(hR _ _ hy2').same s3
      have n3:=(hR _ _ hy3').same s3
      obtain⟨a1,a2⟩:=ku hands (4*i)
      obtain⟨b1,b2⟩:=ku hands (4*i+1)
      obtain⟨c1,c2⟩:=ku hands (4*i+2)
      obtain⟨d1,d2⟩:=ku hands (4*i+3)
      obtain⟨e1,e2⟩:=jb a1 b1 a2 b2 (by decide)
      obtain⟨f1,f2⟩:=jb c1 d1 c2 d2 (by decide)
      obtain⟨g1,g2⟩:=En hands i
      have tk:=sV hands (List.range i) rm om (by decide) (by rw[List.length_range];lia)
      have hlr:(List.range i).length=i:=List.length_range
      sleep 1
      refine bM hy' (eV hy0) ?_
      refine bM hy' (eV (j:=4*i+1) hy1') ?_
      refine⟨_,Rb50.SINGLE,23,31,y0,y1,_,_,rfl,T.toTxt.single _,cF,n0,n1,.cY a2 (by decide),.cY b2 (by decide),fun H3 v3 s4 k3=>?_⟩
      have hy'':=dY.of (K:=K) (s4 _ _ (s3 _ _ hy))
      refine bM hy'' (eV (j:=4*i+2) hy2') ?_
      refine bM hy'' (eV (j:=4*i+3) hy3') ?_
      refine⟨_,Rb50.SINGLE,23,31,y2,y3,_,_,rfl,T.toTxt.single _,cF,n2.same s4,n3.same s4,.cY c2 (by decide),.cY d2 (by decide),fun H4 v4 s5 k4=>?_⟩
      refine⟨_,Rb50.SINGLE,23,31,v3,v4,_,_,rfl,T.toTxt.single _,cF,k3.same s5,k4,.cY e2 (by decide),.cY f2 (by decide),fun H5 v5 s6 k5=>?_⟩
      have s36:=(s4.trans s5).trans s6
      refine⟨_,Rb50.SINGLE,23,31,t,v5,_,_,rfl,T.toTxt.single _,cF,ht.same s36,k5,.cY tk.2 (by rw[hlr];lia),.cY g2 (by decide),fun H6 v6 s7 k6=>?_⟩
      refine⟨(s3.trans s36).trans s7,?_⟩
      rw[List.range_succ,List.foldl_append]
      exact k6
     ·rintro σ H2 ⟨t,v5,v6,v7,rfl,s3,ht⟩
      exact⟨_,rfl,q _ _ (s2.trans s3) ht⟩
   ·intro σ H1 Q1 Q2 hQ h
    obtain⟨v,hv,x,hx,n,hl,i,j,e1,e2,e3,i',j',e4,e5,k,e6,h7⟩:=h
    exact⟨v,hv,x,hx,n,hl,i,j,e1,e2,e3,i',j',e4,e5,k,e6,hQ _ _ h7⟩
def fN(l:List eB):Nat→List eB
 |0=>l
 |n+1=>(fN l n).map gI
theorem xq(l:List eB):∀n,fN (l.map gI) n=fN l (n+1)
 |0=>rfl
 |n+1=>by show(fN (l.map gI) n).map gI=_;rw[xq l n];rfl
theorem yz(m:Num):∀(n:Nat) (l:List eB),wj m n l=(List.range n).map fun j=>mR m (fN l j)
 |0,l=>rfl
 |n+1,l=>by
  show mR m l::wj m n (l.map gI)=_
  rw[yz m n,List.range_succ_eq_map,List.map_cons,List.map_map]
  congr 1
  apply List.map_congr_left
  intro j _
  show mR m (fN (l.map gI) j)=mR m (fN l (j+1))
  rw[xq]
def Oe(l:List Rb50.Hand):Nat→List Rb50.Hand
 |0=>l
 |n+1=>(Oe l n).map Rb50.turned
theorem yR{ps:List eB}{xs:List Rb50.Hand}(h:dZ (Lg 0) ps xs):∀n,n≤10000→dZ (Lg n) (fN ps n) (Oe xs n)
 |0,_=>h
 |n+1,hn=>(yR h n (by lia)).turned (by lia)
theorem xr(l:List eB):∀n,(fN l n).length=l.length
 |0=>rfl
 |n+1=>by show((fN l n).map gI).length=_;rw[List.length_map,xr l n]
theorem dZ.get{L:Rat}{ps:List eB}{xs:List Rb50.Hand}(h:dZ L ps xs):∀{i:Nat} {p:eB},ps[i]?=some p→∃x,tR p x L:=by
 induction h with
 |nil=>intro i p e;simp at e
 |cons r _ ih=>
  intro i p e
  cases i with
  |zero=>simp at e;subst e;exact⟨_,r⟩
  |succ i=>exact ih (by simpa using e)
theorem eE.keep{S:Addr→Prop}{H H':Hp}(k:cz S H H')(m:uz S H):∀{as:List Addr} {ps:List eB},eE K G H as ps→(∀a∈as,¬S a)→eE K G H' as ps
 |_,_,.nil,_=>.nil
 |_,_,.cons r t,n=>.cons (r.keep k m (n _ List.mem_cons_self)) (eE.keep k m t fun a ha=>n a (List.mem_cons_of_mem _ ha))
theorem eE.same{H H':Hp}(e:aH H H'){as:List Addr}{ps:List eB}(h:eE K G H as ps):eE K G H' as ps:=eE.keep (S:=fun _=>False) (aH.keep e) (fun _ _ z=>z.elim) h fun _ _ z=>z
theorem eE.ins{H:Hp}{as:List Addr}{ps:List eB}(h:eE K G H as ps){b:Addr}(hb:b∈as):∃C dx fs,H b=some (.ins C dx fs):=by
 obtain⟨i,hi⟩:=List.getElem?_of_mem hb
 obtain⟨l,_,r⟩:=Paired.get' h hi
 obtain⟨dx,fv,av,bv,gv,hv,h1,_⟩:=r.ex
 exact⟨_,_,_,h1⟩
theorem eE.set{H H':Hp}{a:Addr}{p':eB}(k:cz (fun b=>b=a) H H')(m:uz (fun b=>b=a) H)(hl:tQ K G H' a p'):∀{as:List Addr} {ps:List eB} {i:Nat},as.Nodup→eE K G H as ps→as[i]?=some a→eE K G H' as (ps.set i p')
 |_,_,i,_,.nil,e=>by simp at e
 |b::as,_,0,nd,.cons r t,e=>by
  simp at e
  subst e
  rw[List.nodup_cons]at nd
  exact .cons hl (eE.keep k m t fun c hc z=>nd.1 (z▸hc))
 |b::as,_,i+1,nd,.cons r t,e=>by
  rw[List.nodup_cons]at nd
  have e':as[i]?=some a:=by simpa using e
  have ha:a∈as:=List.mem_of_getElem? e'
  exact .cons (r.keep k m fun z=>nd.1 (z▸ha)) (eE.set k m hl nd.2 t e')
theorem iU{α β:Type}{R:α→β→Prop}:∀{l:List α} {m:List β} {l':List α} {m':List β},Paired R l m→Paired R l' m'→Paired R (l++l') (m++m')
 |_,_,_,_,.nil,h=>h
 |_,_,_,_,.cons r t,h=>.cons r (iU t h)
theorem yQ{H:Hp}:∀{vs:List V} {ns:List Num},vs.length=ns.length→(∀(j:Nat) v n,vs[j]?=some v→ns[j]?=some n→bI K H v n)→oH K H vs ns
 |[],[],_,_=>.nil
 |v::vs,n::ns,hl,h=>.cons (h 0 v n rfl rfl) (yQ (by simpa using hl) fun j a b h1 h2=>h (j+1) a b (by simpa using h1) (by simpa using h2))
def qi(K:PySem.W.Frag)(G:Gs):Sp:=fun vs H Q _=>∃(a la:Addr) (x:Rb50.Harbour) (m:Int) (n:Nat),vs=[.ref a,.int m,.int n]∧lX K G H a la x∧vd x∧xP m∧n≤10000∧
 ∀(H':Hp) (p:Addr) (ys:List V),aH H H'→H p=none→H' p=some (.lst ys)→oH K H' ys (Bo x m n)→Q (.ref p) H'
abbrev sQ:Stmt:=bJ 86
theorem vG:bz ["sea","minute","n","mean","pairs","wave","found","pair"] ["sea","minute","n"] (aR sQ):=⟨rfl,rfl,rfl,by decide+kernel,rfl,by decide+kernel,by decide+kernel⟩
theorem CU{f:Addr}{fd:FuncData}(F:eX K "heights" "heights" sQ f fd)(T:Tx K mg G)(h_single_metres:di P w K mg base "single_metres" 5 ["height"] (iF K))(h_of_whole:di P w K mg base "of_whole" 1 ["value"] (fX K))(c_Pair:qC P w K mg base "Pair" G.CP 7 ["self","wave","minute"] (zu K G))(h_row_height:di P w K mg base "row_height" 4 ["mean","pairs"] (pS K G))(h_go_on:di P w K mg base "go_on" 5 ["pair"] (AY K G)):
  cA P w K mg base eS 9 f fd ["sea","minute","n"] (qi K G):=by
 refine F.ok vG (fun vs H Q E h=>?_) (fun cdv A outer s H vs Q E hr h=>?_)
 ·obtain⟨a,la,x,m,n,rfl,_⟩:=h
  rfl
 ·have nd:=vG.nd
  obtain⟨a,la,x,m,n,rfl,hs,fQ,hm,hn,q⟩:=h
  obtain⟨dx,ws,sv,h1,h2,h3,h4⟩:=hs.ex
  have hlen:=fQ.ok.len
  have hwl:ws.length=x.waves.length:=Paired.length h3
  obtain⟨i1,i2⟩:=fM (z:=x.mean) (c:=31) (Nat.le_trans fQ.ok.mean (by decide)) (by decide) (by decide)
  obtain⟨m1,m2⟩:=fU i1 i2 (by decide) (by decide)
  refine⟨_,(ai (bB (i:=3) nd rfl (Or.inl rfl) (aj h_single_metres (hr.mono (by decide)) rfl (aa (aj h_of_whole (hr.mono (by decide)) rfl (aa (bD (pv 0) rfl) af)) af)))
   (ai (lH (i:=4) (own:=[("wave",5)]) rfl nd rfl rfl rfl (gK (bD (pv 0) rfl)) (fR rfl) (fun _ _ _ _ _=>dJ (i:=5) nd rfl (Or.inl rfl)) (fun _ _ _ _ _=>gJ) (fun _ _ _ _ _=>(lK c_Pair (hr.mono (by decide)) rfl (aa (pv 5) (aa (pv 1) af)))))
   (ai (bB (i:=6) nd rfl (Or.inl rfl) (cC af))
   (ai (nI PassesOwn.never (bZ lM (cE fk (by rfl) T.gZ iD (aa (pv 6) af)) (pv 2) (cK _))
    (ai (fK (nQ PySem.F.plainAttrs_list PySem.F.slot_list_append PySem.F.type_list_append gn (pv 6) (aa (aj h_row_height (hr.mono (by decide)) rfl (aa (pv 3) (aa (pv 4) af))) af)))
    (aB (jq PassesOwn.never rfl (gK (pv 4)) (dJ (i:=7) nd rfl (Or.inl rfl))
     (aB (fK (aj h_go_on (hr.mono (by decide)) rfl (aa (pv 7) af))))))))
   (aB (bA (pv 6))))))),?_⟩
  sleep 1
  refine bN h1 T.cS T.Bd rfl ?_
  refine⟨_,rfl,fun H1 v1 s1 k1=>?_⟩
  refine⟨v1,_,0,rfl,k1,.of_ok i2 (by decide),.of_ok m2 (by decide),fun H2 v2 s2 k2=>?_⟩
  have s12:=s1.trans s2
  refine⟨_,rfl,bN (s12 _ _ h1) T.cS T.vX rfl ?_⟩
  refine⟨la,rfl,⟨_,dY.of (s12 _ _ h2)⟩,fun D hD=>?_⟩
  have s2w:∀{H':Hp},aH H2 H'→Paired (j5 K G H') ws x.waves:=fun e=>Paired.same (fun _ _ r=>r.same (s12.trans e)) h3
  refine Ef (K:=K) (a:=la) (xs:=ws) (fun i H'=>∃as:List Addr,H' D=some (.lst (as.map V.ref))∧as.length=i∧as.Nodup∧aH H2 H'∧eE K G H' as ((x.waves.take i).map fun w=>lJ w m)∧∀b∈as,H2 b=none)
   ⟨[],aF,rfl,List.nodup_nil,aH.upd hD,.nil,fun b hb=>by simp at hb⟩ (fun i H' _ ⟨_,_,_,_,s3,_⟩=>dY.of (s3 _ _ (s12 _ _ h2))) ?_ ?_
  ·rintro i wv H' hi ⟨as,g1,g2,g3,g4,g5,g6⟩
   obtain⟨y,hy,hyw⟩:=Paired.get' (s2w g4) hi
   have hmem:y∈x.waves:=List.mem_of_getElem? hy
   have wok:=fQ.ok.waves y hmem
   have hil:i<ws.length:=(List.getElem?_eq_some_iff.mp hi).1
   refine⟨rfl,?_⟩
   simp only[AR,if_true]
   refine⟨_,rfl,_,rfl,fun b bx hb hbx hne=>?_⟩
   have sm:aH H' (upd (upd H' bx (.own b)) b (.ins G.CP bx [])):=aH.made hb hbx
   refine⟨b,bx,wv,y,m,rfl,aF,hyw.same sm,wok,(fQ.wv y hmem).2,hm,fun H5 k5 p5=>⟨rfl,as.map V.ref,?_,?_,?_⟩⟩
   ·have hDb:D≠b:=fun z=>by rw[z,hb]at g1;cases g1
    exact k5 _ _ hDb (sm _ _ g1)
   ·rw[List.length_map,g2]
    exact Nat.lt_of_lt_of_le (m:=64) (by lia) (by decide)
   ·have hDb:D≠b:=fun z=>by rw[z,hb]at g1;cases g1
    have hbn:b∉as:=fun z=>by obtain⟨_,_,_,e⟩:=eE.ins g5 z;rw[hb]at e;cases e
    have h5D:=k5 _ _ hDb (sm _ _ g1)
    have same5:aH H' H5:=fun c o e=>k5 c o (cO e hb) (sm _ _ e)
    have kD:cz (fun c=>c=D) H5 (upd H5 D (.lst (as.map V.ref++[.ref b]))):=cz.upd rfl
    have ntD:uz (fun c=>c=D) H5:=lN ⟨_,h5D⟩
    refine⟨as++[b],?_,?_,?_,?_,?_,?_⟩
    ·rw[aF,List.map_append];rfl
    ·rw[List.length_append,g2];rfl
    ·rw[List.nodup_append]
     refine⟨g3,List.nodup_cons.mpr ⟨by simp,List.nodup_nil⟩,?_⟩
     intro c hc d hd
     simp at hd
     subst hd
     exact fun z=>hbn (z▸hc)
    ·exact aH.put (g4.trans same5) hD
    ·have e1:(x.waves.take (i+1)).map (fun w=>lJ w m)=(x.waves.take i).map (fun w=>lJ w m)++[lJ y m]:=by
      rw[List.take_succ,hy,List.map_append];rfl
     rw[e1]
     have old:eE K G (upd H5 D (.lst (as.map V.ref++[.ref b]))) as ((x.waves.take i).map fun w=>lJ w m):=
      eE.keep kD ntD (eE.same same5 g5) fun c hc z=>by
       obtain⟨_,_,_,e⟩:=eE.ins g5 hc
       rw[z,g1]at e
       cases e
     have new:tQ K G (upd H5 D (.lst (as.map V.ref++[.ref b]))) b (lJ y m):=p5.keep kD ntD fun z=>hDb z.symm
     exact iU old (.cons new .nil)
    ·intro c hc
     rcases List.mem_append.mp hc with hc|hc
     ·exact g6 c hc
     ·simp at hc
      subst hc
      exact aH.free g4 hb
  ·rintro H3 ⟨as,g1,g2,g3,g4,g5,g6⟩ p hp
   rw[hwl,List.take_length]at g5
   have hps0:=xm m (l:=x.waves) fun w hw=>⟨fQ.ok.waves w hw,(fQ.wv w hw).2⟩
   have hpsl:(x.waves.map fun w=>lJ w m).length≤64:=by rw[List.length_map];exact hlen
   obtain⟨mo1,mo2⟩:=D9 (z:=x.mean) fQ.ok.mean
   have hrow:Bo x m n=(List.range n).map fun j=>mR (pY x.mean) (fN (x.waves.map fun w=>lJ w m) j):=yz _ _ _
   rw[hrow]at q
   revert g5 hps0 hpsl q
   generalize (x.waves.map fun w=>lJ w m)=ps
   generalize (x.waves.map fun w=>Rb50.hand w m)=xs
   intro q g5 hps0 hpsl
   have hal:as.length=ps.length:=Paired.length g5
   have s3:=s12.trans g4
   have fH:∀b∈as,H b=none:=fun b hb=>aH.free s12 (g6 b hb)
   have hDH:H D=none:=aH.free s12 hD
   have hpH:H p=none:=aH.free s3 hp
   have hpD:p≠D:=fun z=>by rw[z,g1]at hp;cases hp
   have hpas:p∉as:=fun z=>by obtain⟨_,_,_,e⟩:=eE.ins g5 z;rw[hp]at e;cases e
   have hDas:D∉as:=fun z=>by obtain⟨_,_,_,e⟩:=eE.ins g5 z;rw[g1]at e;cases e
   have sp:aH H3 (upd H3 p (.lst [])):=aH.upd hp
   have mean2:bI K H2 v2 (pY x.mean):=k2
   refine mY (fun σ H'=>∃(i:Nat) (v7:Option V) (ys:List V),i≤n∧σ=[some (.ref a),some (.int m),some (.int n),some v2,some (.ref D),none,some (.ref p),v7]∧H' p=some (.lst ys)∧ys.length=i∧aH H H'∧H' D=some (.lst (as.map V.ref))∧eE K G H' as (fN ps i)∧(∀(j:Nat) y,ys[j]?=some y→bI K H' y (mR (pY x.mean) (fN ps j)))∧bI K H' v2 (pY x.mean))
    (fun σ H'=>match H' p with|some (.lst ys)=>n - ys.length|_=>0)
    ⟨0,none,[],Nat.zero_le _,rfl,aF,rfl,s3.trans sp,sp _ _ g1,eE.same sp g5,fun j y e=>by simp at e,(mean2.same g4).same sp⟩ ?_ ?_
   ·rintro σ H' ⟨i,v7,ys,hi,rfl,e1,e2,e3,e4,e5,e6,e7⟩
    refine⟨_,rfl,_,rfl,_,.inl ⟨_,dY.of e1,rfl⟩,?_⟩
    refine⟨_,rfl,_,_,rfl,rfl,_,rfl,?_⟩
    rw[e2]
    show(if decide ((i:Int)<(n:Int))=true then _ else _)
    by_cases c:i<n
    ·rw[if_pos (decide_eq_true (show(i:Int)<(n:Int) by lia))]
     have hHi:=yR hps0 i (by lia)
     have hni:=xr ps i
     sleep 1
     refine⟨⟨_,dY.of e1⟩,?_⟩
     refine⟨v2,D,as,fN ps i,_,pY x.mean,_,Lg i,rfl,e7,mo1,mo2,e4,e5,hHi,by lia,fun H4 v4 s4 k4=>?_⟩
     refine fT (s4 _ _ e1) (by rw[e2];exact Nat.lt_of_lt_of_le (m:=10000) (by lia) (by decide)) ?_
     have kp:cz (fun b=>b=p) H4 (upd H4 p (.lst (ys++[v4]))):=cz.upd rfl
     have ntp:uz (fun b=>b=p) H4:=lN ⟨_,s4 _ _ e1⟩
     have e5':eE K G (upd H4 p (.lst (ys++[v4]))) as (fN ps i):=eE.keep kp ntp (eE.same s4 e5) fun b hb z=>hpas (z▸hb)
     have e4':=kp _ _ (fun z=>hpD z.symm) (s4 _ _ e4)
     have e1':upd H4 p (.lst (ys++[v4])) p=some (.lst (ys++[v4])):=aF
     have e3':aH H (upd H4 p (.lst (ys++[v4]))):=aH.put (e3.trans s4) hpH
     have e7':bI K (upd H4 p (.lst (ys++[v4]))) v2 (pY x.mean):=dM kp (e7.same s4) ntp
     have e6':∀(j:Nat) y,(ys++[v4])[j]?=some y→bI K (upd H4 p (.lst (ys++[v4]))) y (mR (pY x.mean) (fN ps j)):=by
      intro j y e
      by_cases cj:j<ys.length
      ·rw[List.getElem?_append_left cj]at e
       exact dM kp ((e6 j y e).same s4) ntp
      ·have hj:j=ys.length:=by
        have:=(List.getElem?_eq_some_iff.mp e).1
        rw[List.length_append]at this
        simp at this
        lia
       subst hj
       rw[List.getElem?_append_right (Nat.le_refl _),Nat.sub_self]at e
       simp at e
       subst e
       rw[e2]
       exact dM kp k4 ntp
     generalize upd H4 p (.lst (ys++[v4]))=H5 at*
     refine⟨_,rfl,D,rfl,⟨_,dY.of e4'⟩,?_⟩
     have nta:uz (fun b=>b∈as) H5:=yL fun b hb=>eE.ins e5' hb
     refine ow (K:=K) (a:=D) (xs:=as.map V.ref) (fun j σ H6=>∃v7:Option V,σ=[some (.ref a),some (.int m),some (.int n),some v2,some (.ref D),none,some (.ref p),v7]∧cz (fun b=>b∈as) H5 H6∧eE K G H6 as (mix gI (fN ps i) j))
      ⟨v7,rfl,fun _ _ _ e=>e,by rw[BG];exact e5'⟩ (fun j σ H6 _ ⟨_,_,k6,_⟩=>dY.of (k6 _ _ hDas e4')) ?_ ?_
     ·rintro j u σ H6 hj ⟨v7,rfl,k6,p6⟩
      rw[List.getElem?_map]at hj
      obtain⟨b,hb,rfl⟩:∃b,as[j]?=some b∧V.ref b=u:=by
       cases hy:as[j]? with
       |none=>rw[hy]at hj;cases hj
       |some b=>rw[hy]at hj;exact⟨b,rfl,Option.some.inj hj⟩
      have hjl:j<as.length:=(List.getElem?_eq_some_iff.mp hb).1
      obtain⟨h,hh⟩:∃h,(fN ps i)[j]?=some h:=⟨_,List.getElem?_eq_getElem (by lia)⟩
      have hbm:b∈as:=List.mem_of_getElem? hb
      have pb:tQ K G H6 b h:=by
       obtain⟨h',z1,z2⟩:=Paired.get' p6 hb
       rw[D7 hh]at z1
       cases z1
       exact z2
      obtain⟨xh,hxh⟩:=dZ.get hHi hh
      simp only[ao,aJ,aq,ak,aI,aG]
      refine⟨_,rfl,?_⟩
      refine⟨b,h,rfl,pb,MZ hxh (Dm i) (Jb (by lia)),fun H7 k7 p7=>?_⟩
      refine⟨_,rfl,k6.trans (k7.mono fun c z=>by rw[z];exact hbm),?_⟩
      rw[←BH hh]
      exact eE.set k7 (yL fun c z=>by rw[z];exact eE.ins p6 hbm) p7 g3 p6 hb
     ·rintro σ H6 ⟨v7,rfl,k6,p6⟩
      refine⟨⟨i+1,by lia,⟨v7,rfl⟩,ys++[v4],k6 _ _ hpas e1',by rw[List.length_append,e2];rfl,?_,k6 _ _ hDas e4',?_,fun j y e=>dM k6 (e6' j y e) nta,dM k6 e7' nta⟩,?_⟩
      ·intro b o e
       exact k6 b o (fun z=>by rw[fH b z]at e;cases e) (e3' b o e)
      ·have hl2:(as.map V.ref).length=(fN ps i).length:=by rw[List.length_map,hal,hni]
       rw[hl2,D8]at p6
       exact p6
      ·rw[k6 _ _ hpas e1',e1]
       simp
       lia
    ·rw[if_neg (by rw[decide_eq_false (show ¬(i:Int)<(n:Int) by lia)];decide)]
     have hin:i=n:=by lia
     refine⟨_,rfl,q H' p ys e3 hpH e1 ?_⟩
     refine yQ (by rw[List.length_map,List.length_range];lia) fun j y u hy hu=>?_
     rw[List.getElem?_map]at hu
     have hjn:j<n:=by have:=(List.getElem?_eq_some_iff.mp hy).1;lia
     rw[List.getElem?_range hjn]at hu
     cases hu
     exact e6 j y hy
   ·intro σ H1 Q1 Q2 hQ h
    obtain⟨v,hv,x',hx,n',hl,u,hu,i,j,e4,e5,k,e6,h7⟩:=h
    exact⟨v,hv,x',hx,n',hl,u,hu,i,j,e4,e5,k,e6,hQ _ _ h7⟩
end
end TB
end
noncomputable section
namespace TB
open PySem PySem.Spec PyProof.Rows L2 TM
section
variable{P:Program}{w:World}{K:PySem.W.Frag}{mg:Str→Option Value}{base:Heap}{G:Gs}
def yE(a b c:Num):Bool:=dH a b&& !dH b c
def E7(a b c:Num):Bool:=dH b a&& !dH c b
def qK(K:PySem.W.Frag)(g:Num→Num→Num→Bool):Sp:=fun vs H Q _=>∃(u v x:V) (a b c:Num),vs=[u,v,x]∧bI K H u a∧bI K H v b∧bI K H x c∧NB a∧NB b∧NB c∧Q (.bl (g a b c)) H
abbrev jl:Stmt:=bJ 87
theorem lB:bz ["before","height","after"] ["before","height","after"] (aR jl):=⟨rfl,rfl,rfl,by decide+kernel,rfl,by decide+kernel,by decide+kernel⟩
theorem tu{f:Addr}{fd:FuncData}(F:eX K "is_high_water" "is_high_water" jl f fd)(T:Tx K mg G)(h_is_below:di P w K mg base "is_below" 2 ["x","y"] (fE K)):
  cA P w K mg base eS 3 f fd ["before","height","after"] (qK K yE):=by
 refine F.ok lB (fun vs H Q E h=>?_) (fun cdv A outer s H vs Q E hr h=>?_)
 ·obtain⟨u,v,x,a,b,c,rfl,_⟩:=h
  rfl
 ·have nd:=lB.nd
  obtain⟨u,v,x,a,b,c,rfl,hu,hv,hx,na,nb,nc,q⟩:=h
  refine⟨_,(aB (bA (CK (aj h_is_below (hr.mono (by decide)) rfl (aa (pv 0) (aa (pv 1) af))) (zO (zP (aj h_is_below (hr.mono (by decide)) rfl (aa (pv 1) (aa (pv 2) af)))))))),?_⟩
  sleep 1
  refine⟨u,v,a,b,rfl,hu,hv,na,nb,?_⟩
  unfold yE at q
  cases h1:dH a b with
  |false=>
   rw[h1]at q
   exact .inl ⟨rfl,q⟩
  |true=>
   rw[h1]at q
   refine .inr ⟨rfl,v,x,b,c,rfl,hv,hx,nb,nc,?_⟩
   rw[Bool.true_and]at q
   exact not_or q
abbrev jS:Stmt:=bJ 88
theorem mL:bz ["before","height","after"] ["before","height","after"] (aR jS):=⟨rfl,rfl,rfl,by decide+kernel,rfl,by decide+kernel,by decide+kernel⟩
theorem uF{f:Addr}{fd:FuncData}(F:eX K "is_low_water" "is_low_water" jS f fd)(T:Tx K mg G)(h_is_below:di P w K mg base "is_below" 2 ["x","y"] (fE K)):
  cA P w K mg base eS 3 f fd ["before","height","after"] (qK K E7):=by
 refine F.ok mL (fun vs H Q E h=>?_) (fun cdv A outer s H vs Q E hr h=>?_)
 ·obtain⟨u,v,x,a,b,c,rfl,_⟩:=h
  rfl
 ·have nd:=mL.nd
  obtain⟨u,v,x,a,b,c,rfl,hu,hv,hx,na,nb,nc,q⟩:=h
  refine⟨_,(aB (bA (CK (aj h_is_below (hr.mono (by decide)) rfl (aa (pv 1) (aa (pv 0) af))) (zO (zP (aj h_is_below (hr.mono (by decide)) rfl (aa (pv 2) (aa (pv 1) af)))))))),?_⟩
  sleep 1
  refine⟨v,u,b,a,rfl,hv,hu,nb,na,?_⟩
  unfold E7 at q
  cases h1:dH b a with
  |false=>
   rw[h1]at q
   exact .inl ⟨rfl,q⟩
  |true=>
   rw[h1]at q
   refine .inr ⟨rfl,x,v,c,b,rfl,hx,hv,nc,nb,?_⟩
   rw[Bool.true_and]at q
   exact not_or q
theorem Hr(l:List Num)(k:Nat):pX l k=if yE (l.getD (k - 1) z0) (l.getD k z0) (l.getD (k+1) z0)=true then some (k:Int)else if E7 (l.getD (k - 1) z0) (l.getD k z0) (l.getD (k+1) z0)=true then some (-(k:Int))else none:=by
 unfold pX yE E7
 generalize dH (l.getD (k - 1) z0) (l.getD k z0)=a
 generalize dH (l.getD k z0) (l.getD (k+1) z0)=b
 generalize dH (l.getD k z0) (l.getD (k - 1) z0)=c
 generalize dH (l.getD (k+1) z0) (l.getD k z0)=d
 cases a<;>cases b<;>cases c<;>cases d<;>rfl
def tU(K:PySem.W.Frag):Sp:=fun vs H Q _=>∃(p:Addr) (ys:List V) (ns:List Num),vs=[.ref p]∧H p=some (.lst ys)∧oH K H ys ns∧(∀n∈ns,NB n)∧ns.length≤10000∧
 ∀(H':Hp) (p':Addr),aH H H'→H p'=none→H' p'=some (.lst ((fJ ns (ns.length - 2)).map V.int))→Q (.ref p') H'
abbrev jU:Stmt:=bJ 89
theorem mP:bz ["row","found","k"] ["row"] (aR jU):=⟨rfl,rfl,rfl,by decide+kernel,rfl,by decide+kernel,by decide+kernel⟩
theorem uH{f:Addr}{fd:FuncData}(F:eX K "high_and_low" "high_and_low" jU f fd)(T:Tx K mg G)(h_is_high_water:di P w K mg base "is_high_water" 3 ["before","height","after"] (qK K yE))(h_is_low_water:di P w K mg base "is_low_water" 3 ["before","height","after"] (qK K E7)):
  cA P w K mg base eS 4 f fd ["row"] (tU K):=by
 refine F.ok mP (fun vs H Q E h=>?_) (fun cdv A outer s H vs Q E hr h=>?_)
 ·obtain⟨p,ys,ns,rfl,_⟩:=h
  rfl
 ·have nd:=mP.nd
  obtain⟨p,ys,ns,rfl,hp,hns,nbs,hlen,q⟩:=h
  have hyl:ys.length=ns.length:=Paired.length hns
  refine⟨_,(ai (bB (i:=1) nd rfl (Or.inl rfl) (cC af))
   (ai (jq PassesOwn.never rfl (o7 rfl T.jE (aa az (aa (bu cX (cE fk (by rfl) T.gZ iD (aa (pv 0) af)) az) af))) (dJ (i:=2) nd rfl (Or.inl rfl))
    (aB (cZ (dD (aj h_is_high_water (hr.mono (by decide)) rfl (aa (bq bE (pv 0) (bu cX (pv 2) az) (fun _ _=>rfl)) (aa (bq bE (pv 0) (pv 2) (fun _ _=>rfl)) (aa (bq bE (pv 0) (bu cT (pv 2) az) (fun _ _=>rfl)) af))))) (aB (fK (nQ PySem.F.plainAttrs_list PySem.F.slot_list_append PySem.F.type_list_append gn (pv 1) (aa (pv 2) af)))) (aB (cZ (dD (aj h_is_low_water (hr.mono (by decide)) rfl (aa (bq bE (pv 0) (bu cX (pv 2) az) (fun _ _=>rfl)) (aa (bq bE (pv 0) (pv 2) (fun _ _=>rfl)) (aa (bq bE (pv 0) (bu cT (pv 2) az) (fun _ _=>rfl)) af))))) (aB (fK (nQ PySem.F.plainAttrs_list PySem.F.slot_list_append PySem.F.type_list_append gn (pv 1) (aa (nO jM (pv 2)) af)))) cg)))))
   (aB (bA (pv 1))))),?_⟩
  sleep 1
  intro D hD
  have s1:aH H (upd H D (.lst [])):=aH.upd hD
  refine⟨_,rfl,_,rfl,_,.inl ⟨_,dY.of (s1 _ _ hp),rfl⟩,_,_,rfl,rfl,_,_,rfl,⟨by lia,by lia,by lia,by lia⟩,?_⟩
  have en:((ys.length:Int) - 1 - 1).toNat=ns.length - 2:=by lia
  rw[en]
  have hne:D≠p:=fun z=>by rw[z,hp]at hD;cases hD
  refine pI (fun i σ H'=>∃v2:Option V,σ=[some (.ref p),some (.ref D),v2]∧aH H H'∧H' D=some (.lst ((fJ ns i).map V.int))) ⟨none,rfl,s1,aF⟩ ?_ ?_
  ·rintro i σ H' hi ⟨v2,rfl,s2,hL⟩
   have hp':=dY.of (K:=K) (s2 _ _ hp)
   obtain⟨y0,hy0⟩:∃y,ys[i]?=some y:=⟨_,List.getElem?_eq_getElem (by lia)⟩
   obtain⟨y1,hy1⟩:∃y,ys[i+1]?=some y:=⟨_,List.getElem?_eq_getElem (by lia)⟩
   obtain⟨y2,hy2⟩:∃y,ys[i+2]?=some y:=⟨_,List.getElem?_eq_getElem (by lia)⟩
   obtain⟨n0,hn0,k0⟩:=hns.get hy0
   obtain⟨n1,hn1,k1⟩:=hns.get hy1
   obtain⟨n2,hn2,k2⟩:=hns.get hy2
   have d0:ns.getD i z0=n0:=by rw[List.getD_eq_getElem?_getD,hn0];rfl
   have d1:ns.getD (i+1) z0=n1:=by rw[List.getD_eq_getElem?_getD,hn1];rfl
   have d2:ns.getD (i+2) z0=n2:=by rw[List.getD_eq_getElem?_getD,hn2];rfl
   have b0:=nbs n0 (List.mem_of_getElem? hn0)
   have b1:=nbs n1 (List.mem_of_getElem? hn1)
   have b2:=nbs n2 (List.mem_of_getElem? hn2)
   have pt:=Hr ns (i+1)
   have ei:i+1 - 1=i:=by lia
   rw[ei,d0,d1,d2]at pt
   have hpl:=kP ns i
   have hz:((fJ ns i).map V.int).length<sizeLine:=by rw[List.length_map];exact Nat.lt_of_le_of_lt (m:=10000) (by lia) (by decide)
   sleep 1
   have a0:zd ys (1+(i:Int) - 1)=some y0:=by rw[show(1+(i:Int) - 1)=((i:Nat):Int) by lia];exact eV hy0
   have a1:zd ys (1+(i:Int))=some y1:=by rw[show(1+(i:Int))=((i+1:Nat):Int) by lia];exact eV hy1
   have a2:zd ys (1+(i:Int)+1)=some y2:=by rw[show(1+(i:Int)+1)=((i+2:Nat):Int) by lia];exact eV hy2
   have ep:fJ ns (i+1)=fJ ns i++(pX ns (i+1)).toList:=rfl
   rw[ep,pt]
   refine bM hp' a0 ?_
   refine bM hp' a1 ?_
   refine bM hp' a2 ?_
   refine⟨y0,y1,y2,n0,n1,n2,rfl,k0.same s2,k1.same s2,k2.same s2,b0,b1,b2,?_⟩
   cases h1:yE n0 n1 n2 with
   |true=>
    refine .inr ⟨rfl,⟨_,dY.of hL⟩,fT hL hz ⟨aH.put s2 hD,?_⟩⟩
    rw[aF,if_pos rfl,List.map_append]
    show _=some (HO.lst (List.map V.int (fJ ns i)++[V.int ((i+1:Nat):Int)]))
    rw[show(1+(i:Int))=((i+1:Nat):Int) by lia]
   |false=>
    refine .inl ⟨rfl,?_⟩
    refine bM hp' a0 ?_
    refine bM hp' a1 ?_
    refine bM hp' a2 ?_
    refine⟨y0,y1,y2,n0,n1,n2,rfl,k0.same s2,k1.same s2,k2.same s2,b0,b1,b2,?_⟩
    rw[if_neg (by decide)]
    cases h2:E7 n0 n1 n2 with
    |true=>
     refine .inr ⟨rfl,⟨_,dY.of hL⟩,fT hL hz ⟨aH.put s2 hD,?_⟩⟩
     rw[aF,if_pos rfl,List.map_append]
     show _=some (HO.lst (List.map V.int (fJ ns i)++[V.int (-((i+1:Nat):Int))]))
     rw[show(1+(i:Int))=((i+1:Nat):Int) by lia]
    |false=>
     refine .inl ⟨rfl,s2,?_⟩
     rw[if_neg (by decide),hL]
     show _=some (HO.lst (List.map V.int (fJ ns i++[])))
     rw[List.append_nil]
  ·rintro σ H' ⟨v2,rfl,s2,hL⟩
   exact⟨_,rfl,q H' D s2 hD hL⟩
end
end TB
end
noncomputable section
namespace TB
open PySem PySem.Spec PyProof.Rows L2 TM
section
variable{P:Program}{w:World}{K:PySem.W.Frag}{mg:Str→Option Value}{base:Heap}{G:Gs}
structure sy where
 (a s w l:Addr)
 ls:List Addr
def sy.mem(A:sy)(b:Addr):Prop:=b=A.a∨b=A.s∨b=A.w∨b=A.l∨b∈A.ls
def hF(s l n:V):List (Str×V):=[("sea",s),("locks",l),("now",n)]
structure eK(K:PySem.W.Frag)(G:Gs)(H:Hp)(A:sy)(h:Rb50.Harbour):Prop where
 obj:∃dx,H A.a=some (.ins G.CH dx (hF (.ref A.s) (.ref A.l) (.int h.now)))
 sea:lX K G H A.s A.w h
 lst:H A.l=some (.lst (A.ls.map V.ref))
 xR:ck K G H A.ls h.locks
 nd:A.ls.Nodup
 J9:A.w≠A.l
theorem eK.same{H H':Hp}{A:sy}{h:Rb50.Harbour}(x:eK K G H A h)(e:aH H H'):eK K G H' A h:=by
 obtain⟨dx,h1⟩:=x.obj
 exact⟨⟨dx,e _ _ h1⟩,x.sea.same e,e _ _ x.lst,ck.same e x.xR,x.nd,x.J9⟩
def cnt(n:Int):Nat:=if n=1 then 10 else((PyRb50.shape n).map (·.1)).getD 0
def ig(n:Int):Prop:=n=4∨n=5∨n=7∨n=8∨n=9∨n=10∨n=11∨n=12∨n=13∨n=16
def qc(K:PySem.W.Frag)(G:Gs)(H:Hp)(A:sy)(h':Rb50.Harbour)(l:List Int)(Q:VK):Prop:=∀(H':Hp) (A':sy) (p:Addr),cz A.mem H H'→(∀b,A'.mem b→A.mem b∨H b=none)→eK K G H' A' h'→qD h'→l.length≤30000→A'.a=A.a→(∀b o,¬A.mem b→H b=some o→b≠p)→H' p=some (.lst (l.map V.int))→Q (.ref p) H'
theorem qc.pure{H:Hp}{A:sy}{h:Rb50.Harbour}{l:List Int}{Q:VK}(c:qc K G H A h l Q)(hA:eK K G H A h)(fit:qD h)(hl:l.length≤30000){H':Hp}{p:Addr}(s:aH H H')(hb:∀b o,¬A.mem b→H b=some o→b≠p)(e:H' p=some (.lst (l.map V.int))):Q (.ref p) H':=
 c H' A p (aH.keep s) (fun b z=>.inl z) (hA.same s) fit hl rfl hb e
theorem qc.new{H:Hp}{A:sy}{h:Rb50.Harbour}{l:List Int}{Q:VK}(c:qc K G H A h l Q)(hA:eK K G H A h)(fit:qD h)(hl:l.length≤30000){H':Hp}{p:Addr}(s:aH H H')(hp:H' p=none):Q (.ref p) (upd H' p (.lst (l.map V.int))):=
 c.pure hA fit hl (s.trans (aH.upd hp)) (fun b o _ e=>cO (s _ _ e) hp) aF
def vt(K:PySem.W.Frag)(G:Gs)(n:Int):Sp:=fun vs H Q _=>∃(A:sy) (h h':Rb50.Harbour) (gp:Addr) (xs l:List Int),vs=[.ref A.a,.ref gp]∧eK K G H A h∧qD h∧dY K H gp (xs.map V.int)∧Rb50Neutral.asked1 (mk n xs)=true∧xs.length=cnt n∧(ig n→Rb50.far (xs.headD 0)=false)∧stp (some h) (mk n xs)=(some h',l)∧qc K G H A h' l Q
theorem oj{xs:List Int}(h:xs.length=1):∃a,xs=[a]:=List.length_eq_one_iff.mp h
theorem FL{xs:List Int}(h:xs.length=2):∃a b,xs=[a,b]:=by
 match xs,h with
 |[a,b],_=>exact⟨a,b,rfl⟩
theorem Ke{xs:List Int}(h:xs.length=3):∃a b c,xs=[a,b,c]:=by
 match xs,h with
 |[a,b,c],_=>exact⟨a,b,c,rfl⟩
theorem MV{xs:List Int}(h:xs.length=4):∃a b c d,xs=[a,b,c,d]:=by
 match xs,h with
 |[a,b,c,d],_=>exact⟨a,b,c,d,rfl⟩
def jv:Sp:=fun vs H Q _=>∃m:Int,vs=[.int m]∧Q (.bl (decide (-1152921504606846976≤m∧m≤1152921504606846976))) H
abbrev nB:Stmt:=bJ 112
theorem qV:bz ["m"] ["m"] (aR nB):=⟨rfl,rfl,rfl,by decide+kernel,rfl,by decide+kernel,by decide+kernel⟩
theorem zY{f:Addr}{fd:FuncData}(F:eX K "is_minute" "is_minute" nB f fd)(T:Tx K mg G):
  cA P w K mg base eS 1 f fd ["m"] jv:=by
 refine F.ok qV (fun vs H Q E h=>?_) (fun cdv A outer s H vs Q E hr h=>?_)
 ·obtain⟨m,rfl,_⟩:=h
  rfl
 ·have nd:=qV.nd
  obtain⟨m,rfl,q⟩:=h
  refine⟨_,(aB (bA (wz kC kC (nO jM (bw rfl T.gF)) (pv 0) (bw rfl T.gF)))),?_⟩
  sleep 1
  by_cases c1: -1152921504606846976≤m
  ·by_cases c2:m≤1152921504606846976
   ·rw[decide_eq_true ⟨c1,c2⟩]at q
    simpa[c1,c2]using q
   ·rw[decide_eq_false (fun z=>c2 z.2)]at q
    simpa[c1,c2]using q
  ·rw[decide_eq_false (fun z=>c1 z.1)]at q
   simpa[c1]using q
def i8:Sp:=fun vs H Q _=>∃m:Int,vs=[.int m]∧Q (.bl (decide (0≤m∧m≤10000))) H
abbrev qu:Stmt:=bJ 113
theorem tY:bz ["n"] ["n"] (aR qu):=⟨rfl,rfl,rfl,by decide+kernel,rfl,by decide+kernel,by decide+kernel⟩
theorem BA{f:Addr}{fd:FuncData}(F:eX K "is_count" "is_count" qu f fd)(T:Tx K mg G):
  cA P w K mg base eS 1 f fd ["n"] i8:=by
 refine F.ok tY (fun vs H Q E h=>?_) (fun cdv A outer s H vs Q E hr h=>?_)
 ·obtain⟨m,rfl,_⟩:=h
  rfl
 ·have nd:=tY.nd
  obtain⟨m,rfl,q⟩:=h
  refine⟨_,(aB (bA (wz kC kC az (pv 0) (bw rfl T.gf)))),?_⟩
  sleep 1
  by_cases c1:0≤m
  ·by_cases c2:m≤10000
   ·rw[decide_eq_true ⟨c1,c2⟩]at q
    simpa[c1,c2]using q
   ·rw[decide_eq_false (fun z=>c2 z.2)]at q
    simpa[c1,c2]using q
  ·rw[decide_eq_false (fun z=>c1 z.1)]at q
   simpa[c1]using q
def l8:Sp:=fun vs H Q _=>∃m k:Nat,vs=[.int m,.int k]∧Q (.bl (decide (m%2147483648≤k))) H
abbrev ny:Stmt:=bJ 114
theorem qT:bz ["single","most"] ["single","most"] (aR ny):=⟨rfl,rfl,rfl,by decide+kernel,rfl,by decide+kernel,by decide+kernel⟩
theorem zW{f:Addr}{fd:FuncData}(F:eX K "is_within" "is_within" ny f fd)(T:Tx K mg G):
  cA P w K mg base eS 1 f fd ["single","most"] l8:=by
 refine F.ok qT (fun vs H Q E h=>?_) (fun cdv A outer s H vs Q E hr h=>?_)
 ·obtain⟨m,k,rfl,_⟩:=h
  rfl
 ·have nd:=qT.nd
  obtain⟨m,k,rfl,q⟩:=h
  refine⟨_,(aB (bA (mq kC (bu gS (pv 0) (bw rfl T.fC)) (pv 1) (cK _)))),?_⟩
  sleep 1
  have e:decide ((m:Int)%2147483648≤(k:Int))=decide (m%2147483648≤k):=decide_eq_decide.mpr (by lia)
  rw[e]
  exact q
def gH:Sp:=fun vs H Q _=>∃m k:Nat,vs=[.int m,.int k]∧Q (.bl (decide (m≤k∨m=2147483648))) H
abbrev jT:Stmt:=bJ 115
theorem mO:bz ["single","most"] ["single","most"] (aR jT):=⟨rfl,rfl,rfl,by decide+kernel,rfl,by decide+kernel,by decide+kernel⟩
theorem uG{f:Addr}{fd:FuncData}(F:eX K "is_from_zero" "is_from_zero" jT f fd)(T:Tx K mg G):
  cA P w K mg base eS 1 f fd ["single","most"] gH:=by
 refine F.ok mO (fun vs H Q E h=>?_) (fun cdv A outer s H vs Q E hr h=>?_)
 ·obtain⟨m,k,rfl,_⟩:=h
  rfl
 ·have nd:=mO.nd
  obtain⟨m,k,rfl,q⟩:=h
  refine⟨_,(aB (bA (MG (mq kC (pv 0) (pv 1) (cK _)) (zO (mq je (pv 0) (bw rfl T.fC) (cK _)))))),?_⟩
  sleep 1
  by_cases c:m≤k
  ·rw[if_pos c]
   rw[decide_eq_true (Or.inl c)]at q
   exact q
  ·rw[if_neg c]
   have e:decide ((m:Int)=2147483648)=decide (m≤k∨m=2147483648):=decide_eq_decide.mpr (by lia)
   rw[e]
   exact q
def i9(K:PySem.W.Frag)(G:Gs):Sp:=fun vs H Q _=>∃(A:sy) (h:Rb50.Harbour) (i:Int),vs=[.ref A.a,.int i]∧eK K G H A h∧Q (.bl (decide (0≤i∧i<h.locks.length))) H
abbrev qw:Stmt:=bJ 116
theorem t6:bz ["harbour","i"] ["harbour","i"] (aR qw):=⟨rfl,rfl,rfl,by decide+kernel,rfl,by decide+kernel,by decide+kernel⟩
theorem BC{f:Addr}{fd:FuncData}(F:eX K "has_lock" "has_lock" qw f fd)(T:Tx K mg G):
  cA P w K mg base eS 1 f fd ["harbour","i"] (i9 K G):=by
 refine F.ok t6 (fun vs H Q E h=>?_) (fun cdv A outer s H vs Q E hr h=>?_)
 ·obtain⟨A,h,i,rfl,_⟩:=h
  rfl
 ·have nd:=t6.nd
  obtain⟨A,h,i,rfl,hA,q⟩:=h
  obtain⟨dx,h1⟩:=hA.obj
  have hl:A.ls.length=h.locks.length:=Paired.length hA.xR
  refine⟨_,(aB (bA (wz kC lM az (pv 1) (cE fk (by rfl) T.gZ iD (aa (bD (pv 0) rfl) af))))),?_⟩
  sleep 1
  by_cases c:0≤i
  ·rw[if_pos c]
   refine bN h1 T.cH T.jr rfl ?_
   refine⟨_,.inl ⟨_,dY.of hA.lst,rfl⟩,?_⟩
   rw[List.length_map,hl]
   have e:decide (i<(h.locks.length:Int))=decide (0≤i∧i<(h.locks.length:Int)):=decide_eq_decide.mpr (by omega)
   rw[e]
   exact q
  ·rw[if_neg c]
   rw[decide_eq_false (fun z=>c z.1)]at q
   exact q
def zm(K:PySem.W.Frag)(G:Gs):Sp:=fun vs H Q _=>∃(A:sy) (h:Rb50.Harbour) (m:Int),vs=[.ref A.a,.int m]∧eK K G H A h∧qD h∧xP m∧∀H':Hp,aH H H'→Q (.int (Rb50.nearest (Rb50.millimetres (Rb50.height h m)))) H'
theorem CZ{h:Rb50.Harbour}(f:qD h)(m:Int):Rep Rb50.EXT (LJ (cB h m)) (Rb50.millimetres (Rb50.height h m))∧Ok Rb50.EXT (LJ (cB h m)) 110:=by
 obtain⟨t1,t2⟩:=gk f.ok m
 exact MQ t1 t2 (by decide) (by decide)
theorem HZ{h:Rb50.Harbour}(f:qD h)(m:Int):Rep Rb50.EXT (eG (cB h m)) (Rb50.metres (Rb50.height h m))∧Ok Rb50.EXT (eG (cB h m)) 110:=by
 obtain⟨t1,t2⟩:=gk f.ok m
 exact fU t1 t2 (by decide) (by decide)
abbrev gu:Stmt:=bJ 123
theorem ja:bz ["harbour","m"] ["harbour","m"] (aR gu):=⟨rfl,rfl,rfl,by decide+kernel,rfl,by decide+kernel,by decide+kernel⟩
theorem nU{f:Addr}{fd:FuncData}(F:eX K "whole_millimetres" "whole_millimetres" gu f fd)(T:Tx K mg G)(h_nearest_whole:di P w K mg base "nearest_whole" 2 ["x"] (l5 K wk))(h_millimetres:di P w K mg base "millimetres" 7 ["sea","minute"] (dP K G fun x m=>LJ (cB x m))):
  cA P w K mg base eS 8 f fd ["harbour","m"] (zm K G):=by
 refine F.ok ja (fun vs H Q E h=>?_) (fun cdv A outer s H vs Q E hr h=>?_)
 ·obtain⟨A,h,m,rfl,_⟩:=h
  rfl
 ·have nd:=ja.nd
  obtain⟨A,h,m,rfl,hA,fit,hm,q⟩:=h
  obtain⟨dx,h1⟩:=hA.obj
  obtain⟨r,o⟩:=CZ fit m
  refine⟨_,(aB (bA (aj h_nearest_whole (hr.mono (by decide)) rfl (aa (aj h_millimetres (hr.mono (by decide)) rfl (aa (bD (pv 0) rfl) (aa (pv 1) af))) af)))),?_⟩
  sleep 1
  refine bN h1 T.cH T.pO rfl ?_
  refine⟨A.s,A.w,h,m,rfl,hA.sea,qD.fQ fit,hm,fun H1 v1 s1 k1=>?_⟩
  refine⟨v1,_,rfl,k1,.of_ok o (by decide),?_⟩
  rw[←wO r o.lo]
  exact q H1 s1
def l7(K:PySem.W.Frag)(G:Gs):Sp:=fun vs H Q _=>∃(A:sy) (h:Rb50.Harbour),vs=[.ref A.a]∧eK K G H A h∧qD h∧∀(H':Hp) (v:V),aH H H'→bI K H' v (zK h h.now)→Q v H'
abbrev nu:Stmt:=bJ 133
theorem qS:bz ["harbour"] ["harbour"] (aR nu):=⟨rfl,rfl,rfl,by decide+kernel,rfl,by decide+kernel,by decide+kernel⟩
theorem zV{f:Addr}{fd:FuncData}(F:eX K "level_now" "level_now" nu f fd)(T:Tx K mg G)(h_sea_level:di P w K mg base "sea_level" 8 ["sea","minute"] (dP K G zK)):
  cA P w K mg base eS 9 f fd ["harbour"] (l7 K G):=by
 refine F.ok qS (fun vs H Q E h=>?_) (fun cdv A outer s H vs Q E hr h=>?_)
 ·obtain⟨A,h,rfl,_⟩:=h
  rfl
 ·have nd:=qS.nd
  obtain⟨A,h,rfl,hA,fit,q⟩:=h
  obtain⟨dx,h1⟩:=hA.obj
  refine⟨_,(aB (bA (aj h_sea_level (hr.mono (by decide)) rfl (aa (bD (pv 0) rfl) (aa (bD (pv 0) rfl) af))))),?_⟩
  sleep 1
  refine bN h1 T.cH T.pO rfl ?_
  refine bN h1 T.cH T.Aj rfl ?_
  have:=fit.lo
  have:=fit.hi
  exact⟨A.s,A.w,h,_,rfl,hA.sea,qD.fQ fit,ir (by lia) (by lia),q⟩
def vo(K:PySem.W.Frag):Sp:=fun vs H Q _=>∃(gp:Addr) (a b c d:Nat),vs=[.ref gp]∧dY K H gp [.int a,.int b,.int c,.int d]∧a<4294967296∧b<4294967296∧c<4294967296∧d<4294967296∧Q (.bl (Rb50.lockOk a b c d)) H
abbrev sP:Stmt:=bJ 131
theorem vF:bz ["given","area"] ["given"] (aR sP):=⟨rfl,rfl,rfl,by decide+kernel,rfl,by decide+kernel,by decide+kernel⟩
theorem CT{f:Addr}{fd:FuncData}(F:eX K "is_lock" "is_lock" sP f fd)(T:Tx K mg G)(h_is_within:di P w K mg base "is_within" 1 ["single","most"] l8)(h_is_from_zero:di P w K mg base "is_from_zero" 1 ["single","most"] gH):
  cA P w K mg base eS 2 f fd ["given"] (vo K):=by
 refine F.ok vF (fun vs H Q E h=>?_) (fun cdv A outer s H vs Q E hr h=>?_)
 ·obtain⟨gp,a,b,c,d,rfl,_⟩:=h
  rfl
 ·have nd:=vF.nd
  obtain⟨gp,a,b,c,d,rfl,hg,ha,hb,hc,hd,q⟩:=h
  rw[yO ha hb hc hd]at q
  refine⟨_,(ai (bB (i:=1) nd rfl (Or.inl rfl) (bq bE (pv 0) az (fun _ _=>rfl)))
   (ai (cZ (PW.pt (uc (eT (we kC kC (bw rfl T.jB) (pv 1) (bw rfl T.kG))) (nH (eT (dD (aj h_is_from_zero (hr.mono (by decide)) rfl (aa (bq bE (pv 0) az (fun _ _=>rfl)) (aa (bw rfl T.iW) af)))))))) (aB (bA D3)) cg)
   (aB (bA (CK (aj h_is_within (hr.mono (by decide)) rfl (aa (bq bE (pv 0) az (fun _ _=>rfl)) (aa (bw rfl T.iz) af))) (zO (aj h_is_within (hr.mono (by decide)) rfl (aa (bq bE (pv 0) az (fun _ _=>rfl)) (aa (bw rfl T.iz) af))))))))),?_⟩
  sleep 1
  refine bM hg rfl ?_
  refine⟨_,rfl,?_⟩
  by_cases c1:981467136≤a
  ·rw[if_pos (by lia)]
   refine⟨_,rfl,?_⟩
   by_cases c2:a≤1317011456
   ·rw[if_pos (by lia)]
    refine bM hg rfl ?_
    refine⟨b,1233125376,rfl,?_⟩
    by_cases c3:b≤1233125376∨b=2147483648
    ·refine .inr ⟨by show true=decide (b≤1233125376∨b=2147483648);rw[decide_eq_true c3],?_⟩
     refine bM hg rfl ?_
     refine⟨c,1233125376,rfl,?_⟩
     by_cases c4:c%2147483648≤1233125376
     ·refine .inr ⟨by rw[decide_eq_true c4],?_⟩
      refine bM hg rfl ?_
      refine⟨d,1233125376,rfl,?_⟩
      have e:decide (d%2147483648≤1233125376)=decide ((981467136≤a∧a≤1317011456)∧(b≤1233125376∨b=2147483648)∧c%2147483648≤1233125376∧d%2147483648≤1233125376):=decide_eq_decide.mpr ⟨fun z=>⟨⟨c1,c2⟩,c3,c4,z⟩,fun z=>z.2.2.2⟩
      rw[e]
      exact q
     ·refine .inl ⟨by rw[decide_eq_false c4],?_⟩
      rw[decide_eq_false (fun z=>c4 z.2.2.1)]at q
      exact q
    ·refine .inl ⟨by show false=decide (b≤1233125376∨b=2147483648);rw[decide_eq_false c3],?_⟩
     rw[decide_eq_false (fun z=>c3 z.2.1)]at q
     exact q
   ·rw[if_neg (by lia)]
    rw[decide_eq_false (fun z=>c2 z.1.2)]at q
    exact q
  ·rw[if_neg (by lia)]
   rw[decide_eq_false (fun z=>c1 z.1.1)]at q
   exact q
def qj(K:PySem.W.Frag)(G:Gs):Sp:=fun vs H Q _=>∃(a dx:Addr),vs=[.ref a]∧H a=some (.ins G.CH dx [])∧∀(H':Hp) (A:sy),A.a=a→cz (fun b=>b=a) H H'→eK K G H' A {}→(∀b,A.mem b→b=a∨H b=none)→Q .gh H'
abbrev gR:Stmt:=inClass (bJ 111) 0
theorem jt:bz ["self"] ["self"] (aR gR):=⟨rfl,rfl,rfl,by decide+kernel,rfl,by decide+kernel,by decide+kernel⟩
theorem pN{f:Addr}{fd:FuncData}(F:eX K "__init__" "Harbour.__init__" gR f fd)(T:Tx K mg G)(c_Sea:qC P w K mg base "Sea" G.CS 1 ["self","mean"] (zq G)):
  cA P w K mg base eS 3 f fd ["self"] (qj K G):=by
 refine F.ok jt (fun vs H Q E h=>?_) (fun cdv A outer s H vs Q E hr h=>?_)
 ·obtain⟨a,dx,rfl,_⟩:=h
  rfl
 ·have nd:=jt.nd
  obtain⟨a,dx,rfl,h1,q⟩:=h
  refine⟨_,(ai (cy (pv 0) (lK c_Sea (hr.mono (by decide)) rfl (aa az af)) rfl)
   (ai (cy (pv 0) (cC af) rfl)
   (aB (cy (pv 0) az rfl)))),?_⟩
  sleep 1
  intro x dx' hx hdx hne
  have sm:aH H (upd (upd H dx' (.own x)) x (.ins G.CS dx' [])):=aH.made hx hdx
  refine⟨x,dx',_,rfl,aF,fun H2 la k2 e2 l2 f2=>?_⟩
  have hax:a≠x:=cO h1 hx
  have a2:H2 a=some (.ins G.CH dx []):=k2 _ _ hax (sm _ _ h1)
  refine⟨rfl,cU (fs':=[("sea",.ref x)]) a2 T.cH T.pO ?l rfl ?_⟩
  case l=>exact Nat.le_of_ble_eq_true rfl
  sleep 1
  intro l hl
  have nla:l≠a:=fun z=>by rw[z,aF]at hl;cases hl
  have hl2:H2 l=none:=by rw[cQ nla]at hl;exact hl
  have e1:upd (upd H2 a (.ins G.CH dx [("sea",.ref x)])) l (.lst []) a=some (.ins G.CH dx [("sea",.ref x)]):=by rw[cQ (fun z=>nla z.symm)];exact aF
  refine cU (fs':=[("sea",.ref x),("locks",.ref l)]) e1 T.cH T.jr ?l rfl ?_
  case l=>exact Nat.le_of_ble_eq_true rfl
  sleep 1
  refine cU (fs':=hF (.ref x) (.ref l) (.int 0)) aF T.cH T.Aj ?l rfl ?_
  case l=>exact Nat.le_of_ble_eq_true rfl
  rw[eF]
  have nlx:l≠x:=fun z=>by rw[z,e2]at hl2;cases hl2
  have nll:l≠la:=fun z=>by rw[z,l2]at hl2;cases hl2
  have nax:a≠la:=fun z=>by rw[z,l2]at a2;cases a2
  have upo:∀{b:Addr} {o:HO},b≠a→b≠l→H2 b=some o→upd (upd (upd H2 a (.ins G.CH dx [("sea",.ref x)])) l (.lst [])) a (.ins G.CH dx (hF (.ref x) (.ref l) (.int 0))) b=some o:=fun n1 n2 e=>by
   rw[cQ n1,cQ n2,cQ n1]
   exact e
  have frx:∀{b:Addr},upd (upd H dx' (.own x)) x (.ins G.CS dx' []) b=none→H b=none:=fun e=>aH.free sm e
  refine q _ ⟨a,x,la,l,[]⟩ rfl ?_ ⟨⟨dx,aF⟩,⟨dx',[],.gh,upo (fun z=>hax z.symm) (fun z=>nlx z.symm) e2,upo (fun z=>nax z.symm) (fun z=>nll z.symm) l2,.nil,rfl⟩,?_,.nil,List.nodup_nil,fun z=>nll z.symm⟩ ?_
  ·intro b o nb e
   have hb2:H2 b=some o:=k2 _ _ (cO e hx) (sm _ _ e)
   exact upo nb (cO hb2 hl2) hb2
  ·show upd _ a _ l=some (.lst [])
   rw[cQ nla]
   exact aF
  ·rintro b (z|z|z|z|z)
   ·exact .inl z
   ·exact .inr (by rw[z];exact hx)
   ·exact .inr (by rw[z];exact frx f2)
   ·refine .inr ?_
    rw[z]
    have:H l=none:=by
     cases hh:H l with
     |none=>rfl
     |some o=>
      have hb2:H2 l=some o:=k2 _ _ (cO hh hx) (sm _ _ hh)
      rw[hl2]at hb2
      cases hb2
    exact this
   ·simp at z
end
end TB
end
noncomputable section
namespace TB
open PySem PySem.Spec PyProof.Rows L2 TM
section
variable{P:Program}{w:World}{K:PySem.W.Frag}{mg:Str→Option Value}{base:Heap}{G:Gs}
theorem kR{m:Int}(h:Rb50.far m=false): -1152921504606846976≤m∧m≤1152921504606846976:=by
 refine Decidable.byContradiction fun z=>?_
 rw[Eo z]at h
 cases h
theorem bY{a:Rb50.St×List Int}{h:Rb50.Harbour}{l:List Int}{h':Rb50.Harbour}{l':List Int}(e:a=(some h,l))(e':a=(some h',l')):h'=h∧l'=l:=by
 rw[e]at e'
 cases e'
 exact⟨rfl,rfl⟩
theorem KG{ys:List V}{zs:List Int}(hl:ys.length=zs.length)(h:∀(j:Nat) y,ys[j]?=some y→∃z,zs[j]?=some z∧y=.int z):ys=zs.map V.int:=by
 apply List.ext_getElem?
 intro j
 rw[List.getElem?_map]
 cases hj:ys[j]? with
 |none=>
  have:zs[j]?=none:=List.getElem?_eq_none (by have:=List.getElem?_eq_none_iff.mp hj;lia)
  rw[this];rfl
 |some y=>
  obtain⟨z,h1,h2⟩:=h j y hj
  rw[h1,h2];rfl
theorem wZ{K:PySem.W.Frag}{a:Addr}{xs:List V}{te:TE}{vi:Nat}{σ:L2.St}{H1:Hp}{Qd:Hp→Prop}{D:Addr}(zs:List Int)(hD:H1 D=none)(hl:dY K H1 a xs)(hz:xs.length<sizeLine)(hzl:xs.length=zs.length)
  (hs:∀(i:Nat) x H' (Q':VK),xs[i]?=some x→aH H1 H'→(∀z H4,zs[i]?=some z→aH H' H4→Q' (.int z) H4)→te (σ.set vi (some x)) H' Q')
  (hd:∀H,H D=some (.lst (zs.map V.int))→aH H1 H→Qd H):
  ∃W:Nat→Nat→Hp→Prop,(∃m,W 0 m (upd H1 D (.lst [])))∧∀i m H,W i m H→
   ((EE K a).stop i H∧Qd H)∨((EE K a).go i H∧∃Nx:Hp→Prop,(∀H',Nx H'→∃m',m'<m∧W (i+1) m' H')∧∀x H',(EE K a).Az i H x H'→ao vi x (wipe σ [vi]) H' fun σ2 H2=>wipe σ2 [vi]=wipe σ [vi]∧AR σ2 H2 fun b H3=>
    if b=true then te σ2 H3 fun y H4=>∃acc,H4 D=some (.lst acc)∧acc.length<sizeLine∧Nx (upd H4 D (.lst (acc++[y])))else Nx H3):=by
 refine rP hD hl hz (fun i y _=>∃z,zs[i]?=some z∧y=V.int z) (fun _ _ _ _ _ _ r=>r) ?_ ?_
 ·intro i x H' Q' hx s hQ
  obtain⟨z,hz'⟩:∃z,zs[i]?=some z:=⟨_,List.getElem?_eq_getElem (by have:=(List.getElem?_eq_some_iff.mp hx).1;lia)⟩
  refine hs i x H' Q' hx s fun z2 H4 h2 s4=>hQ _ H4 s4 ⟨z2,h2,rfl⟩
 ·intro ys H hy hl2 s hR
  have e:=KG (by lia) hR
  subst e
  exact hd H hy s
theorem Af{K:PySem.W.Frag}{a:Addr}{xs:List V}{te:TE}{vi:Nat}{σ:L2.St}{H1:Hp}{Qd:Hp→Prop}{D:Addr}(zs:List Int)(hD:H1 D=none)(hl:jF K H1 a xs)(hz:xs.length<sizeLine)(hzl:xs.length=zs.length)
  (hs:∀(i:Nat) x H' (Q':VK),xs[i]?=some x→aH H1 H'→(∀z H4,zs[i]?=some z→aH H' H4→Q' (.int z) H4)→te (σ.set vi (some x)) H' Q')
  (hd:∀H,H D=some (.lst (zs.map V.int))→aH H1 H→Qd H):
  ∃W:Nat→Nat→Hp→Prop,(∃m,W 0 m (upd H1 D (.lst [])))∧∀i m H,W i m H→
   ((ED K a).stop i H∧Qd H)∨((ED K a).go i H∧∃Nx:Hp→Prop,(∀H',Nx H'→∃m',m'<m∧W (i+1) m' H')∧∀x H',(ED K a).Az i H x H'→ao vi x (wipe σ [vi]) H' fun σ2 H2=>wipe σ2 [vi]=wipe σ [vi]∧AR σ2 H2 fun b H3=>
    if b=true then te σ2 H3 fun y H4=>∃acc,H4 D=some (.lst acc)∧acc.length<sizeLine∧Nx (upd H4 D (.lst (acc++[y])))else Nx H3):=by
 refine Kf hD hl hz (fun i y _=>∃z,zs[i]?=some z∧y=V.int z) (fun _ _ _ _ _ _ r=>r) ?_ ?_
 ·intro i x H' Q' hx s hQ
  refine hs i x H' Q' hx s fun z2 H4 h2 s4=>hQ _ H4 s4 ⟨z2,h2,rfl⟩
 ·intro ys H hy hl2 s hR
  have e:=KG (by lia) hR
  subst e
  exact hd H hy s
theorem Kg{x:Str}{te:TE}{vi:Nat}{σ:L2.St}{H1:Hp}{Qd:Hp→Prop}{D:Addr}(hD:H1 D=none)(hz:x.cps.size<sizeLine)
  (hs:∀(i c:Nat) H' (Q':VK),x.cps[i]?=some c→Q' (.int (c:Int)) H'→te (σ.set vi (some (.str ⟨#[c]⟩))) H' Q')
  (hd:∀H,H D=some (.lst (x.cps.toList.map fun(c:Nat)=>V.int (c:Int)))→aH H1 H→Qd H):
  ∃W:Nat→Nat→Hp→Prop,(∃m,W 0 m (upd H1 D (.lst [])))∧∀i m H,W i m H→
   ((Nd x).stop i H∧Qd H)∨((Nd x).go i H∧∃Nx:Hp→Prop,(∀H',Nx H'→∃m',m'<m∧W (i+1) m' H')∧∀v H',(Nd x).Az i H v H'→ao vi v (wipe σ [vi]) H' fun σ2 H2=>wipe σ2 [vi]=wipe σ [vi]∧AR σ2 H2 fun b H3=>
    if b=true then te σ2 H3 fun y H4=>∃acc,H4 D=some (.lst acc)∧acc.length<sizeLine∧Nx (upd H4 D (.lst (acc++[y])))else Nx H3):=by
 have hsz:x.cps.size=x.cps.toList.length:=by simp
 refine⟨fun i m H=>m=x.cps.size - i∧i≤x.cps.size∧H D=some (.lst ((x.cps.toList.take i).map fun(c:Nat)=>V.int (c:Int)))∧aH H1 H,⟨x.cps.size,by simp,Nat.zero_le _,aF,aH.upd hD⟩,?_⟩
 rintro i m H ⟨rfl,hi,hL,s⟩
 by_cases c:i<x.cps.size
 ·refine .inr ⟨c,fun H'=>H' D=some (.lst ((x.cps.toList.take (i+1)).map fun(c:Nat)=>V.int (c:Int)))∧aH H1 H',fun H' h=>⟨x.cps.size - (i+1),by lia,rfl,by lia,h.1,h.2⟩,?_⟩
  rintro v H' ⟨rfl,ch,hc,rfl⟩
  show wipe ((wipe σ [vi]).set vi _) [vi]=wipe σ [vi]∧_
  rw[qE,oJ]
  refine⟨rfl,?_⟩
  show te (σ.set vi _) _ _
  refine hs i ch _ _ hc ⟨_,hL,by rw[List.length_map,List.length_take];lia,?_,aH.put s hD⟩
  rw[aF]
  have hc':x.cps.toList[i]?=some ch:=by rw[Array.getElem?_toList];exact hc
  rw[List.take_succ,hc',List.map_append]
  rfl
 ·have e:i=x.cps.size:=by lia
  subst e
  refine .inl ⟨Nat.le_refl _,hd H ?_ s⟩
  rw[hL,hsz,List.take_length]
abbrev vR:Stmt:=bJ 121
theorem yo:bz ["harbour","given"] ["harbour","given"] (aR vR):=⟨rfl,rfl,rfl,by decide+kernel,rfl,by decide+kernel,by decide+kernel⟩
theorem Fp{f:Addr}{fd:FuncData}(F:eX K "height" "height" vR f fd)(T:Tx K mg G)(h_stored_bits:di P w K mg base "stored_bits" 4 ["kind","x"] (gW K))(h_metres:di P w K mg base "metres" 7 ["sea","minute"] (dP K G fun x m=>eG (cB x m))):
  cA P w K mg base eS 8 f fd ["harbour","given"] (vt K G 4):=by
 refine F.ok yo (fun vs H Q E h=>?_) (fun cdv A outer s H vs Q E hr h=>?_)
 ·obtain⟨A,h,h',gp,xs,l,rfl,_⟩:=h
  rfl
 ·have nd:=yo.nd
  obtain⟨A,h,h',gp,xs,l,rfl,hA,fit,hg,ask,hxl,hmin,hst,q⟩:=h
  obtain⟨m,rfl⟩:=oj hxl
  have hf:Rb50.far m=false:=hmin (by unfold ig;simp)
  obtain⟨rfl,rfl⟩:=bY (ET hf) hst
  obtain⟨mn1,mn2⟩:=kR hf
  obtain⟨dx,h1⟩:=hA.obj
  obtain⟨r,o⟩:=HZ fit m
  obtain⟨_,oc⟩:=iL r o
  refine⟨_,(aB (bA (cC (aa az (aa (aj h_stored_bits (hr.mono (by decide)) rfl (aa (cG rfl T.fz) (aa (aj h_metres (hr.mono (by decide)) rfl (aa (bD (pv 0) rfl) (aa (bq bE (pv 1) az (fun _ _=>rfl)) af))) af))) af))))),?_⟩
  sleep 1
  refine bN h1 T.cH T.pO rfl ?_
  refine bM hg rfl ?_
  refine⟨A.s,A.w,h',m,rfl,hA.sea,qD.fQ fit,ir (by lia) (by lia),fun H1 v1 s1 k1=>?_⟩
  refine⟨_,Rb50.EXT,64,79,v1,_,111,rfl,T.toTxt.unit _,gB,k1,.of_ok o (by decide),oc,by decide,by decide,by decide,fun H2 s2=>⟨by decide,fun p hp=>?_⟩⟩
  rw[AL r o]
  exact q.new hA fit (by simp) (s1.trans s2) hp
abbrev vU:Stmt:=bJ 122
theorem yq:bz ["harbour","given"] ["harbour","given"] (aR vU):=⟨rfl,rfl,rfl,by decide+kernel,rfl,by decide+kernel,by decide+kernel⟩
theorem Ft{f:Addr}{fd:FuncData}(F:eX K "double" "double" vU f fd)(T:Tx K mg G)(h_stored_bits:di P w K mg base "stored_bits" 4 ["kind","x"] (gW K))(h_metres:di P w K mg base "metres" 7 ["sea","minute"] (dP K G fun x m=>eG (cB x m))):
  cA P w K mg base eS 8 f fd ["harbour","given"] (vt K G 5):=by
 refine F.ok yq (fun vs H Q E h=>?_) (fun cdv A outer s H vs Q E hr h=>?_)
 ·obtain⟨A,h,h',gp,xs,l,rfl,_⟩:=h
  rfl
 ·have nd:=yq.nd
  obtain⟨A,h,h',gp,xs,l,rfl,hA,fit,hg,ask,hxl,hmin,hst,q⟩:=h
  obtain⟨m,rfl⟩:=oj hxl
  have hf:Rb50.far m=false:=hmin (by unfold ig;simp)
  obtain⟨rfl,rfl⟩:=bY (EU hf) hst
  obtain⟨mn1,mn2⟩:=kR hf
  obtain⟨dx,h1⟩:=hA.obj
  obtain⟨r,o⟩:=HZ fit m
  obtain⟨eb,oc⟩:=BS r o (by decide) (by decide)
  refine⟨_,(aB (bA (cC (aa az (aa (aj h_stored_bits (hr.mono (by decide)) rfl (aa (cG rfl T.rj) (aa (aj h_metres (hr.mono (by decide)) rfl (aa (bD (pv 0) rfl) (aa (bq bE (pv 1) az (fun _ _=>rfl)) af))) af))) af))))),?_⟩
  sleep 1
  refine bN h1 T.cH T.pO rfl ?_
  refine bM hg rfl ?_
  refine⟨A.s,A.w,h',m,rfl,hA.sea,qD.fQ fit,ir (by lia) (by lia),fun H1 v1 s1 k1=>?_⟩
  refine⟨_,Rb50.DOUBLE,52,63,v1,_,110,rfl,T.toTxt.double _,FO,k1,.of_ok o (by decide),oc,by decide,by decide,by decide,fun H2 s2=>⟨by decide,fun p hp=>?_⟩⟩
  rw[eb]
  exact q.new hA fit (by simp) (s1.trans s2) hp
abbrev LD:Stmt:=bJ 124
theorem K1:bz ["harbour","given"] ["harbour","given"] (aR LD):=⟨rfl,rfl,rfl,by decide+kernel,rfl,by decide+kernel,by decide+kernel⟩
theorem MJ{f:Addr}{fd:FuncData}(F:eX K "mm" "mm" LD f fd)(T:Tx K mg G)(h_whole_millimetres:di P w K mg base "whole_millimetres" 8 ["harbour","m"] (zm K G)):
  cA P w K mg base eS 9 f fd ["harbour","given"] (vt K G 7):=by
 refine F.ok K1 (fun vs H Q E h=>?_) (fun cdv A outer s H vs Q E hr h=>?_)
 ·obtain⟨A,h,h',gp,xs,l,rfl,_⟩:=h
  rfl
 ·have nd:=K1.nd
  obtain⟨A,h,h',gp,xs,l,rfl,hA,fit,hg,ask,hxl,hmin,hst,q⟩:=h
  obtain⟨m,rfl⟩:=oj hxl
  have hf:Rb50.far m=false:=hmin (by unfold ig;simp)
  obtain⟨rfl,rfl⟩:=bY (MC hf) hst
  obtain⟨mn1,mn2⟩:=kR hf
  obtain⟨dx,h1⟩:=hA.obj
  refine⟨_,(aB (bA (cC (aa az (aa (bu gS (aj h_whole_millimetres (hr.mono (by decide)) rfl (aa (pv 0) (aa (bq bE (pv 1) az (fun _ _=>rfl)) af))) (bw rfl T.fP)) af))))),?_⟩
  sleep 1
  refine bM hg rfl ?_
  refine⟨A,h',m,rfl,hA,fit,ir (by lia) (by lia),fun H1 s1=>?_⟩
  refine⟨_,rfl,by decide,fun p hp=>?_⟩
  exact q.new hA fit (by simp) s1 hp
abbrev zC:Stmt:=bJ 125
theorem Ba:bz ["harbour","given"] ["harbour","given"] (aR zC):=⟨rfl,rfl,rfl,by decide+kernel,rfl,by decide+kernel,by decide+kernel⟩
theorem HN{f:Addr}{fd:FuncData}(F:eX K "floor" "floor" zC f fd)(T:Tx K mg G)(h_whole_below:di P w K mg base "whole_below" 2 ["x"] (l5 K wu))(h_millimetres:di P w K mg base "millimetres" 7 ["sea","minute"] (dP K G fun x m=>LJ (cB x m))):
  cA P w K mg base eS 8 f fd ["harbour","given"] (vt K G 8):=by
 refine F.ok Ba (fun vs H Q E h=>?_) (fun cdv A outer s H vs Q E hr h=>?_)
 ·obtain⟨A,h,h',gp,xs,l,rfl,_⟩:=h
  rfl
 ·have nd:=Ba.nd
  obtain⟨A,h,h',gp,xs,l,rfl,hA,fit,hg,ask,hxl,hmin,hst,q⟩:=h
  obtain⟨m,rfl⟩:=oj hxl
  have hf:Rb50.far m=false:=hmin (by unfold ig;simp)
  obtain⟨rfl,rfl⟩:=bY (GR hf) hst
  obtain⟨mn1,mn2⟩:=kR hf
  obtain⟨dx,h1⟩:=hA.obj
  obtain⟨r,o⟩:=CZ fit m
  refine⟨_,(aB (bA (cC (aa az (aa (bu gS (aj h_whole_below (hr.mono (by decide)) rfl (aa (aj h_millimetres (hr.mono (by decide)) rfl (aa (bD (pv 0) rfl) (aa (bq bE (pv 1) az (fun _ _=>rfl)) af))) af)) (bw rfl T.fP)) af))))),?_⟩
  sleep 1
  refine bN h1 T.cH T.pO rfl ?_
  refine bM hg rfl ?_
  refine⟨A.s,A.w,h',m,rfl,hA.sea,qD.fQ fit,ir (by lia) (by lia),fun H1 v1 s1 k1=>?_⟩
  refine⟨v1,_,rfl,k1,.of_ok o (by decide),?_⟩
  rw[←IB r o.lo]
  refine⟨_,rfl,by decide,fun p hp=>?_⟩
  exact q.new hA fit (by simp) s1 hp
abbrev sR:Stmt:=bJ 126
theorem vH:bz ["harbour","given"] ["harbour","given"] (aR sR):=⟨rfl,rfl,rfl,by decide+kernel,rfl,by decide+kernel,by decide+kernel⟩
theorem CV{f:Addr}{fd:FuncData}(F:eX K "decimal" "decimal" sR f fd)(T:Tx K mg G)(h_packed:di P w K mg base "packed" 1 ["value"] yg)(h_whole_millimetres:di P w K mg base "whole_millimetres" 8 ["harbour","m"] (zm K G)):
  cA P w K mg base eS 9 f fd ["harbour","given"] (vt K G 9):=by
 refine F.ok vH (fun vs H Q E h=>?_) (fun cdv A outer s H vs Q E hr h=>?_)
 ·obtain⟨A,h,h',gp,xs,l,rfl,_⟩:=h
  rfl
 ·have nd:=vH.nd
  obtain⟨A,h,h',gp,xs,l,rfl,hA,fit,hg,ask,hxl,hmin,hst,q⟩:=h
  obtain⟨m,rfl⟩:=oj hxl
  have hf:Rb50.far m=false:=hmin (by unfold ig;simp)
  obtain⟨rfl,rfl⟩:=bY (Cj hf) hst
  obtain⟨mn1,mn2⟩:=kR hf
  obtain⟨dx,h1⟩:=hA.obj
  refine⟨_,(aB (bA (bu nT (cC (aa az af)) (aj h_packed (hr.mono (by decide)) rfl (aa (aj h_whole_millimetres (hr.mono (by decide)) rfl (aa (pv 0) (aa (bq bE (pv 1) az (fun _ _=>rfl)) af))) af))))),?_⟩
  sleep 1
  refine⟨by decide,fun p hp=>?_⟩
  have s0:aH H (upd H p (.lst [.int 0])):=aH.upd hp
  refine bM (aH.lst s0 hg) rfl ?_
  refine⟨A,h',m,rfl,hA.same s0,fit,ir (by lia) (by lia),fun H1 s1=>?_⟩
  refine⟨_,rfl,fun H2 p2 s2 hn hl2=>?_⟩
  have hdl:=BU (Rb50.nearest (Rb50.millimetres (Rb50.height h' m)))
  refine⟨p,p2,[.int 0],_,rfl,rfl,s2 _ _ (s1 _ _ aF),hl2,by rw[List.length_map,hdl];decide,fun p3 hp3=>?_⟩
  have e:[V.int 0]++(Rb50.decimal (Rb50.nearest (Rb50.millimetres (Rb50.height h' m)))).map vN=(0::(Rb50.decimal (Rb50.nearest (Rb50.millimetres (Rb50.height h' m)))).map fun(x:Nat)=>(x:Int)).map V.int:=by simp[vN]
  rw[e]
  exact q.new hA fit (by rw[List.length_cons,List.length_map,hdl];decide) ((s0.trans s1).trans s2) hp3
abbrev Cu:Stmt:=bJ 127
theorem DI:bz ["harbour","given","signs","sign"] ["harbour","given"] (aR Cu):=⟨rfl,rfl,rfl,by decide+kernel,rfl,by decide+kernel,by decide+kernel⟩
theorem J0{f:Addr}{fd:FuncData}(F:eX K "text" "text" Cu f fd)(T:Tx K mg G)(h_metres_text:di P w K mg base "metres_text" 1 ["value"] m6)(h_whole_millimetres:di P w K mg base "whole_millimetres" 8 ["harbour","m"] (zm K G)):
  cA P w K mg base eS 9 f fd ["harbour","given"] (vt K G 10):=by
 refine F.ok DI (fun vs H Q E h=>?_) (fun cdv A outer s H vs Q E hr h=>?_)
 ·obtain⟨A,h,h',gp,xs,l,rfl,_⟩:=h
  rfl
 ·have nd:=DI.nd
  obtain⟨A,h,h',gp,xs,l,rfl,hA,fit,hg,ask,hxl,hmin,hst,q⟩:=h
  obtain⟨m,rfl⟩:=oj hxl
  have hf:Rb50.far m=false:=hmin (by unfold ig;simp)
  obtain⟨rfl,rfl⟩:=bY (Ju hf) hst
  obtain⟨mn1,mn2⟩:=kR hf
  obtain⟨dx,h1⟩:=hA.obj
  refine⟨_,(ai (bB (i:=2) nd rfl (Or.inl rfl) (aj h_metres_text (hr.mono (by decide)) rfl (aa (aj h_whole_millimetres (hr.mono (by decide)) rfl (aa (pv 0) (aa (bq bE (pv 1) az (fun _ _=>rfl)) af))) af)))
   (aB (bA (bu nT (cC (aa (cE fk (by rfl) T.gZ iD (aa (pv 2) af)) af)) (yG (own:=[("sign",3)]) rfl nd (LK (pv 2)) (fR rfl) (fun _ _ _ _ _=>dJ (i:=3) nd rfl (Or.inl rfl)) (fun _ _ _ _ _=>gJ) (fun _ _ _ _ _=>(cE IT (by rfl) T.xJ Mh (aa (pv 3) af)))))))),?_⟩
  sleep 1
  refine bM hg rfl ?_
  refine⟨A,h',m,rfl,hA,fit,ir (by lia) (by lia),fun H1 s1=>?_⟩
  obtain⟨r,o⟩:=CZ fit m
  refine⟨_,rfl,Nat.lt_trans (Ka r o) (Nat.pow_lt_pow_right (by decide) (by decide)),fun t ht htl=>?_⟩
  have hsz:t.cps.size=(Rb50.text (Rb50.nearest (Rb50.millimetres (Rb50.height h' m)))).length:=by rw[←ht];simp
  have hsl:t.length=t.cps.size:=rfl
  refine⟨t.length,⟨Nat.le_trans htl (by decide),rfl⟩,by decide,fun p hp=>?_⟩
  have s2:aH H1 (upd H1 p (.lst [.int (t.length:Int)])):=aH.upd hp
  refine⟨_,rfl,t,rfl,fun D hD=>?_⟩
  refine Kg hD (Nat.lt_of_le_of_lt (by lia) (show 10000<sizeLine by decide)) ?_ ?_
  ·intro i c H' Q' hc hQ
   exact⟨_,rfl,_,rfl,rfl,hQ⟩
  ·intro H3 hl3 s3
   refine⟨p,D,[.int (t.length:Int)],_,rfl,rfl,s3 _ _ aF,hl3,by rw[List.length_map];exact Nat.le_trans (m:=10001) (by simp;lia) (by decide),fun p3 hp3=>?_⟩
   have e:[V.int (t.length:Int)]++t.cps.toList.map (fun(c:Nat)=>V.int (c:Int))=(((Rb50.text (Rb50.nearest (Rb50.millimetres (Rb50.height h' m)))).length:Int)::(Rb50.text (Rb50.nearest (Rb50.millimetres (Rb50.height h' m)))).map fun(x:Nat)=>(x:Int)).map V.int:=by
    rw[ht,hsl,hsz]
    simp
   rw[e]
   exact q.new hA fit (by rw[List.length_cons,List.length_map];lia) ((s1.trans s2).trans s3) hp3
abbrev fY:Stmt:=bJ 128
theorem iE:bz ["harbour","given","found","worths","one"] ["harbour","given"] (aR fY):=⟨rfl,rfl,rfl,by decide+kernel,rfl,by decide+kernel,by decide+kernel⟩
theorem mV{f:Addr}{fd:FuncData}(F:eX K "least_and_greatest" "least_and_greatest" fY f fd)(T:Tx K mg G)(h_extremes:di P w K mg base "extremes" 7 ["sea","minute","n"] (tV K G))(h_stored_bits:di P w K mg base "stored_bits" 4 ["kind","x"] (gW K))(h_as_metres:di P w K mg base "as_metres" 4 ["height"] (jw K)):
  cA P w K mg base eS 8 f fd ["harbour","given"] (vt K G 11):=by
 refine F.ok iE (fun vs H Q E h=>?_) (fun cdv A outer s H vs Q E hr h=>?_)
 ·obtain⟨A,h,h',gp,xs,l,rfl,_⟩:=h
  rfl
 ·have nd:=iE.nd
  obtain⟨A,h,h',gp,xs,l,rfl,hA,fit,hg,ask,hxl,hmin,hst,q⟩:=h
  obtain⟨m,n,rfl⟩:=FL hxl
  have hf:Rb50.far m=false:=hmin (by unfold ig;simp)
  obtain⟨mn1,mn2⟩:=kR hf
  obtain⟨dx,h1⟩:=hA.obj
  have hst:=(GQ hf n).symm.trans hst
  refine⟨_,(ai (cZ (eT (we kC kC az (bq bE (pv 1) az (fun _ _=>rfl)) (bw rfl T.gf))) (aB (bA (cC (aa (bw rfl T.cM) af)))) cg)
   (ai (bB (i:=2) nd rfl (Or.inl rfl) (aj h_extremes (hr.mono (by decide)) rfl (aa (bD (pv 0) rfl) (aa (bq bE (pv 1) az (fun _ _=>rfl)) (aa (bq bE (pv 1) az (fun _ _=>rfl)) af)))))
   (ai (lH (i:=3) (own:=[("one",4)]) rfl nd rfl rfl rfl (zM (pv 2)) (fR rfl) (fun _ _ _ _ _=>dJ (i:=4) nd rfl (Or.inl rfl)) (fun _ _ _ _ _=>gJ) (fun _ _ _ _ _=>(aj h_stored_bits (hr.mono (by decide)) rfl (aa (cG rfl T.fz) (aa (aj h_as_metres (hr.mono (by decide)) rfl (aa (bq (Ei (K:=K) rfl) (pv 4) az (fun _ _=>rfl)) af)) af)))))
   (aB (bA (bu nT (bu nT (cC (aa az af)) (pv 3)) (yG (own:=[("one",4)]) rfl nd (zM (pv 2)) (fR rfl) (fun _ _ _ _ _=>dJ (i:=4) nd rfl (Or.inl rfl)) (fun _ _ _ _ _=>gJ) (fun _ _ _ _ _=>(bq (Ei (K:=K) rfl) (pv 4) az (fun _ _=>rfl)))))))))),?_⟩
  sleep 1
  refine bM hg rfl ?_
  refine⟨_,rfl,?_⟩
  by_cases c1:1≤n
  ·rw[if_pos c1]
   refine⟨_,rfl,?_⟩
   by_cases c2:n≤10000
   ·rw[if_pos c2]
    rw[if_neg (by lia)]at hst
    obtain⟨rfl,rfl⟩:=bY rfl hst
    obtain⟨k,rfl⟩:∃k:Nat,n=((k+1:Nat):Int):=⟨(n - 1).toNat,by lia⟩
    have hfr:∀i:Nat,Rep Rb50.EXT (cB h' (m+(i:Int))) (Rb50.height h' (m+(i:Int))):=fun i=>(gk fit.ok _).1
    have hfo:∀i:Nat,Ok Rb50.EXT (cB h' (m+(i:Int))) 110:=fun i=>(gk fit.ok _).2
    have pk:=Ma (f:=fun(i:Nat)=>cB h' (m+(i:Int))) (g:=fun(i:Nat)=>Rb50.height h' (m+(i:Int))) hfr hfo k
    have ek:((k+1:Nat):Int).toNat=k+1:=by lia
    rw[ek]at q hst
    revert q pk
    generalize Rb50.extremes ((List.range (k+1)).map fun(i:Nat)=>Rb50.height h' (m+(i:Int)))=X
    intro q pk
    refine bN h1 T.cH T.pO rfl ?_
    refine bM hg rfl ?_
    refine bM hg rfl ?_
    refine⟨A.s,A.w,h',m,k,rfl,hA.sea,qD.fQ fit,mn1,mn2,by lia,fun H1 p u v s1 hp hu hv=>?_⟩
    revert hu hv pk
    generalize rH (fun(i:Nat)=>cB h' (m+(i:Int))) k=E
    intro pk hu hv
    refine⟨_,rfl,p,rfl,⟨_,hp⟩,fun D hD=>?_⟩
    have one:∀(i:Nat) (x:V),[u,v][i]?=some x→∃(e:Num×Nat) (b:Rb50.F),mW K H1 x e∧Rep Rb50.EXT e.1 b∧Ok Rb50.EXT e.1 110∧[(Rb50.tenBytes (Rb50.metres X.1.1):Int),(Rb50.tenBytes (Rb50.metres X.2.1):Int)][i]?=some ((Rb50.tenBytes (Rb50.metres b):Nat):Int)∧[(X.1.2:Int),(X.2.2:Int)][i]?=some (e.2:Int):=by
     intro i x hx
     match i,hx with
     |0,hx=>
      cases Option.some.inj hx
      exact⟨E.1,X.1.1,hu,pk.r1,pk.o1,rfl,by rw[pk.k1];rfl⟩
     |1,hx=>
      cases Option.some.inj hx
      exact⟨E.2,X.2.1,hv,pk.r2,pk.o2,rfl,by rw[pk.k2];rfl⟩
    refine Af (K:=K) (xs:=[u,v]) [(Rb50.tenBytes (Rb50.metres X.1.1):Int),(Rb50.tenBytes (Rb50.metres X.2.1):Int)] hD hp (show 2<sizeLine by decide) rfl ?_ ?_
    ·intro i x H' Q' hx s2 hQ
     obtain⟨e,b,⟨pe,ue,rfl,he1,he2⟩,rb,ob,hb1,_⟩:=one i x hx
     obtain⟨m1,m2⟩:=fU rb ob (by decide) (by decide)
     obtain⟨_,oc⟩:=iL m1 m2
     simp only[aq,ak,aI,aG,tC,bO]
     refine⟨_,rfl,bP (aH.tup s2 he1) rfl ?_⟩
     refine⟨ue,e.1,rfl,he2.same s2,.of_ok ob (by decide),fun H3 v3 s3 k3=>?_⟩
     refine⟨_,Rb50.EXT,64,79,v3,_,111,rfl,T.toTxt.unit _,gB,k3,.of_ok m2 (by decide),oc,by decide,by decide,by decide,fun H4 s4=>?_⟩
     rw[AL m1 m2]
     exact hQ _ H4 hb1 (s3.trans s4)
    ·intro H2 hL s2
     refine⟨by decide,fun p2 hp2=>?_⟩
     have s3:aH H2 (upd H2 p2 (.lst [.int 0])):=aH.upd hp2
     refine⟨p2,D,[.int 0],_,rfl,rfl,aF,s3 _ _ hL,(show 1+2≤sizeLine by decide),fun p3 hp3=>?_⟩
     have s4:aH (upd H2 p2 (.lst [.int 0])) (upd (upd H2 p2 (.lst [.int 0])) p3 (.lst ([V.int 0]++[(Rb50.tenBytes (Rb50.metres X.1.1):Int),(Rb50.tenBytes (Rb50.metres X.2.1):Int)].map V.int))):=aH.upd hp3
     have s14:=(s2.trans s3).trans s4
     refine⟨_,rfl,p,rfl,⟨_,aH.tup s14 hp⟩,fun D2 hD2=>?_⟩
     refine Af (K:=K) (xs:=[u,v]) [(X.1.2:Int),(X.2.2:Int)] hD2 (aH.tup s14 hp) (show 2<sizeLine by decide) rfl ?_ ?_
     ·intro i x H' Q' hx s5 hQ
      obtain⟨e,b,⟨pe,ue,rfl,he1,he2⟩,rb,ob,_,hb2⟩:=one i x hx
      exact⟨_,rfl,bP (aH.tup (s14.trans s5) he1) rfl (hQ _ _ hb2 (aH.refl _))⟩
     ·intro H5 hL5 s5
      refine⟨p3,D2,_,_,rfl,rfl,s5 _ _ aF,hL5,(show 3+2≤sizeLine by decide),fun p6 hp6=>?_⟩
      exact q.new hA fit (show 5≤30000 by decide) ((s1.trans s14).trans s5) hp6
   ·rw[if_neg c2]
    rw[if_pos (by lia)]at hst
    obtain⟨rfl,rfl⟩:=bY rfl hst
    exact⟨by decide,fun p hp=>q.new hA fit (by decide) (aH.refl _) hp⟩
  ·rw[if_neg c1]
   rw[if_pos (by lia)]at hst
   obtain⟨rfl,rfl⟩:=bY rfl hst
   exact⟨by decide,fun p hp=>q.new hA fit (by decide) (aH.refl _) hp⟩
end
end TB
end
noncomputable section
namespace TB
open PySem PySem.Spec PyProof.Rows L2 TM
section
variable{P:Program}{w:World}{K:PySem.W.Frag}{mg:Str→Option Value}{base:Heap}{G:Gs}
theorem sE{ns:List Num}{xs:List Rb50.F}(h:lY ns xs):∀{i:Nat} {n:Num},ns[i]?=some n→∃x,xs[i]?=some x∧Rep Rb50.SINGLE n x∧Ok Rb50.SINGLE n 121:=by
 induction h with
 |nil=>intro i n e;simp at e
 |cons r o _ ih=>
  intro i n e
  cases i with
  |zero=>simp at e;subst e;exact⟨_,rfl,r,o⟩
  |succ i=>exact ih (by simpa using e)
theorem F6{xs:List V}{r:Nat}:pP xs none (some (r:Int))=xs.take r:=by
 have h1:HT.gC xs.length 0 none=0:=rfl
 have h2:HT.gC xs.length xs.length (some (r:Int))=min r xs.length:=by
  unfold HT.gC
  simp
  try lia
 unfold pP
 rw[h1,h2,Nat.sub_zero,List.drop_zero,Nat.min_comm,←List.take_take]
 exact List.take_of_length_le (by rw[List.length_take];lia)
abbrev s_row:Stmt:=bJ 129
theorem GY:bz ["harbour","given","one"] ["harbour","given"] (aR s_row):=⟨rfl,rfl,rfl,by decide+kernel,rfl,by decide+kernel,by decide+kernel⟩
theorem LR{f:Addr}{fd:FuncData}(F:eX K "row" "row" s_row f fd)(T:Tx K mg G)(h_is_count:di P w K mg base "is_count" 1 ["n"] i8)(h_stored_bits:di P w K mg base "stored_bits" 4 ["kind","x"] (gW K))(h_heights:di P w K mg base "heights" 9 ["sea","minute","n"] (qi K G)):
  cA P w K mg base eS 10 f fd ["harbour","given"] (vt K G 12):=by
 refine F.ok GY (fun vs H Q E h=>?_) (fun cdv A outer s H vs Q E hr h=>?_)
 ·obtain⟨A,h,h',gp,xs,l,rfl,_⟩:=h
  rfl
 ·have nd:=GY.nd
  obtain⟨A,h,h',gp,xs,l,rfl,hA,fit,hg,ask,hxl,hmin,hst,q⟩:=h
  obtain⟨m,n,rfl⟩:=FL hxl
  have hf:Rb50.far m=false:=hmin (by unfold ig;simp)
  obtain⟨mn1,mn2⟩:=kR hf
  obtain⟨dx,h1⟩:=hA.obj
  have hst:=(Lu hf n).symm.trans hst
  refine⟨_,(ai (cZ (eT (dD (aj h_is_count (hr.mono (by decide)) rfl (aa (bq bE (pv 1) az (fun _ _=>rfl)) af)))) (aB (bA (cC (aa (bw rfl T.cM) af)))) cg)
   (aB (bA (bu nT (cC (aa az af)) (yG (own:=[("one",2)]) rfl nd (gK (aj h_heights (hr.mono (by decide)) rfl (aa (bD (pv 0) rfl) (aa (bq bE (pv 1) az (fun _ _=>rfl)) (aa (bq bE (pv 1) az (fun _ _=>rfl)) af))))) (fR rfl) (fun _ _ _ _ _=>dJ (i:=2) nd rfl (Or.inl rfl)) (fun _ _ _ _ _=>gJ) (fun _ _ _ _ _=>(aj h_stored_bits (hr.mono (by decide)) rfl (aa (cG rfl T.cu) (aa (pv 2) af))))))))),?_⟩
  sleep 1
  refine bM hg rfl ?_
  refine⟨n,rfl,?_⟩
  by_cases c:0≤n∧n≤10000
  ·refine .inr ⟨by show true=decide _;rw[decide_eq_true c],?_⟩
   rw[if_neg (by lia)]at hst
   obtain⟨rfl,rfl⟩:=bY rfl hst
   obtain⟨k,rfl⟩:∃k:Nat,n=(k:Int):=⟨n.toNat,by lia⟩
   have sr:=Hi fit.ok (fun w hw=>(fit.wv w hw).2) m (n:=k) (by lia)
   have hrl:=DQ h' m k
   rw[Int.toNat_natCast]at q
   refine⟨by decide,fun p hp=>?_⟩
   have s0:aH H (upd H p (.lst [.int 0])):=aH.upd hp
   generalize hte:aq (gW K) [] E0 (ak (tC (V.ref G.aS)) (ak (aG 2) aI))=te
   simp only[MB,Em,aq,ak,aI,aG,bQ,bO,tC]
   refine⟨_,rfl,bN (s0 _ _ h1) T.cH T.pO rfl ?_⟩
   refine⟨_,rfl,bM (aH.lst s0 hg) rfl ?_⟩
   refine⟨_,rfl,bM (aH.lst s0 hg) rfl ?_⟩
   refine⟨A.s,A.w,h',m,k,rfl,hA.sea.same s0,qD.fQ fit,ir (by lia) (by lia),by lia,fun H1 p1 ys s1 _ hp1 hn1=>?_⟩
   have hyl:ys.length=k:=by rw[Paired.length hn1,lY.length sr,hrl]
   refine⟨p1,rfl,⟨_,dY.of hp1⟩,fun D hD=>?_⟩
   refine wZ (K:=K) (xs:=ys) ((Rb50.row h' m k).map fun(x:Nat)=>(x:Int)) hD (dY.of hp1) (Nat.lt_of_le_of_lt (m:=10000) (by lia) (by decide)) (by rw[List.length_map,hrl];exact hyl) ?_ ?_
   ·intro i y H' Q' hy s2 hQ
    obtain⟨nm,hn,kn⟩:=oH.get hn1 hy
    obtain⟨x,hx,rx,ox⟩:=sE sr hn
    obtain⟨_,oc⟩:=iL rx ox
    rw[←hte]
    simp only[aq,ak,aI,aG,tC,bO]
    refine⟨_,rfl,?_⟩
    refine⟨_,Rb50.SINGLE,23,31,y,nm,122,rfl,T.toTxt.single _,cF,kn.same s2,.cY ox (by decide),oc,by decide,by decide,by decide,fun H4 s4=>?_⟩
    rw[m7 rx ox]
    exact hQ _ H4 (by rw[List.getElem?_map,hx];rfl) s4
   ·intro H2 hL s2
    refine⟨p,D,[.int 0],_,rfl,rfl,s2 _ _ (s1 _ _ aF),hL,by rw[List.length_map,List.length_map,hrl];exact Nat.le_trans (m:=10001) (by simp;lia) (by decide),fun p3 hp3=>?_⟩
    exact q.new hA fit (by rw[List.length_cons,List.length_map,hrl];lia) ((s0.trans s1).trans s2) hp3
  ·refine .inl ⟨by show false=decide _;rw[decide_eq_false c],?_⟩
   rw[if_pos c]at hst
   obtain⟨rfl,rfl⟩:=bY rfl hst
   exact⟨by decide,fun p hp=>q.new hA fit (by decide) (aH.refl _) hp⟩
abbrev G3:Stmt:=bJ 137
theorem G0:bz ["harbour","given","chosen"] ["harbour","given"] (aR G3):=⟨rfl,rfl,rfl,by decide+kernel,rfl,by decide+kernel,by decide+kernel⟩
theorem LS{f:Addr}{fd:FuncData}(F:eX K "may" "may" G3 f fd)(T:Tx K mg G)(h_has_lock:di P w K mg base "has_lock" 1 ["harbour","i"] (i9 K G))(h_is_from_zero:di P w K mg base "is_from_zero" 1 ["single","most"] gH)(h_is_deep_enough:di P w K mg base "is_deep_enough" 6 ["lock","level","draught"] (zo K G))(h_of_single:di P w K mg base "of_single" 1 ["bits"] (g8 K)):
  cA P w K mg base eS 7 f fd ["harbour","given"] (vt K G 18):=by
 refine F.ok G0 (fun vs H Q E h=>?_) (fun cdv A outer s H vs Q E hr h=>?_)
 ·obtain⟨A,h,h',gp,xs,l,rfl,_⟩:=h
  rfl
 ·have nd:=G0.nd
  obtain⟨A,h,h',gp,xs,l,rfl,hA,fit,hg,ask,hxl,hmin,hst,q⟩:=h
  obtain⟨i,d,rfl⟩:=FL hxl
  obtain⟨_,ask2⟩:=tO (show(Rb50Neutral.whole32 i&&Rb50Neutral.natural d 32)=true from ask)
  obtain⟨d,rfl,hd⟩:=n32 ask2
  obtain⟨dx,h1⟩:=hA.obj
  have hll:A.ls.length=h.locks.length:=Paired.length hA.xR
  refine⟨_,(ai (cZ (eT (dD (aj h_has_lock (hr.mono (by decide)) rfl (aa (pv 0) (aa (bq bE (pv 1) az (fun _ _=>rfl)) af))))) (aB (bA (cC (aa (bw rfl T.cM) af)))) cg)
   (ai (cZ (eT (dD (aj h_is_from_zero (hr.mono (by decide)) rfl (aa (bq bE (pv 1) az (fun _ _=>rfl)) (aa (bw rfl T.gg) af))))) (aB (bA (cC (aa (bw rfl T.eN) af)))) cg)
   (ai (bB (i:=2) nd rfl (Or.inl rfl) (bq bE (bD (pv 0) rfl) (bq bE (pv 1) az (fun _ _=>rfl)) (fun _ _=>rfl)))
   (aB (bA (cC (aa (fO (dD (aj h_is_deep_enough (hr.mono (by decide)) rfl (aa (pv 2) (aa (bD (pv 2) rfl) (aa (aj h_of_single (hr.mono (by decide)) rfl (aa (bq bE (pv 1) az (fun _ _=>rfl)) af)) af))))) az az) af))))))),?_⟩
  sleep 1
  refine bM hg rfl ?_
  refine⟨A,h,i,rfl,hA,?_⟩
  by_cases c:0≤i∧i<h.locks.length
  ·refine .inr ⟨by show true=decide _;rw[decide_eq_true c],?_⟩
   obtain⟨k,rfl⟩:∃k:Nat,i=(k:Int):=⟨i.toNat,by lia⟩
   have hk:k<h.locks.length:=by lia
   obtain⟨lk,hlk⟩:∃l,h.locks[k]?=some l:=⟨_,List.getElem?_eq_getElem hk⟩
   obtain⟨la,hla⟩:∃a,A.ls[k]?=some a:=⟨_,List.getElem?_eq_getElem (by lia)⟩
   have hlat:dU K G H la lk:=by
    obtain⟨l',z1,z2⟩:=Paired.get' hA.xR hla
    rw[hlk]at z1
    cases z1
    exact z2
   have fl:=fit.lk lk (List.mem_of_getElem? hlk)
   have hst:=(Lv (d:=d) hlk).symm.trans hst
   rw[yh hd]at hst
   refine bM hg rfl ?_
   refine⟨d,1149239296,rfl,?_⟩
   by_cases c2:d≤1149239296∨d=2147483648
   ·refine .inr ⟨by show true=decide _;rw[decide_eq_true c2],?_⟩
    rw[decide_eq_true c2,if_neg (by decide)]at hst
    obtain⟨rfl,rfl⟩:=bY rfl hst
    obtain⟨rd,od⟩:=DC hd c2
    have hat:zd (A.ls.map V.ref) (k:Int)=some (.ref la):=eV (by rw[List.getElem?_map,hla];rfl)
    refine bN h1 T.cH T.jr rfl ?_
    refine bM hg rfl ?_
    refine bM (dY.of hA.lst) hat ?_
    obtain⟨ldx,av,sv,iv,nv,lv,ln,g1,g2,g3,g4,g5,g6,g7⟩:=hlat.ex
    refine bN g1 T.cL T.gz rfl ?_
    refine bM hg rfl ?_
    refine⟨d,rfl,hd,fun H1 v1 s1 k1=>?_⟩
    refine⟨la,lk,lv,v1,ln,_,_,_,rfl,hlat.same s1,fl,g6.same s1,g7,k1,rd,od,fun H2 s2=>?_⟩
    cases hb:Rb50.deep lk.level lk.sill d with
    |true=>
     rw[hb]at q
     refine .inr ⟨rfl,by decide,fun p hp=>q.new hA fit (by decide) (s1.trans s2) hp⟩
    |false=>
     rw[hb]at q
     refine .inl ⟨rfl,by decide,fun p hp=>q.new hA fit (by decide) (s1.trans s2) hp⟩
   ·refine .inl ⟨by show false=decide _;rw[decide_eq_false c2],?_⟩
    rw[decide_eq_false c2,if_pos rfl]at hst
    obtain⟨rfl,rfl⟩:=bY rfl hst
    exact⟨by decide,fun p hp=>q.new hA fit (by decide) (aH.refl _) hp⟩
  ·refine .inl ⟨by show false=decide _;rw[decide_eq_false c],?_⟩
   obtain⟨rfl,rfl⟩:=bY (ES c) hst
   exact⟨by decide,fun p hp=>q.new hA fit (by decide) (aH.refl _) hp⟩
abbrev Cz:Stmt:=bJ 138
theorem DM:bz ["harbour","given","chosen","singles","one"] ["harbour","given"] (aR Cz):=⟨rfl,rfl,rfl,by decide+kernel,rfl,by decide+kernel,by decide+kernel⟩
theorem J4{f:Addr}{fd:FuncData}(F:eX K "look" "look" Cz f fd)(T:Tx K mg G)(h_has_lock:di P w K mg base "has_lock" 1 ["harbour","i"] (i9 K G))(h_level_now:di P w K mg base "level_now" 9 ["harbour"] (l7 K G))(h_depth:di P w K mg base "depth" 5 ["lock","level"] (vp K G))(h_stored_bits:di P w K mg base "stored_bits" 4 ["kind","x"] (gW K)):
  cA P w K mg base eS 10 f fd ["harbour","given"] (vt K G 19):=by
 refine F.ok DM (fun vs H Q E h=>?_) (fun cdv A outer s H vs Q E hr h=>?_)
 ·obtain⟨A,h,h',gp,xs,l,rfl,_⟩:=h
  rfl
 ·have nd:=DM.nd
  obtain⟨A,h,h',gp,xs,l,rfl,hA,fit,hg,ask,hxl,hmin,hst,q⟩:=h
  obtain⟨i,rfl⟩:=oj hxl
  obtain⟨dx,h1⟩:=hA.obj
  have hll:A.ls.length=h.locks.length:=Paired.length hA.xR
  refine⟨_,(ai (cZ (eT (dD (aj h_has_lock (hr.mono (by decide)) rfl (aa (pv 0) (aa (bq bE (pv 1) az (fun _ _=>rfl)) af))))) (aB (bA (cC (aa (bw rfl T.cM) af)))) cg)
   (ai (bB (i:=2) nd rfl (Or.inl rfl) (bq bE (bD (pv 0) rfl) (bq bE (pv 1) az (fun _ _=>rfl)) (fun _ _=>rfl)))
   (ai (bB (i:=3) nd rfl (Or.inl rfl) (fL (aa (bD (pv 2) rfl) (aa (aj h_level_now (hr.mono (by decide)) rfl (aa (pv 0) af)) (aa (bD (pv 2) rfl) (aa (aj h_depth (hr.mono (by decide)) rfl (aa (pv 2) (aa (bD (pv 2) rfl) af))) af))))))
   (aB (bA (bu nT (cC (aa (bD (pv 2) rfl) af)) (yG (own:=[("one",4)]) rfl nd (zM (pv 3)) (fR rfl) (fun _ _ _ _ _=>dJ (i:=4) nd rfl (Or.inl rfl)) (fun _ _ _ _ _=>gJ) (fun _ _ _ _ _=>(aj h_stored_bits (hr.mono (by decide)) rfl (aa (cG rfl T.cu) (aa (pv 4) af))))))))))),?_⟩
  sleep 1
  refine bM hg rfl ?_
  refine⟨A,h,i,rfl,hA,?_⟩
  by_cases c:0≤i∧i<h.locks.length
  ·refine .inr ⟨by show true=decide _;rw[decide_eq_true c],?_⟩
   obtain⟨k,rfl⟩:∃k:Nat,i=(k:Int):=⟨i.toNat,by lia⟩
   have hk:k<h.locks.length:=by lia
   obtain⟨lk,hlk⟩:∃l,h.locks[k]?=some l:=⟨_,List.getElem?_eq_getElem hk⟩
   obtain⟨la,hla⟩:∃a,A.ls[k]?=some a:=⟨_,List.getElem?_eq_getElem (by lia)⟩
   have hlat:dU K G H la lk:=by
    obtain⟨l',z1,z2⟩:=Paired.get' hA.xR hla
    rw[hlk]at z1
    cases z1
    exact z2
   have fl:=fit.lk lk (List.mem_of_getElem? hlk)
   obtain⟨rfl,rfl⟩:=bY (Jw hlk) hst
   have hat:zd (A.ls.map V.ref) (k:Int)=some (.ref la):=eV (by rw[List.getElem?_map,hla];rfl)
   refine bN h1 T.cH T.jr rfl ?_
   refine bM hg rfl ?_
   refine bM (dY.of hA.lst) hat ?_
   obtain⟨ldx,av,sv,iv,nv,lv,ln,g1,g2,g3,g4,g5,g6,g7⟩:=hlat.ex
   have ls:xT (gX Rb50.SINGLE lk.sill) lk.sill:=⟨fl.sill.1,fl.sill.2⟩
   have sl:=qP fit.ok h'.now
   obtain⟨d1,d2⟩:=jc g7.r ls.r g7.o ls.o (by decide)
   refine bN g1 T.cL T.gz rfl ?_
   refine⟨A,h',rfl,hA,fit,fun H1 v1 s1 k1=>?_⟩
   refine bN (s1 _ _ g1) T.cL T.tG rfl ?_
   refine bN (s1 _ _ g1) T.cL T.gz rfl ?_
   refine⟨la,lk,lv,ln,rfl,hlat.same s1,fl,g6.same s1,n9 g7,fun H2 v2 s2 k2=>?_⟩
   refine⟨by decide,fun p hp=>?_⟩
   have s3:aH H2 (upd H2 p (.tup [lv,v1,nv,v2])):=aH.upd hp
   have s13:=(s1.trans s2).trans s3
   refine bN (s13 _ _ g1) T.cL T.Ag rfl ?_
   refine⟨by decide,fun p1 hp1=>?_⟩
   have s4:aH (upd H2 p (.tup [lv,v1,nv,v2])) (upd (upd H2 p (.tup [lv,v1,nv,v2])) p1 (.lst [.int lk.open_])):=aH.upd hp1
   have hT:jF K (upd (upd H2 p (.tup [lv,v1,nv,v2])) p1 (.lst [.int lk.open_])) p [lv,v1,nv,v2]:=aH.tup s4 (jF.of aF)
   have s14:=s13.trans s4
   refine⟨_,rfl,p,rfl,⟨_,hT⟩,fun D hD=>?_⟩
   have one:∀(i:Nat) (x:V),[lv,v1,nv,v2][i]?=some x→∃(n:Num) (b:Rb50.F),bI K (upd (upd H2 p (.tup [lv,v1,nv,v2])) p1 (.lst [.int lk.open_])) x n∧Rep Rb50.SINGLE n b∧Ok Rb50.SINGLE n 111∧[(lk.level:Int),(Rb50.sea h' h'.now:Int),(lk.inner:Int),(Rb50.sLess lk.level lk.sill:Int)][i]?=some ((b:Nat):Int):=by
    intro i x hx
    match i,hx with
    |0,hx=>cases Option.some.inj hx;exact⟨ln,_,g6.same s14,g7.r,g7.o.mono (by decide),rfl⟩
    |1,hx=>cases Option.some.inj hx;exact⟨_,_,(k1.same s2).same (s3.trans s4),sl.r,sl.o.mono (by decide),rfl⟩
    |2,hx=>cases Option.some.inj hx;exact⟨_,_,g5.same s14,fl.inner.1,fl.inner.2.mono (by decide),rfl⟩
    |3,hx=>cases Option.some.inj hx;exact⟨_,_,k2.same (s3.trans s4),d1,d2,rfl⟩
   refine Af (K:=K) (xs:=[lv,v1,nv,v2]) [(lk.level:Int),(Rb50.sea h' h'.now:Int),(lk.inner:Int),(Rb50.sLess lk.level lk.sill:Int)] hD hT (show 4<sizeLine by decide) rfl ?_ ?_
   ·intro i x H' Q' hx s5 hQ
    obtain⟨n,b,kn,rb,ob,hz⟩:=one i x hx
    obtain⟨_,oc⟩:=iL rb ob
    simp only[aq,ak,aI,aG,tC,bO]
    refine⟨_,rfl,?_⟩
    refine⟨_,Rb50.SINGLE,23,31,x,n,112,rfl,T.toTxt.single _,cF,kn.same s5,.cY ob (by decide),oc,by decide,by decide,by decide,fun H4 s6=>?_⟩
    rw[m7 rb ob]
    exact hQ _ H4 hz s6
   ·intro H5 hL s5
    refine⟨p1,D,[.int lk.open_],_,rfl,rfl,s5 _ _ aF,hL,(show 1+4≤sizeLine by decide),fun p3 hp3=>?_⟩
    exact q.new hA fit (show 5≤30000 by decide) (s14.trans s5) hp3
  ·refine .inl ⟨by show false=decide _;rw[decide_eq_false c],?_⟩
   obtain⟨rfl,rfl⟩:=bY (Ci c) hst
   exact⟨by decide,fun p hp=>q.new hA fit (by decide) (aH.refl _) hp⟩
abbrev Cs:Stmt:=bJ 139
theorem DG:bz ["harbour","given","chosen","draught","k"] ["harbour","given"] (aR Cs):=⟨rfl,rfl,rfl,by decide+kernel,rfl,by decide+kernel,by decide+kernel⟩
theorem JY{f:Addr}{fd:FuncData}(F:eX K "when" "when" Cs f fd)(T:Tx K mg G)(h_of_single:di P w K mg base "of_single" 1 ["bits"] (g8 K))(h_is_from_zero:di P w K mg base "is_from_zero" 1 ["single","most"] gH)(h_is_deep_enough:di P w K mg base "is_deep_enough" 6 ["lock","level","draught"] (zo K G))(h_has_lock:di P w K mg base "has_lock" 1 ["harbour","i"] (i9 K G))(h_is_count:di P w K mg base "is_count" 1 ["n"] i8)(h_sea_level:di P w K mg base "sea_level" 8 ["sea","minute"] (dP K G zK)):
  cA P w K mg base eS 9 f fd ["harbour","given"] (vt K G 20):=by
 refine F.ok DG (fun vs H Q E h=>?_) (fun cdv A outer s H vs Q E hr h=>?_)
 ·obtain⟨A,h,h',gp,xs,l,rfl,_⟩:=h
  rfl
 ·have nd:=DG.nd
  obtain⟨A,h,h',gp,xs,l,rfl,hA,fit,hg,ask,hxl,hmin,hst,q⟩:=h
  obtain⟨i,d,n,rfl⟩:=Ke hxl
  obtain⟨_,ask2⟩:=tO (show(Rb50Neutral.whole32 i&&(Rb50Neutral.natural d 32&&Rb50Neutral.whole32 n))=true from ask)
  obtain⟨ask3,_⟩:=tO ask2
  obtain⟨d,rfl,hd⟩:=n32 ask3
  obtain⟨dx,h1⟩:=hA.obj
  have hll:A.ls.length=h.locks.length:=Paired.length hA.xR
  have hlo:=fit.lo
  have hhi:=fit.hi
  refine⟨_,(ai (cZ (PW.pt (uc (eT (dD (aj h_has_lock (hr.mono (by decide)) rfl (aa (pv 0) (aa (bq bE (pv 1) az (fun _ _=>rfl)) af))))) (nH (eT (dD (aj h_is_count (hr.mono (by decide)) rfl (aa (bq bE (pv 1) az (fun _ _=>rfl)) af))))))) (aB (bA (cC (aa (bw rfl T.cM) af)))) cg)
   (ai (cZ (eT (dD (aj h_is_from_zero (hr.mono (by decide)) rfl (aa (bq bE (pv 1) az (fun _ _=>rfl)) (aa (bw rfl T.gg) af))))) (aB (bA (cC (aa (bw rfl T.eN) af)))) cg)
   (ai (bB (i:=2) nd rfl (Or.inl rfl) (bq bE (bD (pv 0) rfl) (bq bE (pv 1) az (fun _ _=>rfl)) (fun _ _=>rfl)))
   (ai (bB (i:=3) nd rfl (Or.inl rfl) (aj h_of_single (hr.mono (by decide)) rfl (aa (bq bE (pv 1) az (fun _ _=>rfl)) af)))
   (ai (jq PassesOwn.never rfl (E9 rfl T.jE (aa (bq bE (pv 1) az (fun _ _=>rfl)) af)) (dJ (i:=4) nd rfl (Or.inl rfl))
    (aB (cZ (dD (aj h_is_deep_enough (hr.mono (by decide)) rfl (aa (pv 2) (aa (aj h_sea_level (hr.mono (by decide)) rfl (aa (bD (pv 0) rfl) (aa (bu cT (bD (pv 0) rfl) (pv 4)) af))) (aa (pv 3) af))))) (aB (bA (cC (aa (pv 4) af)))) cg)))
   (aB (bA (cC (aa (bq bE (pv 1) az (fun _ _=>rfl)) af))))))))),?_⟩
  sleep 1
  refine bM hg rfl ?_
  refine⟨A,h,i,rfl,hA,?_⟩
  by_cases c:0≤i∧i<h.locks.length
  ·refine .inr ⟨by show true=decide _;rw[decide_eq_true c],?_⟩
   refine bM hg rfl ?_
   refine⟨n,rfl,?_⟩
   by_cases c1:0≤n∧n≤10000
   ·refine .inr ⟨by show true=decide _;rw[decide_eq_true c1],?_⟩
    obtain⟨k,rfl⟩:∃k:Nat,i=(k:Int):=⟨i.toNat,by lia⟩
    obtain⟨N,rfl⟩:∃N:Nat,n=(N:Int):=⟨n.toNat,by lia⟩
    have hk:k<h.locks.length:=by lia
    obtain⟨lk,hlk⟩:∃l,h.locks[k]?=some l:=⟨_,List.getElem?_eq_getElem hk⟩
    obtain⟨la,hla⟩:∃a,A.ls[k]?=some a:=⟨_,List.getElem?_eq_getElem (by lia)⟩
    have hlat:dU K G H la lk:=by
     obtain⟨l',z1,z2⟩:=Paired.get' hA.xR hla
     rw[hlk]at z1
     cases z1
     exact z2
    have fl:=fit.lk lk (List.mem_of_getElem? hlk)
    have hst:=(Jr (d:=d) (n:=N) hlk (by lia)).symm.trans hst
    rw[yh hd]at hst
    refine bM hg rfl ?_
    refine⟨d,1149239296,rfl,?_⟩
    by_cases c2:d≤1149239296∨d=2147483648
    ·refine .inr ⟨by show true=decide _;rw[decide_eq_true c2],?_⟩
     rw[decide_eq_true c2,if_neg (by decide)]at hst
     obtain⟨rfl,rfl⟩:=bY rfl hst
     obtain⟨rd,od⟩:=DC hd c2
     have hat:zd (A.ls.map V.ref) (k:Int)=some (.ref la):=eV (by rw[List.getElem?_map,hla];rfl)
     refine bN h1 T.cH T.jr rfl ?_
     refine bM hg rfl ?_
     refine bM (dY.of hA.lst) hat ?_
     refine bM hg rfl ?_
     refine⟨d,rfl,hd,fun H1 v1 s1 k1=>?_⟩
     refine⟨_,rfl,?_⟩
     refine bM (K:=K) (i:=2) (v:=.int N) (aH.lst s1 hg) rfl ?_
     refine⟨_,rfl,by lia,by lia,?_⟩
     rw[Int.toNat_natCast]
     refine pI (fun j σ H'=>∃v4:Option V,σ=[some (.ref A.a),some (.ref gp),some (.ref la),some v1,v4]∧aH H H'∧bI K H' v1 (gX Rb50.SINGLE d)∧∀i,i<j→Rb50.deep (Rb50.sea h' (h'.now+(i:Int))) lk.sill d=false)
      ⟨none,rfl,s1,k1,fun i hi=>by lia⟩ ?_ ?_
     ·rintro j σ H' hj ⟨v4,rfl,s2,k2,hno⟩
      sleep 1
      refine bN (s2 _ _ h1) T.cH T.pO rfl ?_
      refine bN (s2 _ _ h1) T.cH T.Aj rfl ?_
      refine⟨_,rfl,?_⟩
      refine⟨A.s,A.w,h',_,rfl,hA.sea.same s2,qD.fQ fit,ir (by lia) (by lia),fun H2 v2 s3 k3=>?_⟩
      refine⟨la,lk,v2,v1,_,_,_,_,rfl,hlat.same (s2.trans s3),fl,k3,qP fit.ok _,k2.same s3,rd,od,fun H3 s4=>?_⟩
      have s24:=(s2.trans s3).trans s4
      cases hb:Rb50.deep (Rb50.sea h' (h'.now+(j:Int))) lk.sill d with
      |true=>
       have e:=BR (p:=fun(k:Nat)=>Rb50.deep (Rb50.sea h' (h'.now+(k:Int))) lk.sill d) (n:=N) hj hb hno
       rw[e]at q
       refine .inr ⟨rfl,by decide,fun p hp=>?_⟩
       exact q.new hA fit (show 1≤30000 by decide) s24 hp
      |false=>
       refine .inl ⟨rfl,s24,(k2.same s3).same s4,fun i hi=>?_⟩
       by_cases z:i=j
       ·rw[z];exact hb
       ·exact hno i (by lia)
     ·rintro σ H' ⟨v4,rfl,s2,k2,hno⟩
      have e:=Dc (p:=fun(k:Nat)=>Rb50.deep (Rb50.sea h' (h'.now+(k:Int))) lk.sill d) (n:=N) hno
      rw[e]at q
      sleep 1
      refine bM (aH.lst s2 hg) rfl ?_
      exact⟨by decide,fun p hp=>q.new hA fit (show 1≤30000 by decide) s2 hp⟩
    ·refine .inl ⟨by show false=decide _;rw[decide_eq_false c2],?_⟩
     rw[decide_eq_false c2,if_pos rfl]at hst
     obtain⟨rfl,rfl⟩:=bY rfl hst
     exact⟨by decide,fun p hp=>q.new hA fit (by decide) (aH.refl _) hp⟩
   ·refine .inl ⟨by show false=decide _;rw[decide_eq_false c1],?_⟩
    obtain⟨rfl,rfl⟩:=bY (vm (d:=d) (.inr c1)) hst
    exact⟨by decide,fun p hp=>q.new hA fit (by decide) (aH.refl _) hp⟩
  ·refine .inl ⟨by show false=decide _;rw[decide_eq_false c],?_⟩
   obtain⟨rfl,rfl⟩:=bY (vm (d:=d) (.inl c)) hst
   exact⟨by decide,fun p hp=>q.new hA fit (by decide) (aH.refl _) hp⟩
abbrev zy:Stmt:=bJ 130
theorem AZ:bz ["harbour","given","whole_row","found","first","times","k"] ["harbour","given"] (aR zy):=⟨rfl,rfl,rfl,by decide+kernel,rfl,by decide+kernel,by decide+kernel⟩
theorem HJ{f:Addr}{fd:FuncData}(F:eX K "turns" "turns" zy f fd)(T:Tx K mg G)(h_heights:di P w K mg base "heights" 9 ["sea","minute","n"] (qi K G))(h_high_and_low:di P w K mg base "high_and_low" 4 ["row"] (tU K))(h_is_count:di P w K mg base "is_count" 1 ["n"] i8)(h_stored_bits:di P w K mg base "stored_bits" 4 ["kind","x"] (gW K)):
  cA P w K mg base eS 10 f fd ["harbour","given"] (vt K G 13):=by
 refine F.ok AZ (fun vs H Q E h=>?_) (fun cdv A outer s H vs Q E hr h=>?_)
 ·obtain⟨A,h,h',gp,xs,l,rfl,_⟩:=h
  rfl
 ·have nd:=AZ.nd
  obtain⟨A,h,h',gp,xs,l,rfl,hA,fit,hg,ask,hxl,hmin,hst,q⟩:=h
  obtain⟨m,n,r,rfl⟩:=Ke hxl
  have hf:Rb50.far m=false:=hmin (by unfold ig;simp)
  obtain⟨mn1,mn2⟩:=kR hf
  obtain⟨dx,h1⟩:=hA.obj
  have hst:=(GN hf n r).symm.trans hst
  refine⟨_,(ai (cZ (PW.pt (uc (eT (dD (aj h_is_count (hr.mono (by decide)) rfl (aa (bq bE (pv 1) az (fun _ _=>rfl)) af)))) (nH (eT (dD (aj h_is_count (hr.mono (by decide)) rfl (aa (bq bE (pv 1) az (fun _ _=>rfl)) af))))))) (aB (bA (cC (aa (bw rfl T.cM) af)))) cg)
   (ai (bB (i:=2) nd rfl (Or.inr rfl) (aj h_heights (hr.mono (by decide)) rfl (aa (bD (pv 0) rfl) (aa (bq bE (pv 1) az (fun _ _=>rfl)) (aa (bq bE (pv 1) az (fun _ _=>rfl)) af)))))
   (ai (bB (i:=3) nd rfl (Or.inl rfl) (aj h_high_and_low (hr.mono (by decide)) rfl (aa (pv 2) af)))
   (ai (bB (i:=4) nd rfl (Or.inl rfl) (nP uL (pv 3) uS (oY (bq bE (pv 1) az (fun _ _=>rfl)))))
   (ai (lH (i:=5) (own:=[("k",6)]) rfl nd rfl rfl rfl (gK (pv 4)) (fR rfl) (fun _ _ _ _ _=>dJ (i:=6) nd rfl (Or.inl rfl)) (fun _ _ _ _ _=>gJ) (fun _ _ _ _ _=>(bu gS (pv 6) (bw rfl T.gO))))
   (aB (bA (bu nT (bu nT (cC (aa (cE fk (by rfl) T.gZ iD (aa (pv 3) af)) af)) (pv 5)) (yG (own:=[("k",6)]) rfl nd (gK (pv 4)) (fR rfl) (fun _ _ _ _ _=>dJ (i:=6) nd rfl (Or.inl rfl)) (fun _ _ _ _ _=>gJ) (fun _ _ _ _ _=>(aj h_stored_bits (hr.mono (by decide)) rfl (aa (cG rfl T.cu) (aa (bq (Iq (K:=K) rfl) (pv 2) (cE jh (by rfl) T.oG oE (aa (pv 6) af)) (fun _ _=>rfl)) af))))))))))))),?_⟩
  sleep 1
  refine bM hg rfl ?_
  refine⟨n,rfl,?_⟩
  by_cases c1:0≤n∧n≤10000
  ·refine .inr ⟨by show true=decide _;rw[decide_eq_true c1],?_⟩
   refine bM hg rfl ?_
   refine⟨r,rfl,?_⟩
   by_cases c2:0≤r∧r≤10000
   ·refine .inr ⟨by show true=decide _;rw[decide_eq_true c2],?_⟩
    rw[if_neg (by lia)]at hst
    obtain⟨rfl,rfl⟩:=bY rfl hst
    obtain⟨N,rfl⟩:∃N:Nat,n=(N:Int):=⟨n.toNat,by lia⟩
    obtain⟨R,rfl⟩:∃R:Nat,r=(R:Int):=⟨r.toNat,by lia⟩
    have sr:=Hi fit.ok (fun w hw=>(fit.wv w hw).2) m (n:=N) (by lia)
    have hrl:=DQ h' m N
    have hpl:(Bo h' m N).length=N:=by rw[lY.length sr,hrl]
    rw[Int.toNat_natCast,Int.toNat_natCast,AD sr,List.length_map,←List.map_take,List.map_map,List.map_map,hrl]at q
    refine bN h1 T.cH T.pO rfl ?_
    refine bM hg rfl ?_
    refine bM hg rfl ?_
    refine⟨A.s,A.w,h',m,N,rfl,hA.sea,qD.fQ fit,ir (by lia) (by lia),by lia,fun H1 p1 ys s1 _ hp1 hn1=>?_⟩
    have hyl:ys.length=N:=by rw[Paired.length hn1,hpl]
    refine⟨p1,ys,Bo h' m N,rfl,hp1,hn1,fun n hn=>?_,by lia,fun H2 p2 s2 _ hp2=>?_⟩
    ·obtain⟨i,hi⟩:=List.getElem?_of_mem hn
     obtain⟨x,_,_,ox⟩:=sE sr hi
     exact .cY ox (by decide)
    rw[hpl]at hp2
    have hmem:∀z,z∈fJ (Bo h' m N) (N - 2)→z.natAbs<N:=fun z hz=>by have:=wc hz;lia
    have hPl:=kP (Bo h' m N) (N - 2)
    revert hp2 hmem hPl q
    generalize fJ (Bo h' m N) (N - 2)=PT
    intro q hp2 hmem hPl
    have hPR:(PT.take R).length≤10000:=by rw[List.length_take];lia
    refine⟨_,rfl,_,rfl,?_⟩
    refine⟨gp,_,2,.int R,rfl,rfl,aH.lst (s1.trans s2) hg,rfl,?_⟩
    refine⟨_,rfl,p2,_,rfl,dY.of hp2,fun p3 hp3=>?_⟩
    rw[F6,←List.map_take]
    have s3:aH H2 (upd H2 p3 (.lst ((PT.take R).map V.int))):=aH.upd hp3
    refine⟨_,rfl,p3,rfl,⟨_,dY.of aF⟩,fun D hD=>?_⟩
    refine wZ (K:=K) (xs:=(PT.take R).map V.int) ((PT.take R).map fun z=>z%4294967296) hD (dY.of aF) (by rw[List.length_map];exact Nat.lt_of_le_of_lt hPR (by decide)) (by rw[List.length_map,List.length_map]) ?_ ?_
    ·intro i x H' Q' hx s4 hQ
     rw[List.getElem?_map]at hx
     obtain⟨z,hz,rfl⟩:∃z,(PT.take R)[i]?=some z∧V.int z=x:=by
      cases hy:(PT.take R)[i]? with
      |none=>rw[hy]at hx;cases hx
      |some z=>rw[hy]at hx;exact⟨z,rfl,Option.some.inj hx⟩
     refine⟨_,rfl,_,_,rfl,rfl,(show(0:Int)<4294967296 by decide),hQ _ _ (by rw[List.getElem?_map,hz];rfl) (aH.refl _)⟩
    ·intro H4 hL4 s4
     have hp2':=s4 _ _ (s3 _ _ hp2)
     refine⟨PT.length,.inl ⟨_,dY.of hp2',by rw[List.length_map]⟩,by decide,fun p5 hp5=>?_⟩
     have s5:aH H4 (upd H4 p5 (.lst [.int (PT.length:Int)])):=aH.upd hp5
     refine⟨p5,D,[.int (PT.length:Int)],_,rfl,rfl,aF,s5 _ _ hL4,by rw[List.length_map,List.length_map];exact Nat.le_trans (m:=10001) (by simp;lia) (by decide),fun p6 hp6=>?_⟩
     have s6:aH (upd H4 p5 (.lst [.int (PT.length:Int)])) (upd (upd H4 p5 (.lst [.int (PT.length:Int)])) p6 (.lst ([V.int (PT.length:Int)]++((PT.take R).map fun z=>z%4294967296).map V.int))):=aH.upd hp6
     have s26:=((s3.trans s4).trans s5).trans s6
     have s16:=s2.trans s26
     have hfir:=s6 _ _ (s5 _ _ (s4 _ _ (aF (H:=H2) (a:=p3) (o:=.lst ((PT.take R).map V.int)))))
     refine⟨_,rfl,p3,rfl,⟨_,dY.of hfir⟩,fun D2 hD2=>?_⟩
     refine wZ (K:=K) (xs:=(PT.take R).map V.int) ((PT.take R).map fun z=>(((Rb50.row h' m N).getD z.natAbs 0:Nat):Int)) hD2 (dY.of hfir) (by rw[List.length_map];exact Nat.lt_of_le_of_lt hPR (by decide)) (by rw[List.length_map,List.length_map]) ?_ ?_
     ·intro i x H' Q' hx s7 hQ
      rw[List.getElem?_map]at hx
      obtain⟨z,hz,rfl⟩:∃z,(PT.take R)[i]?=some z∧V.int z=x:=by
       cases hy:(PT.take R)[i]? with
       |none=>rw[hy]at hx;cases hx
       |some z=>rw[hy]at hx;exact⟨z,rfl,Option.some.inj hx⟩
      have hzN:=hmem z (List.mem_of_mem_take (List.mem_of_getElem? hz))
      obtain⟨y,hy⟩:∃y,ys[z.natAbs]?=some y:=⟨_,List.getElem?_eq_getElem (by lia)⟩
      obtain⟨nm,hn,kn⟩:=oH.get hn1 hy
      obtain⟨x,hx2,rx,ox⟩:=sE sr hn
      obtain⟨_,oc⟩:=iL rx ox
      have ez:(if z<0 then -z else z)=((z.natAbs:Nat):Int):=by split<;>lia
      have s17:=s16.trans s7
      simp only[aq,ak,aI,aG,tC,bO,bU]
      refine⟨_,rfl,_,rfl,_,rfl,?_⟩
      rw[ez]
      refine bM (dY.of (s17 _ _ hp1)) (eV hy) ?_
      refine⟨_,Rb50.SINGLE,23,31,y,nm,122,rfl,T.toTxt.single _,cF,kn.same s17,.cY ox (by decide),oc,by decide,by decide,by decide,fun H4 s8=>?_⟩
      rw[m7 rx ox]
      refine hQ _ H4 ?_ s8
      rw[List.getElem?_map,hz]
      show some (((Rb50.row h' m N).getD z.natAbs 0:Nat):Int)=_
      rw[List.getD_eq_getElem?_getD,hx2]
      rfl
     ·intro H7 hL7 s7
      refine⟨p6,D2,_,_,rfl,rfl,s7 _ _ aF,hL7,?_,fun p8 hp8=>?_⟩
      ·rw[List.length_append,List.length_map,List.length_map,List.length_map,List.length_map]
       exact Nat.le_trans (m:=20001) (by simp only[List.length_cons,List.length_nil];lia) (by decide)
      ·have hql:(((PT.length:Nat):Int)::((PT.take R).map (fun z=>z%4294967296)++(PT.take R).map (fun z=>(((Rb50.row h' m N).getD z.natAbs 0:Nat):Int)))).length≤30000:=by
        rw[List.length_cons,List.length_append,List.length_map,List.length_map]
        lia
       have e:[V.int (PT.length:Int)]++((PT.take R).map fun z=>z%4294967296).map V.int++((PT.take R).map fun z=>(((Rb50.row h' m N).getD z.natAbs 0:Nat):Int)).map V.int=(((PT.length:Nat):Int)::((PT.take R).map (fun z=>z%4294967296)++(PT.take R).map (fun z=>(((Rb50.row h' m N).getD z.natAbs 0:Nat):Int)))).map V.int:=by
        rw[List.map_cons,List.map_append];rfl
       rw[e]
       exact qc.new (l:=((PT.length:Nat):Int)::((PT.take R).map (fun z=>z%4294967296)++(PT.take R).map (fun z=>(((Rb50.row h' m N).getD z.natAbs 0:Nat):Int)))) q hA fit hql ((s1.trans s16).trans s7) hp8
   ·refine .inl ⟨by show false=decide _;rw[decide_eq_false c2],?_⟩
    rw[if_pos (.inr c2)]at hst
    obtain⟨rfl,rfl⟩:=bY rfl hst
    exact⟨by decide,fun p hp=>q.new hA fit (by decide) (aH.refl _) hp⟩
  ·refine .inl ⟨by show false=decide _;rw[decide_eq_false c1],?_⟩
   rw[if_pos (.inl c1)]at hst
   obtain⟨rfl,rfl⟩:=bY rfl hst
   exact⟨by decide,fun p hp=>q.new hA fit (by decide) (aH.refl _) hp⟩
end
end TB
end
noncomputable section
namespace TB
open PySem PySem.Spec PyProof.Rows L2 TM
section
variable{P:Program}{w:World}{K:PySem.W.Frag}{mg:Str→Option Value}{base:Heap}{G:Gs}
structure Apart(A:sy):Prop where
 as:A.a≠A.s
 aw:A.a≠A.w
 al:A.a≠A.l
 Nr:A.a∉A.ls
 sw:A.s≠A.w
 sl:A.s≠A.l
 NG:A.s∉A.ls
 wl:A.w≠A.l
 Ny:A.w∉A.ls
 lls:A.l∉A.ls
theorem eK.apart(T:Tx K mg G){H:Hp}{A:sy}{h:Rb50.Harbour}(x:eK K G H A h):Apart A:=by
 obtain⟨dx,h1⟩:=x.obj
 obtain⟨sx,ws,sv,h2,h3,_⟩:=x.sea.ex
 have h4:=x.lst
 have li:∀{b:Addr},b∈A.ls→∃dx fs,H b=some (.ins G.CL dx fs):=fun hb=>ck.ins x.xR hb
 refine⟨?_,?_,?_,?_,?_,?_,?_,x.J9,?_,?_⟩
 ·intro z;rw[z,h2]at h1;exact T.Nm (HO.ins.inj (Option.some.inj h1)).1
 ·intro z;rw[z,h3]at h1;cases h1
 ·intro z;rw[z,h4]at h1;cases h1
 ·intro z;obtain⟨_,_,e⟩:=li z;rw[h1]at e;exact T.Np (HO.ins.inj (Option.some.inj e)).1.symm
 ·intro z;rw[z,h3]at h2;cases h2
 ·intro z;rw[z,h4]at h2;cases h2
 ·intro z;obtain⟨_,_,e⟩:=li z;rw[h2]at e;exact T.MM (HO.ins.inj (Option.some.inj e)).1.symm
 ·intro z;obtain⟨_,_,e⟩:=li z;rw[h3]at e;cases e
 ·intro z;obtain⟨_,_,e⟩:=li z;rw[h4]at e;cases e
theorem MP(T:Tx K mg G){H:Hp}{A:sy}{h:Rb50.Harbour}(x:eK K G H A h):Mod G (fun b=>b=A.a) H:=by
 obtain⟨dx,h1⟩:=x.obj
 rintro b rfl
 exact .inl ⟨_,_,_,h1,T.MN,T.MO⟩
theorem K5(T:Tx K mg G){H:Hp}{A:sy}{h:Rb50.Harbour}(x:eK K G H A h):Mod G (fun b=>b=A.s) H:=by
 obtain⟨sx,ws,sv,h2,_⟩:=x.sea.ex
 rintro b rfl
 exact .inl ⟨_,_,_,h2,T.ML,T.Mr⟩
theorem uT{H:Hp}{a:Addr}{xs:List V}(h:H a=some (.lst xs)):Mod G (fun b=>b=a) H:=by
 rintro b rfl
 exact .inr ⟨_,h⟩
theorem qc.done{H:Hp}{A:sy}{h':Rb50.Harbour}{l:List Int}{Q:VK}(c:qc K G H A h' l Q){H1:Hp}{A':sy}{p:Addr}(k:cz A.mem H H1)(g:∀b,A'.mem b→A.mem b∨H b=none)(x:eK K G H1 A' h')(f:qD h')(hl:l.length≤30000)(ea:A'.a=A.a)(hp:H1 p=none):Q (.ref p) (upd H1 p (.lst (l.map V.int))):=
 c _ A' p (k.trans (aH.keep (aH.upd hp))) g (x.same (aH.upd hp)) f hl ea (fun b o n e=>cO (k b o n e) hp) aF
theorem eK.LC(T:Tx K mg G){H H':Hp}{A:sy}{h h':Rb50.Harbour}(x:eK K G H A h)(k:cz (fun b=>b=A.s∨b=A.w) H H')(s:lX K G H' A.s A.w h')(e1:h'.locks=h.locks)(e2:h'.now=h.now):eK K G H' A h':=by
 have ap:=x.apart T
 obtain⟨dx,h1⟩:=x.obj
 obtain⟨sx,ws,sv,h2,h3,_⟩:=x.sea.ex
 have md:Mod G (fun b=>b=A.s∨b=A.w) H:=by
  rintro b (rfl|rfl)
  ·exact .inl ⟨_,_,_,h2,T.ML,T.Mr⟩
  ·exact .inr ⟨_,h3⟩
 refine⟨⟨dx,?_⟩,s,k _ _ (by rintro(z|z);exact ap.sl z.symm;exact ap.wl z.symm) x.lst,?_,x.nd,x.J9⟩
 ·rw[e2]
  exact k _ _ (by rintro(z|z);exact ap.as z;exact ap.aw z) h1
 ·rw[e1]
  exact ck.keep k md x.xR (by rintro b hb (z|z);exact ap.NG (z▸hb);exact ap.Ny (z▸hb))
abbrev qm:Stmt:=bJ 135
theorem tX:bz ["harbour","given"] ["harbour","given"] (aR qm):=⟨rfl,rfl,rfl,by decide+kernel,rfl,by decide+kernel,by decide+kernel⟩
theorem Bv{f:Addr}{fd:FuncData}(F:eX K "set_time" "set_time" qm f fd)(T:Tx K mg G):
  cA P w K mg base eS 1 f fd ["harbour","given"] (vt K G 16):=by
 refine F.ok tX (fun vs H Q E h=>?_) (fun cdv A outer s H vs Q E hr h=>?_)
 ·obtain⟨A,h,h',gp,xs,l,rfl,_⟩:=h
  rfl
 ·have nd:=tX.nd
  obtain⟨A,h,h',gp,xs,l,rfl,hA,fit,hg,ask,hxl,hmin,hst,q⟩:=h
  obtain⟨m,rfl⟩:=oj hxl
  have hf:Rb50.far m=false:=hmin (by unfold ig;simp)
  obtain⟨rfl,rfl⟩:=bY (Jt hf) hst
  obtain⟨mn1,mn2⟩:=kR hf
  obtain⟨dx,h1⟩:=hA.obj
  have ap:=hA.apart T
  refine⟨_,(ai (cy (pv 0) (bq bE (pv 1) az (fun _ _=>rfl)) rfl)
   (aB (bA (cC (aa az af))))),?_⟩
  sleep 1
  refine bM hg rfl ?_
  refine cU (fs':=hF (.ref A.s) (.ref A.l) (.int m)) h1 T.cH T.Aj ?l rfl ?_
  case l=>exact Nat.le_of_ble_eq_true rfl
  sleep 1
  have k1:cz (fun b=>b=A.a) H (upd H A.a (.ins G.CH dx (hF (.ref A.s) (.ref A.l) (.int m)))):=cz.upd rfl
  have md:=MP T hA
  refine⟨by decide,fun p hp=>?_⟩
  refine q.done (A':=A) (k1.mono fun b z=>.inl z) (fun b z=>.inl z) ⟨⟨dx,aF⟩,⟨(hA.sea.keep k1 md (fun z=>ap.as z.symm) (fun z=>ap.aw z.symm)).ex⟩,k1 _ _ (fun z=>ap.al z.symm) hA.lst,ck.keep k1 md hA.xR (fun b hb z=>ap.Nr (z▸hb)),hA.nd,hA.J9⟩ ⟨⟨fit.ok.mean,fit.ok.len,fit.ok.waves,fit.ok.surge⟩,fit.wv,fit.nl,fit.lk,mn1,mn2⟩ (show 1≤30000 by decide) rfl hp
abbrev G2:Stmt:=bJ 136
theorem GX:bz ["harbour","given","last"] ["harbour","given"] (aR G2):=⟨rfl,rfl,rfl,by decide+kernel,rfl,by decide+kernel,by decide+kernel⟩
theorem LQ{f:Addr}{fd:FuncData}(F:eX K "run" "run" G2 f fd)(T:Tx K mg G)(h_pass_minutes:di P w K mg base "pass_minutes" 9 ["locks","sea","first","last"] (Dz K G))(h_is_count:di P w K mg base "is_count" 1 ["n"] i8)(h_is_minute:di P w K mg base "is_minute" 1 ["m"] jv):
  cA P w K mg base eS 10 f fd ["harbour","given"] (vt K G 17):=by
 refine F.ok GX (fun vs H Q E h=>?_) (fun cdv A outer s H vs Q E hr h=>?_)
 ·obtain⟨A,h,h',gp,xs,l,rfl,_⟩:=h
  rfl
 ·have nd:=GX.nd
  obtain⟨A,h,h',gp,xs,l,rfl,hA,fit,hg,ask,hxl,hmin,hst,q⟩:=h
  obtain⟨n,rfl⟩:=oj hxl
  obtain⟨dx,h1⟩:=hA.obj
  have ap:=hA.apart T
  have hst:=(Ls h n).symm.trans hst
  have hlo:=fit.lo
  have hhi:=fit.hi
  refine⟨_,(ai (bB (i:=2) nd rfl (Or.inl rfl) (bu cT (bD (pv 0) rfl) (bq bE (pv 1) az (fun _ _=>rfl))))
   (ai (cZ (PW.pt (uc (eT (dD (aj h_is_count (hr.mono (by decide)) rfl (aa (bq bE (pv 1) az (fun _ _=>rfl)) af)))) (nH (eT (dD (aj h_is_minute (hr.mono (by decide)) rfl (aa (pv 2) af))))))) (aB (bA (cC (aa (bw rfl T.cM) af)))) cg)
   (ai (cZ (bZ uf (bq bE (pv 1) az (fun _ _=>rfl)) az (cK _)) (ai (fK (aj h_pass_minutes (hr.mono (by decide)) rfl (aa (bD (pv 0) rfl) (aa (bD (pv 0) rfl) (aa (bu cT (bD (pv 0) rfl) az) (aa (pv 2) af))))))
    (aB (cy (pv 0) (pv 2) rfl))) cg)
   (aB (bA (cC (aa az af))))))),?_⟩
  sleep 1
  refine bN h1 T.cH T.Aj rfl ?_
  refine bM hg rfl ?_
  refine⟨_,rfl,_,rfl,?_⟩
  refine bM hg rfl ?_
  refine⟨n,rfl,?_⟩
  by_cases c1:0≤n∧n≤10000
  ·refine .inr ⟨by show true=decide _;rw[decide_eq_true c1],?_⟩
   refine⟨h.now+n,rfl,?_⟩
   by_cases c2: -1152921504606846976≤h.now+n∧h.now+n≤1152921504606846976
   ·refine .inr ⟨by show true=decide _;rw[decide_eq_true c2],?_⟩
    rw[if_neg (by rintro(z|z);exact z c1;exact z c2)]at hst
    obtain⟨N,rfl⟩:∃N:Nat,n=(N:Int):=⟨n.toNat,by lia⟩
    rw[Int.toNat_natCast,qy]at hst
    obtain⟨rfl,rfl⟩:=bY rfl hst
    refine bM hg rfl ?_
    refine⟨_,rfl,?_⟩
    by_cases c3:(0:Int)<(N:Int)
    ·rw[if_pos c3]
     refine bN h1 T.cH T.jr rfl ?_
     refine bN h1 T.cH T.pO rfl ?_
     refine bN h1 T.cH T.Aj rfl ?_
     refine⟨_,rfl,?_⟩
     refine⟨A.l,A.s,A.w,A.ls,h,N,rfl,hA.lst,hA.xR,hA.nd,hA.sea,fit,by lia,by lia,fun H1 k1 l1=>?_⟩
     have md:=ck.mod T hA.xR
     have a1:=k1 _ _ ap.Nr h1
     refine cU (fs':=hF (.ref A.s) (.ref A.l) (.int (h.now+(N:Int)))) a1 T.cH T.Aj ?lr rfl ?_
     case lr=>exact Nat.le_of_ble_eq_true rfl
     have k2:cz (fun b=>b=A.a) H1 (upd H1 A.a (.ins G.CH dx (hF (.ref A.s) (.ref A.l) (.int (h.now+(N:Int)))))):=cz.upd rfl
     have md2:Mod G (fun b=>b=A.a) H1:=by
      rintro b rfl
      exact .inl ⟨_,_,_,a1,T.MN,T.MO⟩
     have sea1:=hA.sea.keep k1 md ap.NG ap.Ny
     have sea2:=sea1.keep k2 md2 (fun z=>ap.as z.symm) (fun z=>ap.aw z.symm)
     sleep 1
     refine⟨by decide,fun p hp=>?_⟩
     refine q.done (A':=A) ((k1.mono fun b z=>.inr (.inr (.inr (.inr z)))).trans (k2.mono fun b z=>.inl z)) (fun b z=>.inl z) ⟨⟨dx,aF⟩,⟨sea2.ex⟩,k2 _ _ (fun z=>ap.al z.symm) (k1 _ _ ap.lls hA.lst),ck.keep k2 md2 l1 (fun b hb z=>ap.Nr (z▸hb)),hA.nd,hA.J9⟩ ⟨⟨fit.ok.mean,fit.ok.len,fit.ok.waves,fit.ok.surge⟩,fit.wv,by show(h.locks.map _).length≤16;rw[List.length_map];exact fit.nl,fun l hl=>?_,c2.1,c2.2⟩ (show 1≤30000 by decide) rfl hp
     obtain⟨l0,hl0,rfl⟩:=List.mem_map.mp hl
     exact wX (fit.lk l0 hl0) _ _
    ·rw[if_neg c3]
     have hN:N=0:=by lia
     subst hN
     refine⟨by decide,fun p hp=>?_⟩
     have e0:({h with now:=h.now+((0:Nat):Int),locks:=h.locks.map (eZ h h.now 0)}:Rb50.Harbour)=h:=by
      rw[←qy]
      rfl
     rw[e0]at q
     exact q.new hA fit (by decide) (aH.refl _) hp
   ·refine .inl ⟨by show false=decide _;rw[decide_eq_false c2],?_⟩
    rw[if_pos (.inr c2)]at hst
    obtain⟨rfl,rfl⟩:=bY rfl hst
    exact⟨by decide,fun p hp=>q.new hA fit (by decide) (aH.refl _) hp⟩
  ·refine .inl ⟨by show false=decide _;rw[decide_eq_false c1],?_⟩
   rw[if_pos (.inl c1)]at hst
   obtain⟨rfl,rfl⟩:=bY rfl hst
   exact⟨by decide,fun p hp=>q.new hA fit (by decide) (aH.refl _) hp⟩
abbrev zz:Stmt:=bJ 120
theorem A0:bz ["harbour","given"] ["harbour","given"] (aR zz):=⟨rfl,rfl,rfl,by decide+kernel,rfl,by decide+kernel,by decide+kernel⟩
theorem HK{f:Addr}{fd:FuncData}(F:eX K "surge" "surge" zz f fd)(T:Tx K mg G)(c_Surge:qC P w K mg base "Surge" G.CR 1 ["self","high","begins","half"] (vq G))(h_is_minute:di P w K mg base "is_minute" 1 ["m"] jv):
  cA P w K mg base eS 3 f fd ["harbour","given"] (vt K G 3):=by
 refine F.ok A0 (fun vs H Q E h=>?_) (fun cdv A outer s H vs Q E hr h=>?_)
 ·obtain⟨A,h,h',gp,xs,l,rfl,_⟩:=h
  rfl
 ·have nd:=A0.nd
  obtain⟨A,h,h',gp,xs,l,rfl,hA,fit,hg,ask,hxl,hmin,hst,q⟩:=h
  obtain⟨g,b,f',rfl⟩:=Ke hxl
  obtain⟨ask1,ask2⟩:=tO (show(Rb50Neutral.whole32 g&&(Rb50Neutral.whole64 b&&Rb50Neutral.whole32 f'))=true from ask)
  obtain⟨_,ask3⟩:=tO ask2
  obtain⟨w1,w2⟩:=Nz ask1
  obtain⟨w3,w4⟩:=Nz ask3
  obtain⟨dx,h1⟩:=hA.obj
  have ap:=hA.apart T
  have hst:=(GP h g b f').symm.trans hst
  refine⟨_,(ai (cZ (PW.pt (uc (eT (dD (aj h_is_minute (hr.mono (by decide)) rfl (aa (bq bE (pv 1) az (fun _ _=>rfl)) af)))) (nH (bZ lM (bq bE (pv 1) az (fun _ _=>rfl)) az (cK _))))) (aB (bA (cC (aa (bw rfl T.cM) af)))) cg)
   (ai (cy (bD (pv 0) rfl) (lK c_Surge (hr.mono (by decide)) rfl (aa (bq bE (pv 1) az (fun _ _=>rfl)) (aa (bq bE (pv 1) az (fun _ _=>rfl)) (aa (bq bE (pv 1) az (fun _ _=>rfl)) af)))) rfl)
   (aB (bA (cC (aa az af)))))),?_⟩
  sleep 1
  refine bM hg rfl ?_
  refine⟨b,rfl,?_⟩
  by_cases c1: -1152921504606846976≤b∧b≤1152921504606846976
  ·refine .inr ⟨by show true=decide _;rw[decide_eq_true c1],?_⟩
   refine bM hg rfl ?_
   refine⟨_,rfl,?_⟩
   by_cases c2:f'<1
   ·rw[if_pos c2]
    rw[if_pos (.inr c2)]at hst
    obtain⟨rfl,rfl⟩:=bY rfl hst
    exact⟨by decide,fun p hp=>q.new hA fit (by decide) (aH.refl _) hp⟩
   ·rw[if_neg c2]
    rw[if_neg (by rintro(z|z);exact z c1;exact c2 z)]at hst
    obtain⟨rfl,rfl⟩:=bY rfl hst
    refine bM hg rfl ?_
    refine bM hg rfl ?_
    refine bM hg rfl ?_
    intro x sx hx hsx hne
    refine⟨x,sx,_,_,_,rfl,aF,rfl,?_⟩
    rw[eF]
    have sm:aH H (upd (upd H sx (.own x)) x (.ins G.CR sx (rF (.int g) (.int b) (.int f')))):=aH.made hx hsx
    have hx2:upd (upd H sx (.own x)) x (.ins G.CR sx (rF (.int g) (.int b) (.int f'))) x=some (.ins G.CR sx (rF (.int g) (.int b) (.int f'))):=aF
    generalize upd (upd H sx (.own x)) x (.ins G.CR sx (rF (.int g) (.int b) (.int f')))=H2 at*
    have hA2:=hA.same sm
    obtain⟨sx',ws,sv,g1,g2,g3,g4⟩:=hA2.sea.ex
    refine bN (sm _ _ h1) T.cH T.pO rfl ?_
    refine cU (fs':=sF (.int h.mean) (.ref A.w) (.ref x)) g1 T.cS T.sU ?l rfl ?_
    case l=>exact Nat.le_of_ble_eq_true rfl
    have k3:cz (fun b=>b=A.s) H2 (upd H2 A.s (.ins G.CS sx' (sF (.int h.mean) (.ref A.w) (.ref x)))):=cz.upd rfl
    have md:=K5 T hA2
    have hxs:x≠A.s:=fun z=>by rw[z,g1]at hx2;exact T.Mr (HO.ins.inj (Option.some.inj hx2)).1
    sleep 1
    refine⟨by decide,fun p hp=>?_⟩
    refine q.done (A':=A) ((aH.keep sm).trans (k3.mono fun b z=>.inr (.inl z))) (fun b z=>.inl z) (hA2.LC T (k3.mono fun b z=>.inl z) ⟨sx',ws,.ref x,aF,k3 _ _ (fun z=>ap.sw z.symm) g2,Paired.same (fun _ _ r=>r.keep k3 md) g3,?_⟩ rfl rfl) ?_ (show 1≤30000 by decide) rfl hp
    ·show fm G _ (.ref x) ⟨g,b,f'.toNat⟩
     refine⟨x,sx,rfl,?_⟩
     have e:((f'.toNat:Nat):Int)=f':=by lia
     rw[k3 _ _ hxs hx2,e]
    ·refine⟨⟨fit.ok.mean,fit.ok.len,fit.ok.waves,fun s hs=>?_⟩,fit.wv,fit.nl,fit.lk,fit.lo,fit.hi⟩
     cases Option.some.inj hs
     exact⟨by show g.natAbs≤2^31;lia,by show 0<f'.toNat;lia,by show f'.toNat<2^31;lia⟩
  ·refine .inl ⟨by show false=decide _;rw[decide_eq_false c1],?_⟩
   rw[if_pos (.inl c1)]at hst
   obtain⟨rfl,rfl⟩:=bY rfl hst
   exact⟨by decide,fun p hp=>q.new hA fit (by decide) (aH.refl _) hp⟩
abbrev Cy:Stmt:=bJ 118
theorem DL:bz ["harbour","given","value"] ["harbour","given"] (aR Cy):=⟨rfl,rfl,rfl,by decide+kernel,rfl,by decide+kernel,by decide+kernel⟩
theorem J3{f:Addr}{fd:FuncData}(F:eX K "mark" "mark" Cy f fd)(T:Tx K mg G)(h_unpacked:di P w K mg base "unpacked" 1 ["row"] (tT K))(h_is_packed:di P w K mg base "is_packed" 1 ["row"] (qL K)):
  cA P w K mg base eS 2 f fd ["harbour","given"] (vt K G 1):=by
 refine F.ok DL (fun vs H Q E h=>?_) (fun cdv A outer s H vs Q E hr h=>?_)
 ·obtain⟨A,h,h',gp,xs,l,rfl,_⟩:=h
  rfl
 ·have nd:=DL.nd
  obtain⟨A,h,h',gp,xs,l,rfl,hA,fit,hg,ask,hxl,hmin,hst,q⟩:=h
  have hx10:xs.length=10:=hxl
  obtain⟨ask1,_⟩:=tO (show(Rb50Neutral.bytes8 xs&&decide (xs.length=10))=true from ask)
  obtain⟨dx,h1⟩:=hA.obj
  have ap:=hA.apart T
  have hst:stp (some h) [[1],xs]=(some h',l):=hst
  rw[Jv h xs hx10]at hst
  have hby:∀z∈xs,0≤z∧z<256:=by
   intro z hz
   have:=List.all_eq_true.mp ask1 z hz
   unfold Rb50Neutral.natural at this
   simp only[Bool.and_eq_true,decide_eq_true_eq]at this
   lia
  have hbl:(Rb50Neutral.nats xs).length=10:=by unfold Rb50Neutral.nats;rw[List.length_map];exact hx10
  have hb256:∀b∈Rb50Neutral.nats xs,b<256:=by
   intro b hb
   obtain⟨z,hz,rfl⟩:=List.mem_map.mp hb
   have:=hby z hz
   lia
  have exs:xs.map V.int=(Rb50Neutral.nats xs).map vN:=by
   unfold Rb50Neutral.nats
   rw[List.map_map]
   apply List.map_congr_left
   intro z hz
   have:=hby z hz
   show V.int z=V.int ((z.toNat:Nat):Int)
   congr 1
   lia
  rw[exs]at hg
  rw[zj hbl]at hst
  generalize Rb50Neutral.nats xs=bs at*
  refine⟨_,(ai (cZ (eT (dD (aj h_is_packed (hr.mono (by decide)) rfl (aa (pv 1) af)))) (aB (bA (cC (aa (bw rfl T.eN) af)))) cg)
   (ai (bB (i:=2) nd rfl (Or.inl rfl) (aj h_unpacked (hr.mono (by decide)) rfl (aa (pv 1) af)))
   (ai (cZ (bZ uf (cE jh (by rfl) T.oG oE (aa (pv 2) af)) (bw rfl T.kF) (cK _)) (aB (bA (cC (aa (bw rfl T.eN) af)))) cg)
   (ai (cy (bD (pv 0) rfl) (bu gm az (pv 2)) rfl)
   (aB (bA (cC (aa az af)))))))),?_⟩
  sleep 1
  refine⟨gp,bs,rfl,hg,hbl,fun H1 s1=>?_⟩
  cases hok:Je bs with
  |false=>
   rw[hok]at hst
   simp only[Bool.false_eq_true,if_false]at hst
   obtain⟨rfl,rfl⟩:=bY rfl hst
   exact .inl ⟨rfl,by decide,fun p hp=>q.new hA fit (by decide) s1 hp⟩
  |true=>
   rw[hok]at hst
   simp only[if_true]at hst
   refine .inr ⟨rfl,?_⟩
   refine⟨gp,bs,rfl,aH.lst s1 hg,hbl,hb256,fun H2 s2=>?_⟩
   generalize Jh bs=v at*
   have s12:=s1.trans s2
   refine⟨_,rfl,?_⟩
   by_cases c: -100000000≤v∧v≤100000000
   ·rw[if_neg (by split<;>lia)]
    rw[if_pos c]at hst
    obtain⟨rfl,rfl⟩:=bY rfl hst
    refine⟨_,rfl,⟨by decide+kernel,Nat.lt_of_lt_of_le (m:=2^30) (by lia) (Nat.pow_le_pow_right (by decide) (by decide))⟩,?_⟩
    have hA2:=hA.same s12
    obtain⟨sx',ws,sv,g1,g2,g3,g4⟩:=hA2.sea.ex
    refine bN (s12 _ _ h1) T.cH T.pO rfl ?_
    refine cU (fs':=sF (.int (10*v)) (.ref A.w) sv) g1 T.cS T.Bd ?lm rfl ?_
    case lm=>exact Nat.le_of_ble_eq_true rfl
    have k3:cz (fun b=>b=A.s) H2 (upd H2 A.s (.ins G.CS sx' (sF (.int (10*v)) (.ref A.w) sv))):=cz.upd rfl
    have md:=K5 T hA2
    sleep 1
    refine⟨by decide,fun p hp=>?_⟩
    refine q.done (A':=A) ((aH.keep s12).trans (k3.mono fun b z=>.inr (.inl z))) (fun b z=>.inl z) (hA2.LC T (k3.mono fun b z=>.inl z) ⟨sx',ws,sv,aF,k3 _ _ (fun z=>ap.sw z.symm) g2,Paired.same (fun _ _ r=>r.keep k3 md) g3,?_⟩ rfl rfl) ⟨⟨by show(10*v).natAbs≤1000000000;lia,fit.ok.len,fit.ok.waves,fit.ok.surge⟩,fit.wv,fit.nl,fit.lk,fit.lo,fit.hi⟩ (show 1≤30000 by decide) rfl hp
    show(match h.surge with|none=>sv=.gh|some g=>fm G _ sv g)
    cases hx:h.surge with
    |none=>rw[hx]at g4;exact g4
    |some g=>rw[hx]at g4;exact fm.keep g4 k3 md
   ·rw[if_pos (by split<;>lia)]
    rw[if_neg c]at hst
    obtain⟨rfl,rfl⟩:=bY rfl hst
    exact⟨by decide,fun p hp=>q.new hA fit (by decide) s12 hp⟩
abbrev zE:Stmt:=bJ 117
theorem Bc:bz ["harbour","given"] ["harbour","given"] (aR zE):=⟨rfl,rfl,rfl,by decide+kernel,rfl,by decide+kernel,by decide+kernel⟩
theorem HQ{f:Addr}{fd:FuncData}(F:eX K "begin" "begin" zE f fd)(T:Tx K mg G)(c_Sea:qC P w K mg base "Sea" G.CS 1 ["self","mean"] (zq G)):
  cA P w K mg base eS 3 f fd ["harbour","given"] (vt K G 0):=by
 refine F.ok Bc (fun vs H Q E h=>?_) (fun cdv A outer s H vs Q E hr h=>?_)
 ·obtain⟨A,h,h',gp,xs,l,rfl,_⟩:=h
  rfl
 ·have nd:=Bc.nd
  obtain⟨A,h,h',gp,xs,l,rfl,hA,fit,hg,ask,hxl,hmin,hst,q⟩:=h
  obtain⟨m,rfl⟩:=oj hxl
  obtain⟨dx,h1⟩:=hA.obj
  have ap:=hA.apart T
  have hst:=(AW h m).symm.trans hst
  refine⟨_,(ai (cZ (bZ uf (cE jh (by rfl) T.oG oE (aa (bq bE (pv 1) az (fun _ _=>rfl)) af)) (bw rfl T.kE) (cK _)) (aB (bA (cC (aa (bw rfl T.eN) af)))) cg)
   (ai (cy (pv 0) (lK c_Sea (hr.mono (by decide)) rfl (aa (bq bE (pv 1) az (fun _ _=>rfl)) af)) rfl)
   (ai (cy (pv 0) (cC af) rfl)
   (ai (cy (pv 0) az rfl)
   (aB (bA (cC (aa az af)))))))),?_⟩
  sleep 1
  refine bM hg rfl ?_
  refine⟨_,rfl,?_⟩
  by_cases c: -1000000000≤m∧m≤1000000000
  ·rw[if_neg (by split<;>lia)]
   rw[if_pos c]at hst
   obtain⟨rfl,rfl⟩:=bY rfl hst
   refine bM hg rfl ?_
   intro x dx' hx hdx hne
   have sm:aH H (upd (upd H dx' (.own x)) x (.ins G.CS dx' [])):=aH.made hx hdx
   refine⟨x,dx',_,rfl,aF,fun H2 la k2 e2 l2 f2=>?_⟩
   have hax:A.a≠x:=cO h1 hx
   have a2:=k2 _ _ hax (sm _ _ h1)
   refine⟨rfl,cU (fs':=hF (.ref x) (.ref A.l) (.int h.now)) a2 T.cH T.pO ?l rfl ?_⟩
   case l=>exact Nat.le_of_ble_eq_true rfl
   sleep 1
   intro l hl
   have nla:l≠A.a:=fun z=>by rw[z,aF]at hl;cases hl
   have hl2:H2 l=none:=by rw[cQ nla]at hl;exact hl
   have e1:upd (upd H2 A.a (.ins G.CH dx (hF (.ref x) (.ref A.l) (.int h.now)))) l (.lst []) A.a=some (.ins G.CH dx (hF (.ref x) (.ref A.l) (.int h.now))):=by rw[cQ (fun z=>nla z.symm)];exact aF
   refine cU (fs':=hF (.ref x) (.ref l) (.int h.now)) e1 T.cH T.jr ?l rfl ?_
   case l=>exact Nat.le_of_ble_eq_true rfl
   sleep 1
   refine cU (fs':=hF (.ref x) (.ref l) (.int 0)) aF T.cH T.Aj ?l rfl ?_
   case l=>exact Nat.le_of_ble_eq_true rfl
   rw[eF]
   sleep 1
   have nlx:l≠x:=fun z=>by rw[z,e2]at hl2;cases hl2
   have nll:l≠la:=fun z=>by rw[z,l2]at hl2;cases hl2
   have nax:A.a≠la:=fun z=>by rw[z,l2]at a2;cases a2
   have upo:∀{b:Addr} {o:HO},b≠A.a→b≠l→H2 b=some o→upd (upd (upd H2 A.a (.ins G.CH dx (hF (.ref x) (.ref A.l) (.int h.now)))) l (.lst [])) A.a (.ins G.CH dx (hF (.ref x) (.ref l) (.int 0))) b=some o:=fun n1 n2 e=>by
    rw[cQ n1,cQ n2,cQ n1]
    exact e
   refine⟨by decide,fun p hp=>?_⟩
   refine q.done (A':=⟨A.a,x,la,l,[]⟩) ?_ ?_ ⟨⟨dx,aF⟩,⟨dx',[],.gh,upo (fun z=>hax z.symm) (fun z=>nlx z.symm) e2,upo (fun z=>nax z.symm) (fun z=>nll z.symm) l2,.nil,rfl⟩,?_,.nil,List.nodup_nil,fun z=>nll z.symm⟩ (qD.new (by lia)) (show 1≤30000 by decide) rfl hp
   ·intro b o nb e
    have hb2:H2 b=some o:=k2 _ _ (cO e hx) (sm _ _ e)
    exact upo (fun z=>nb (.inl z)) (cO hb2 hl2) hb2
   ·rintro b (z|z|z|z|z)
    ·exact .inl (.inl z)
    ·exact .inr (by rw[z];exact hx)
    ·exact .inr (by rw[z];exact aH.free sm f2)
    ·refine .inr ?_
     rw[z]
     show H l=none
     cases hh:H l with
     |none=>rfl
     |some o=>
      have hb2:H2 l=some o:=k2 _ _ (cO hh hx) (sm _ _ hh)
      rw[hl2]at hb2
      cases hb2
    ·simp at z
   ·show upd _ A.a _ l=some (.lst [])
    rw[cQ nla]
    exact aF
  ·rw[if_pos (by split<;>lia)]
   rw[if_neg c]at hst
   obtain⟨rfl,rfl⟩:=bY rfl hst
   exact⟨by decide,fun p hp=>q.new hA fit (by decide) (aH.refl _) hp⟩
abbrev Ct:Stmt:=bJ 119
theorem DH:bz ["harbour","given","waves"] ["harbour","given"] (aR Ct):=⟨rfl,rfl,rfl,by decide+kernel,rfl,by decide+kernel,by decide+kernel⟩
theorem JZ{f:Addr}{fd:FuncData}(F:eX K "wave" "wave" Ct f fd)(T:Tx K mg G)(h_is_within:di P w K mg base "is_within" 1 ["single","most"] l8)(c_Wave:qC P w K mg base "Wave" G.CW 4 ["self","high","factor","phase","speed"] (zp K G))(h_of_whole:di P w K mg base "of_whole" 1 ["value"] (fX K))(h_of_single:di P w K mg base "of_single" 1 ["bits"] (g8 K)):
  cA P w K mg base eS 6 f fd ["harbour","given"] (vt K G 2):=by
 refine F.ok DH (fun vs H Q E h=>?_) (fun cdv A outer s H vs Q E hr h=>?_)
 ·obtain⟨A,h,h',gp,xs,l,rfl,_⟩:=h
  rfl
 ·have nd:=DH.nd
  obtain⟨A,h,h',gp,xs,l,rfl,hA,fit,hg,ask,hxl,hmin,hst,q⟩:=h
  obtain⟨g,fa,ph,sd,rfl⟩:=MV hxl
  obtain⟨ask1,ask2⟩:=tO (show(Rb50Neutral.whole32 g&&(Rb50Neutral.natural fa 32&&(Rb50Neutral.natural ph 64&&Rb50Neutral.natural sd 64)))=true from ask)
  obtain⟨ask3,ask4⟩:=tO ask2
  obtain⟨ask5,ask6⟩:=tO ask4
  obtain⟨w1,w2⟩:=Nz ask1
  obtain⟨fa,rfl,hfa⟩:=n32 ask3
  obtain⟨ph,rfl,hph⟩:=n64 ask5
  obtain⟨sd,rfl,hsd⟩:=n64 ask6
  obtain⟨dx,h1⟩:=hA.obj
  have ap:=hA.apart T
  have hst:=(Js h g fa ph sd hfa).symm.trans hst
  refine⟨_,(ai (cZ (eT (dD (aj h_is_within (hr.mono (by decide)) rfl (aa (bq bE (pv 1) az (fun _ _=>rfl)) (aa (bw rfl T.iX) af))))) (aB (bA (cC (aa (bw rfl T.eN) af)))) cg)
   (ai (bB (i:=2) nd rfl (Or.inl rfl) (bD (bD (pv 0) rfl) rfl))
   (ai (cZ (bZ je (cE fk (by rfl) T.gZ iD (aa (pv 2) af)) (bw rfl T.jz) (cK _)) (aB (bA (cC (aa (bw rfl T.lQ) af)))) cg)
   (ai (fK (nQ PySem.F.plainAttrs_list PySem.F.slot_list_append PySem.F.type_list_append gn (pv 2) (aa (lK c_Wave (hr.mono (by decide)) rfl (aa (aj h_of_whole (hr.mono (by decide)) rfl (aa (bq bE (pv 1) az (fun _ _=>rfl)) af)) (aa (aj h_of_single (hr.mono (by decide)) rfl (aa (bq bE (pv 1) az (fun _ _=>rfl)) af)) (aa (bq bE (pv 1) az (fun _ _=>rfl)) (aa (bq bE (pv 1) az (fun _ _=>rfl)) af))))) af)))
   (aB (bA (cC (aa (bu cX (cE fk (by rfl) T.gZ iD (aa (pv 2) af)) az) af)))))))),?_⟩
  sleep 1
  refine bM hg rfl ?_
  refine⟨fa,1098907648,rfl,?_⟩
  by_cases c1:fa%2147483648≤1098907648
  ·refine .inr ⟨by show true=decide _;rw[decide_eq_true c1],?_⟩
   rw[if_neg (fun z=>z c1)]at hst
   obtain⟨sx',ws,sv,g1,g2,g3,g4⟩:=hA.sea.ex
   have hwl:ws.length=h.waves.length:=Paired.length g3
   have wlen:=fit.ok.len
   refine bN h1 T.cH T.pO rfl ?_
   refine bN g1 T.cS T.vX rfl ?_
   refine⟨_,.inl ⟨_,dY.of g2,rfl⟩,?_⟩
   by_cases c2:64≤h.waves.length
   ·rw[if_pos (by lia)]
    rw[if_pos c2]at hst
    obtain⟨rfl,rfl⟩:=bY rfl hst
    exact⟨by decide,fun p hp=>q.new hA fit (by decide) (aH.refl _) hp⟩
   ·rw[if_neg (by lia)]
    rw[if_neg c2]at hst
    obtain⟨rfl,rfl⟩:=bY rfl hst
    have wok:j4 ⟨g,fa,ph,sd⟩:=⟨by show g.natAbs≤2^31;lia,by show fa<2^32;lia,lT c1 (by decide),by
     show(Rb50.worth Rb50.SINGLE fa).natAbs≤16*2^149
     rw[x8]
     exact Nat.le_trans (Ea (by decide) MS c1) (by decide)⟩
    refine⟨⟨_,dY.of g2⟩,?_⟩
    refine bM hg rfl ?_
    refine⟨g,rfl,fun H1 v1 s1 k1=>?_⟩
    refine bM (aH.lst s1 hg) rfl ?_
    refine⟨fa,rfl,hfa,fun H2 v2 s2 k2=>?_⟩
    have s12:=s1.trans s2
    refine bM (aH.lst s12 hg) rfl ?_
    refine bM (aH.lst s12 hg) rfl ?_
    intro x wx hx hwx hne
    have sm:aH H2 (upd (upd H2 wx (.own x)) x (.ins G.CW wx [])):=aH.made hx hwx
    refine⟨x,wx,v1,v2,⟨g,fa,ph,sd⟩,rfl,aF,(k1.same s2).same sm,k2.same sm,wok,fun H3 k3 w3=>?_⟩
    have same3:aH H H3:=fun b o e=>k3 b o (cO (s12 _ _ e) hx) (sm _ _ (s12 _ _ e))
    have g2':=same3 _ _ g2
    have k4:cz (fun b=>b=A.w) H3 (upd H3 A.w (.lst (ws++[.ref x]))):=cz.upd rfl
    have md:=uT (G:=G) g2'
    have hA3:=hA.same same3
    refine⟨rfl,fT g2' (Nat.lt_of_lt_of_le (m:=64) (by lia) (by decide)) ?_⟩
    refine⟨_,.inl ⟨_,dY.of aF,rfl⟩,by decide,fun p hp=>?_⟩
    have e:(((ws++[V.ref x]).length:Nat):Int) - 1=(h.waves.length:Int):=by rw[List.length_append,hwl];simp
    rw[e]
    refine q.done (A':=A) ((aH.keep same3).trans (k4.mono fun b z=>.inr (.inr (.inl z)))) (fun b z=>.inl z) (hA3.LC T (k4.mono fun b z=>.inr z) ⟨sx',ws++[.ref x],sv,k4 _ _ ap.sw (same3 _ _ g1),aF,?_,?_⟩ rfl rfl) ⟨⟨fit.ok.mean,?_,?_,fit.ok.surge⟩,?_,fit.nl,fit.lk,fit.lo,fit.hi⟩ (show 1≤30000 by decide) rfl hp
    ·exact iU (Paired.same (fun _ _ r=>(r.same same3).keep k4 md) g3) (.cons (w3.keep k4 md) .nil)
    ·show(match h.surge with|none=>sv=.gh|some g=>fm G _ sv g)
     cases hx:h.surge with
     |none=>rw[hx]at g4;exact g4
     |some g=>rw[hx]at g4;exact fm.keep (fm.same g4 same3) k4 md
    ·show(h.waves++[_]).length≤64
     rw[List.length_append];simp;lia
    ·intro w hw
     rcases List.mem_append.mp hw with z|z
     ·exact fit.ok.waves w z
     ·simp at z;subst z;exact wok
    ·intro y hy
     rcases List.mem_append.mp hy with z|z
     ·exact fit.wv y z
     ·simp at z;subst z;exact⟨hph,hsd⟩
  ·refine .inl ⟨by show false=decide _;rw[decide_eq_false c1],?_⟩
   rw[if_pos c1]at hst
   obtain⟨rfl,rfl⟩:=bY rfl hst
   exact⟨by decide,fun p hp=>q.new hA fit (by decide) (aH.refl _) hp⟩
abbrev CA:Stmt:=bJ 132
theorem DN:bz ["harbour","given","singles","one"] ["harbour","given"] (aR CA):=⟨rfl,rfl,rfl,by decide+kernel,rfl,by decide+kernel,by decide+kernel⟩
theorem J5{f:Addr}{fd:FuncData}(F:eX K "lock" "lock" CA f fd)(T:Tx K mg G)(h_is_lock:di P w K mg base "is_lock" 2 ["given"] (vo K))(h_of_single:di P w K mg base "of_single" 1 ["bits"] (g8 K))(c_Lock:qC P w K mg base "Lock" G.CL 1 ["self","area","sluice","sill","inner"] (zv G)):
  cA P w K mg base eS 3 f fd ["harbour","given"] (vt K G 14):=by
 refine F.ok DN (fun vs H Q E h=>?_) (fun cdv A outer s H vs Q E hr h=>?_)
 ·obtain⟨A,h,h',gp,xs,l,rfl,_⟩:=h
  rfl
 ·have nd:=DN.nd
  obtain⟨A,h,h',gp,xs,l,rfl,hA,fit,hg,ask,hxl,hmin,hst,q⟩:=h
  obtain⟨ar,sl,si,inn,rfl⟩:=MV hxl
  obtain⟨ask1,ask2⟩:=tO (show(Rb50Neutral.natural ar 32&&(Rb50Neutral.natural sl 32&&(Rb50Neutral.natural si 32&&Rb50Neutral.natural inn 32)))=true from ask)
  obtain⟨ask3,ask4⟩:=tO ask2
  obtain⟨ask5,ask6⟩:=tO ask4
  obtain⟨ar,rfl,har⟩:=n32 ask1
  obtain⟨sl,rfl,hsl⟩:=n32 ask3
  obtain⟨si,rfl,hsi⟩:=n32 ask5
  obtain⟨inn,rfl,hin⟩:=n32 ask6
  obtain⟨dx,h1⟩:=hA.obj
  have ap:=hA.apart T
  have hll:A.ls.length=h.locks.length:=Paired.length hA.xR
  have hst:=(Jx h ar sl si inn).symm.trans hst
  refine⟨_,(ai (cZ (eT (dD (aj h_is_lock (hr.mono (by decide)) rfl (aa (pv 1) af)))) (aB (bA (cC (aa (bw rfl T.eN) af)))) cg)
   (ai (cZ (bZ je (cE fk (by rfl) T.gZ iD (aa (bD (pv 0) rfl) af)) (bw rfl T.jA) (cK _)) (aB (bA (cC (aa (bw rfl T.lQ) af)))) cg)
   (ai (lH (i:=2) (own:=[("one",3)]) rfl nd rfl rfl rfl (gK (pv 1)) (fR rfl) (fun _ _ _ _ _=>dJ (i:=3) nd rfl (Or.inl rfl)) (fun _ _ _ _ _=>gJ) (fun _ _ _ _ _=>(aj h_of_single (hr.mono (by decide)) rfl (aa (pv 3) af))))
   (ai (fK (nQ PySem.F.plainAttrs_list PySem.F.slot_list_append PySem.F.type_list_append gn (bD (pv 0) rfl) (aa (lK c_Lock (hr.mono (by decide)) rfl (aa (bq bE (pv 2) az (fun _ _=>rfl)) (aa (bq bE (pv 2) az (fun _ _=>rfl)) (aa (bq bE (pv 2) az (fun _ _=>rfl)) (aa (bq bE (pv 2) az (fun _ _=>rfl)) af))))) af)))
   (aB (bA (cC (aa (bu cX (cE fk (by rfl) T.gZ iD (aa (bD (pv 0) rfl) af)) az) af)))))))),?_⟩
  sleep 1
  refine⟨gp,ar,sl,si,inn,rfl,hg,har,hsl,hsi,hin,?_⟩
  cases hok:Rb50.lockOk ar sl si inn with
  |false=>
   rw[if_pos hok]at hst
   obtain⟨rfl,rfl⟩:=bY rfl hst
   exact .inl ⟨rfl,by decide,fun p hp=>q.new hA fit (by decide) (aH.refl _) hp⟩
  |true=>
   rw[if_neg (by rw[hok];decide)]at hst
   refine .inr ⟨rfl,?_⟩
   have hnl:=fit.nl
   refine bN h1 T.cH T.jr rfl ?_
   refine⟨_,.inl ⟨_,dY.of hA.lst,rfl⟩,?_⟩
   rw[List.length_map,hll]
   by_cases c2:16≤h.locks.length
   ·rw[if_pos (by lia)]
    rw[if_pos c2]at hst
    obtain⟨rfl,rfl⟩:=bY rfl hst
    exact⟨by decide,fun p hp=>q.new hA fit (by decide) (aH.refl _) hp⟩
   ·rw[if_neg (by lia)]
    rw[if_neg c2]at hst
    obtain⟨rfl,rfl⟩:=bY rfl hst
    refine⟨_,rfl,gp,rfl,⟨_,hg⟩,fun D hD=>?_⟩
    have hz4:∀(i:Nat) (x:V),[V.int (ar:Int),.int (sl:Int),.int (si:Int),.int (inn:Int)][i]?=some x→∃z:Nat,x=.int z∧z<4294967296∧[ar,sl,si,inn][i]?=some z:=by
     intro i x hx
     match i,hx with
     |0,hx=>cases Option.some.inj hx;exact⟨ar,rfl,har,rfl⟩
     |1,hx=>cases Option.some.inj hx;exact⟨sl,rfl,hsl,rfl⟩
     |2,hx=>cases Option.some.inj hx;exact⟨si,rfl,hsi,rfl⟩
     |3,hx=>cases Option.some.inj hx;exact⟨inn,rfl,hin,rfl⟩
    refine rP (K:=K) (xs:=[V.int (ar:Int),.int (sl:Int),.int (si:Int),.int (inn:Int)]) hD hg (show 4<sizeLine by decide) (fun i y H'=>∃z:Nat,[ar,sl,si,inn][i]?=some z∧bI K H' y (gX Rb50.SINGLE z)) (fun i y Ha Hb hz k r=>⟨r.choose,r.choose_spec.1,dM k r.choose_spec.2 (lN hz)⟩) ?_ ?_
    ·intro i x H' Q' hx s1 hQ
     obtain⟨z,rfl,hz,e⟩:=hz4 i x hx
     simp only[aq,ak,aI,aG]
     refine⟨_,rfl,?_⟩
     exact⟨z,rfl,hz,fun H2 v2 s2 k2=>hQ v2 H2 s2 ⟨z,e,k2⟩⟩
    ·intro ys H1 hy hyl s1 hR
     obtain⟨y0,y1,y2,y3,rfl⟩:∃a b c d,ys=[a,b,c,d]:=by
      match ys,hyl with
      |[a,b,c,d],_=>exact⟨a,b,c,d,rfl⟩
     obtain⟨z0',e0,n0⟩:=hR 0 y0 rfl
     obtain⟨z1',e1,n1⟩:=hR 1 y1 rfl
     obtain⟨z2',e2,n2⟩:=hR 2 y2 rfl
     obtain⟨z3',e3,n3⟩:=hR 3 y3 rfl
     cases Option.some.inj e0
     cases Option.some.inj e1
     cases Option.some.inj e2
     cases Option.some.inj e3
     refine bN (s1 _ _ h1) T.cH T.jr rfl ?_
     refine⟨⟨_,dY.of (s1 _ _ hA.lst)⟩,?_⟩
     refine bM (dY.of hy) rfl ?_
     refine bM (dY.of hy) rfl ?_
     refine bM (dY.of hy) rfl ?_
     refine bM (dY.of hy) rfl ?_
     intro x lx hx hlx hne
     refine⟨x,lx,y0,y1,y2,y3,rfl,aF,rfl,?_⟩
     rw[eF]
     have sm:aH H1 (upd (upd H1 lx (.own x)) x (.ins G.CL lx (lF y0 y1 y2 y3 y3 (.int 0)))):=aH.made hx hlx
     have hx2:upd (upd H1 lx (.own x)) x (.ins G.CL lx (lF y0 y1 y2 y3 y3 (.int 0))) x=some (.ins G.CL lx (lF y0 y1 y2 y3 y3 (.int 0))):=aF
     generalize upd (upd H1 lx (.own x)) x (.ins G.CL lx (lF y0 y1 y2 y3 y3 (.int 0)))=H2 at*
     have s2:=s1.trans sm
     have hA2:=hA.same s2
     have hl2:=hA2.lst
     have fl:eW ⟨ar,sl,si,inn,inn,0⟩:=⟨har,hsl,hsi,hin,hok,by show 0≤4;decide⟩
     have nl2:dU K G H2 x ⟨ar,sl,si,inn,inn,0⟩:=⟨lx,y0,y1,y2,y3,y3,_,hx2,n0.same sm,n1.same sm,n2.same sm,n3.same sm,n3.same sm,⟨fl.inner.1,fl.inner.2⟩⟩
     refine fT hl2 (by rw[List.length_map];exact Nat.lt_of_lt_of_le (m:=16) (by lia) (by decide)) ?_
     have k3:cz (fun b=>b=A.l) H2 (upd H2 A.l (.lst (A.ls.map V.ref++[.ref x]))):=cz.upd rfl
     have md:=uT (G:=G) hl2
     have hxl:x≠A.l:=fun z=>by rw[z,hl2]at hx2;cases hx2
     have hHx:H x=none:=aH.free s1 hx
     have hxn:x∉A.ls:=fun z=>by obtain⟨_,_,e⟩:=ck.ins hA.xR z;rw[hHx]at e;cases e
     refine bN (k3 _ _ ap.al (s2 _ _ h1)) T.cH T.jr rfl ?_
     refine⟨_,.inl ⟨_,dY.of aF,rfl⟩,by decide,fun p hp=>?_⟩
     have e:(((A.ls.map V.ref++[V.ref x]).length:Nat):Int) - 1=(h.locks.length:Int):=by rw[List.length_append,List.length_map,hll];simp
     rw[e]
     refine q.done (A':=⟨A.a,A.s,A.w,A.l,A.ls++[x]⟩) ((aH.keep s2).trans (k3.mono fun b z=>.inr (.inr (.inr (.inl z))))) ?_ ⟨⟨dx,k3 _ _ ap.al (s2 _ _ h1)⟩,⟨(hA2.sea.keep k3 md ap.sl ap.wl).ex⟩,?_,?_,?_,hA.J9⟩ ⟨⟨fit.ok.mean,fit.ok.len,fit.ok.waves,fit.ok.surge⟩,fit.wv,?_,?_,fit.lo,fit.hi⟩ (show 1≤30000 by decide) rfl hp
     ·rintro b (z|z|z|z|z)
      ·exact .inl (.inl z)
      ·exact .inl (.inr (.inl z))
      ·exact .inl (.inr (.inr (.inl z)))
      ·exact .inl (.inr (.inr (.inr (.inl z))))
      ·rcases List.mem_append.mp z with z|z
       ·exact .inl (.inr (.inr (.inr (.inr z))))
       ·simp at z
        exact .inr (by rw[z];exact hHx)
     ·show upd H2 A.l _ A.l=some (.lst ((A.ls++[x]).map V.ref))
      rw[aF,List.map_append];rfl
     ·exact iU (ck.keep k3 md hA2.xR fun b hb z=>ap.lls (z▸hb)) (.cons (nl2.keep k3 md hxl) .nil)
     ·show(A.ls++[x]).Nodup
      rw[List.nodup_append]
      refine⟨hA.nd,List.nodup_cons.mpr ⟨by simp,List.nodup_nil⟩,?_⟩
      intro c hc d hd
      simp at hd
      subst hd
      exact fun z=>hxn (z▸hc)
     ·show(h.locks++[_]).length≤16
      rw[List.length_append];simp;lia
     ·intro l hl
      rcases List.mem_append.mp hl with z|z
      ·exact fit.lk l z
      ·simp at z;subst z;exact fl
abbrev Cr:Stmt:=bJ 134
theorem DF:bz ["harbour","given","chosen","way","water"] ["harbour","given"] (aR Cr):=⟨rfl,rfl,rfl,by decide+kernel,rfl,by decide+kernel,by decide+kernel⟩
theorem JX{f:Addr}{fd:FuncData}(F:eX K "work" "work" Cr f fd)(T:Tx K mg G)(h_set_way:di P w K mg base "set_way" 1 ["lock","way","water"] (qg K G))(h_level_now:di P w K mg base "level_now" 9 ["harbour"] (l7 K G))(h_can_be_set:di P w K mg base "can_be_set" 6 ["lock","way","water"] (Ck K G))(h_has_lock:di P w K mg base "has_lock" 1 ["harbour","i"] (i9 K G)):
  cA P w K mg base eS 10 f fd ["harbour","given"] (vt K G 15):=by
 refine F.ok DF (fun vs H Q E h=>?_) (fun cdv A outer s H vs Q E hr h=>?_)
 ·obtain⟨A,h,h',gp,xs,l,rfl,_⟩:=h
  rfl
 ·have nd:=DF.nd
  obtain⟨A,h,h',gp,xs,l,rfl,hA,fit,hg,ask,hxl,hmin,hst,q⟩:=h
  obtain⟨i,wy,rfl⟩:=FL hxl
  obtain⟨dx,h1⟩:=hA.obj
  have ap:=hA.apart T
  have hll:A.ls.length=h.locks.length:=Paired.length hA.xR
  refine⟨_,(ai (cZ (PW.pt (uc (eT (dD (aj h_has_lock (hr.mono (by decide)) rfl (aa (pv 0) (aa (bq bE (pv 1) az (fun _ _=>rfl)) af))))) (nH (eT (we kC kC (bw rfl T.tE) (bq bE (pv 1) az (fun _ _=>rfl)) (bw rfl T.iB)))))) (aB (bA (cC (aa (bw rfl T.cM) af)))) cg)
   (ai (bB (i:=2) nd rfl (Or.inl rfl) (bq bE (bD (pv 0) rfl) (bq bE (pv 1) az (fun _ _=>rfl)) (fun _ _=>rfl)))
   (ai (bB (i:=3) nd rfl (Or.inl rfl) (bq bE (pv 1) az (fun _ _=>rfl)))
   (ai (bB (i:=4) nd rfl (Or.inl rfl) (fO (bZ je (pv 3) (bw rfl T.j0) (cK _)) (aj h_level_now (hr.mono (by decide)) rfl (aa (pv 0) af)) (bD (pv 2) rfl)))
   (ai (cZ (eT (dD (aj h_can_be_set (hr.mono (by decide)) rfl (aa (pv 2) (aa (pv 3) (aa (pv 4) af)))))) (aB (bA (cC (aa (bw rfl T.o8) af)))) cg)
   (ai (fK (aj h_set_way (hr.mono (by decide)) rfl (aa (pv 2) (aa (pv 3) (aa (pv 4) af)))))
   (aB (bA (cC (aa az af)))))))))),?_⟩
  sleep 1
  refine bM hg rfl ?_
  refine⟨A,h,i,rfl,hA,?_⟩
  by_cases c:0≤i∧i<h.locks.length
  ·refine .inr ⟨by show true=decide _;rw[decide_eq_true c],?_⟩
   refine bM hg rfl ?_
   refine⟨_,rfl,?_⟩
   by_cases c1:0≤wy
   ·rw[if_pos c1]
    refine⟨_,rfl,?_⟩
    by_cases c2:wy≤4
    ·rw[if_pos c2]
     obtain⟨k,rfl⟩:∃k:Nat,i=(k:Int):=⟨i.toNat,by lia⟩
     obtain⟨W,rfl⟩:∃W:Nat,wy=(W:Int):=⟨wy.toNat,by lia⟩
     have hk:k<h.locks.length:=by lia
     have hW:W≤4:=by lia
     obtain⟨lk,hlk⟩:∃l,h.locks[k]?=some l:=⟨_,List.getElem?_eq_getElem hk⟩
     obtain⟨la,hla⟩:∃a,A.ls[k]?=some a:=⟨_,List.getElem?_eq_getElem (by lia)⟩
     have hlat:dU K G H la lk:=by
      obtain⟨l',z1,z2⟩:=Paired.get' hA.xR hla
      rw[hlk]at z1
      cases z1
      exact z2
     have fl:=fit.lk lk (List.mem_of_getElem? hlk)
     have hst:=(Jq hlk hW).symm.trans hst
     rw[Jk _ _ _ hW fl.op]at hst
     have hat:zd (A.ls.map V.ref) (k:Int)=some (.ref la):=eV (by rw[List.getElem?_map,hla];rfl)
     have fin:∀(H1:Hp) (v:V) (n:Num),aH H H1→bI K H1 v n→xT n (if W=3 then Rb50.sea h h.now else lk.inner)→Ck K G [.ref la,.int W,v] H1 (fun x_3 H1=>
       (eH K x_3 H1 false∧1≤sizeLine∧∀(p:Addr),H1 p=none→Q (V.ref p) (upd H1 p (HO.lst [V.int (-4)])))∨
       (eH K x_3 H1 true∧qg K G [.ref la,.int W,v] H1 (fun x H1=>1≤sizeLine∧∀(p:Addr),H1 p=none→Q (V.ref p) (upd H1 p (HO.lst [V.int 0]))) E0)) E0:=by
      intro H1 v n s1 kn lv
      refine⟨la,lk,W,v,n,_,rfl,hlat.same s1,kn,lv,fun H2 s2=>?_⟩
      have s12:=s1.trans s2
      generalize hx:(if W=3 then Rb50.sea h h.now else lk.inner)=X at*
      cases hc:Ga lk.open_ W (Rb50.apart X lk.level)with
      |false=>
       have hc':=hc
       unfold Ga at hc'
       rw[hc',if_neg (by decide)]at hst
       obtain⟨rfl,rfl⟩:=bY rfl hst
       exact .inl ⟨rfl,by decide,fun p hp=>q.new hA fit (by decide) s12 hp⟩
      |true=>
       have hc':=hc
       unfold Ga at hc'
       rw[hc',if_pos rfl]at hst
       obtain⟨rfl,rfl⟩:=bY rfl hst
       refine .inr ⟨rfl,?_⟩
       refine⟨la,lk,W,v,n,X,rfl,hlat.same s12,kn.same s2,lv,fun H3 k3 l3=>⟨by decide,fun p hp=>?_⟩⟩
       have hA2:=hA.same s12
       have hmem:la∈A.ls:=List.mem_of_getElem? hla
       have md:=(hlat.same s12).mod T
       refine q.done (A':=A) ((aH.keep s12).trans (k3.mono fun b z=>.inr (.inr (.inr (.inr (by rw[z];exact hmem)))))) (fun b z=>.inl z) ⟨⟨dx,k3 _ _ (fun z=>ap.Nr (by rw[z];exact hmem)) (s12 _ _ h1)⟩,⟨(hA2.sea.keep k3 md (fun z=>ap.NG (by rw[z];exact hmem)) (fun z=>ap.Ny (by rw[z];exact hmem))).ex⟩,k3 _ _ (fun z=>ap.lls (by rw[z];exact hmem)) hA2.lst,ck.set k3 md l3 hA.nd hA2.xR hla,hA.nd,hA.J9⟩ ⟨⟨fit.ok.mean,fit.ok.len,fit.ok.waves,fit.ok.surge⟩,fit.wv,by show(h.locks.set k _).length≤16;rw[List.length_set];exact fit.nl,fun l hl=>?_,fit.lo,fit.hi⟩ (show 1≤30000 by decide) rfl hp
       rcases List.mem_or_eq_of_mem_set hl with z|z
       ·exact fit.lk l z
       ·rw[z];exact⟨fl.la,fl.ls,fl.li,fl.ln,fl.ok,hW⟩
     refine bN h1 T.cH T.jr rfl ?_
     refine bM hg rfl ?_
     refine bM (dY.of hA.lst) hat ?_
     refine bM hg rfl ?_
     refine⟨rfl,?_⟩
     by_cases c3:W=3
     ·rw[if_pos (by rw[c3];rfl)]
      refine⟨A,h,rfl,hA,fit,fun H1 v1 s1 k1=>?_⟩
      refine fin H1 v1 _ s1 k1 ?_
      rw[if_pos c3]
      exact qP fit.ok _
     ·rw[if_neg (fun z=>c3 (by have:=V.int.inj z;lia))]
      obtain⟨ldx,av,sv,iv,nv,lv,ln,g1,g2,g3,g4,g5,g6,g7⟩:=hlat.ex
      refine bN g1 T.cL T.tG rfl ?_
      refine fin H nv _ (aH.refl _) g5 ?_
      rw[if_neg c3]
      exact⟨fl.inner.1,fl.inner.2⟩
    ·rw[if_neg c2]
     obtain⟨rfl,rfl⟩:=bY (qe (.inr (fun z=>c2 z.2))) hst
     exact⟨by decide,fun p hp=>q.new hA fit (by decide) (aH.refl _) hp⟩
   ·rw[if_neg c1]
    obtain⟨rfl,rfl⟩:=bY (qe (.inr (fun z=>c1 z.1))) hst
    exact⟨by decide,fun p hp=>q.new hA fit (by decide) (aH.refl _) hp⟩
  ·refine .inl ⟨by show false=decide _;rw[decide_eq_false c],?_⟩
   obtain⟨rfl,rfl⟩:=bY (qe (.inl c)) hst
   exact⟨by decide,fun p hp=>q.new hA fit (by decide) (aH.refl _) hp⟩
end
end TB
end
noncomputable section
namespace TB
open PySem PySem.Spec PyProof.Rows L2 TM
section
variable{P:Program}{w:World}{K:PySem.W.Frag}{mg:Str→Option Value}{base:Heap}{G:Gs}
def isCall(n:Int):Prop:=n=0∨n=1∨n=2∨n=3∨n=4∨n=5∨n=7∨n=8∨n=9∨n=10∨n=11∨n=12∨n=13∨n=14∨n=15∨n=16∨n=17∨n=18∨n=19∨n=20
theorem F8{n:Int}(h:isCall n):(uA counts (.inl n)).getD (.int 0)=.int ((if n=1 then 0 else cnt n:Nat):Int):=by
 rcases h with h|h|h|h|h|h|h|h|h|h|h|h|h|h|h|h|h|h|h|h<;>subst h<;>rfl
structure xQ(P:Program)(w:World)(K:PySem.W.Frag)(mg:Str→Option Value)(base:Heap)(G:Gs):Prop where
 ex:∃kvs,GD P w K G.aCA kvs∧∀n,isCall n→∃(f:Addr) (fd:FuncData) (k:Nat),k≤10∧uA kvs (.inl n)=some (.ref f)∧cA P w K mg base eS k f fd ["harbour","given"] (vt K G n)∧PySem.W.keepIn K (.ref f)=true∧Binds K fd ["harbour","given"] []
instance(n:Int):Decidable (ig n):=by unfold ig;infer_instance
theorem Ou(n:Int):El (.int n) [.int 4,.int 5,.int 7,.int 8,.int 9,.int 10,.int 11,.int 12,.int 13,.int 16]=decide (ig n):=by
 have h:El (.int n) [.int 4,.int 5,.int 7,.int 8,.int 9,.int 10,.int 11,.int 12,.int 13,.int 16]=(((4:Int)==n)||(((5:Int)==n)||(((7:Int)==n)||(((8:Int)==n)||(((9:Int)==n)||(((10:Int)==n)||(((11:Int)==n)||(((12:Int)==n)||(((13:Int)==n)||(((16:Int)==n)||false)))))))))):=rfl
 by_cases c:ig n
 ·rw[decide_eq_true c]
  rcases c with rfl|rfl|rfl|rfl|rfl|rfl|rfl|rfl|rfl|rfl<;>rfl
 ·rw[decide_eq_false c,h]
  have f:∀k:Int,k≠n→(k==n)=false:=fun k hk=>beq_eq_false_iff_ne.mpr hk
  have c':4≠n∧5≠n∧7≠n∧8≠n∧9≠n∧10≠n∧11≠n∧12≠n∧13≠n∧16≠n:=by unfold ig at c;lia
  obtain⟨a1,a2,a3,a4,a5,a6,a7,a8,a9,a10⟩:=c'
  rw[f 4 a1,f 5 a2,f 7 a3,f 8 a4,f 9 a5,f 10 a6,f 11 a7,f 12 a8,f 13 a9,f 16 a10]
  rfl
def qM(K:PySem.W.Frag)(G:Gs):Sp:=fun vs H Q _=>∃(A:sy) (h h':Rb50.Harbour) (gp:Addr) (n:Int) (xs l:List Int),vs=[.ref A.a,.int n,.ref gp]∧eK K G H A h∧qD h∧dY K H gp (xs.map V.int)∧Rb50Neutral.asked1 (mk n xs)=true∧xs.length=cnt n∧isCall n∧stp (some h) (mk n xs)=(some h',l)∧qc K G H A h' l Q
theorem Ex{X:Cx}(HC:xQ X.prog X.w X.K X.mg X.base G)(hr:iN 10 X.A){A:sy}{h h':Rb50.Harbour}{gp:Addr}{n:Int}{xs l:List Int}{Q:VK}{H:Hp}(hA:eK X.K G H A h)(fit:qD h)(hg:dY X.K H gp (xs.map V.int))(ask:Rb50Neutral.asked1 (mk n xs)=true)(hxl:xs.length=cnt n)(isc:isCall n)(hm:ig n→Rb50.far (xs.headD 0)=false)(hst:stp (some h) (mk n xs)=(some h',l))(q:qc X.K G H A h' l Q):
  GF X (K0 X (tC (V.ref G.aCA)) (aG 1)) (ak (aG 0) (ak (aG 2) aI)) [some (V.ref A.a),some (V.int n),some (V.ref gp)] H Q:=by
 obtain⟨kvs,gd,hcs⟩:=HC.ex
 obtain⟨f,fd,k,hk,hv,F,hkp,hb⟩:=hcs n isc
 refine⟨_,rfl,G.aCA,kvs,.inl n,.ref f,rfl,gd,rfl,hv,f,fd,k,_,_,rfl,F,hr.mono hk,hkp,hb,?_⟩
 exact⟨_,rfl,_,rfl,A,h,h',gp,xs,l,rfl,hA,fit,hg,ask,hxl,hm,hst,q⟩
abbrev nE:Stmt:=bJ 143
theorem qX:bz ["harbour","number","given"] ["harbour","number","given"] (aR nE):=⟨rfl,rfl,rfl,by decide+kernel,rfl,by decide+kernel,by decide+kernel⟩
theorem z7{f:Addr}{fd:FuncData}(F:eX K "answer_to" "answer_to" nE f fd)(T:Tx K mg G)(HC:xQ P w K mg base G)(h_is_minute:di P w K mg base "is_minute" 1 ["m"] jv):
  cA P w K mg base eS 12 f fd ["harbour","number","given"] (qM K G):=by
 refine F.ok qX (fun vs H Q E h=>?_) (fun cdv A outer s H vs Q E hr h=>?_)
 ·obtain⟨A,h,h',gp,n,xs,l,rfl,_⟩:=h
  rfl
 ·have nd:=qX.nd
  obtain⟨A,h,h',gp,n,xs,l,rfl,hA,fit,hg,ask,hxl,isc,hst,q⟩:=h
  refine⟨_,(ai (cZ (PW.pt (zI (bZ iJ (pv 1) (cG rfl T.iS) rfl) (uQ (eT (dD (aj h_is_minute (hr.mono (by decide)) rfl (aa (bq bE (pv 2) az (fun _ _=>rfl)) af))))))) (aB (bA (cC (aa (bw rfl T.cM) af)))) cg)
   (aB (bA (Hx (JN (cG rfl T.uN) (pv 1) (fun _ _=>rfl)) (aa (pv 0) (aa (pv 2) af)))))),?_⟩
  sleep 1
  refine⟨_,_,rfl,.inr (T.iR.at _),rfl,rfl,?_⟩
  rw[Ou]
  by_cases c:ig n
  ·refine .inr ⟨by rw[decide_eq_true c];rfl,?_⟩
   have hx:∃m r,xs=m::r∧(n=4∧r=[]∨n=5∧r=[]∨n=7∧r=[]∨n=8∧r=[]∨n=9∧r=[]∨n=10∧r=[]∨n=16∧r=[]∨n=11∧r.length=1∨n=12∧r.length=1∨n=13∧r.length=2):=by
    rcases c with rfl|rfl|rfl|rfl|rfl|rfl|rfl|rfl|rfl|rfl
    ·obtain⟨a,rfl⟩:=oj hxl;exact⟨a,[],rfl,by simp⟩
    ·obtain⟨a,rfl⟩:=oj hxl;exact⟨a,[],rfl,by simp⟩
    ·obtain⟨a,rfl⟩:=oj hxl;exact⟨a,[],rfl,by simp⟩
    ·obtain⟨a,rfl⟩:=oj hxl;exact⟨a,[],rfl,by simp⟩
    ·obtain⟨a,rfl⟩:=oj hxl;exact⟨a,[],rfl,by simp⟩
    ·obtain⟨a,rfl⟩:=oj hxl;exact⟨a,[],rfl,by simp⟩
    ·obtain⟨a,b,rfl⟩:=FL hxl;exact⟨a,[b],rfl,by simp⟩
    ·obtain⟨a,b,rfl⟩:=FL hxl;exact⟨a,[b],rfl,by simp⟩
    ·obtain⟨a,b,c,rfl⟩:=Ke hxl;exact⟨a,[b,c],rfl,by simp⟩
    ·obtain⟨a,rfl⟩:=oj hxl;exact⟨a,[],rfl,by simp⟩
   obtain⟨m,r,rfl,hsh⟩:=hx
   refine bM hg (eV (j:=0) rfl) ?_
   refine⟨m,rfl,?_⟩
   by_cases c2: -1152921504606846976≤m∧m≤1152921504606846976
   ·refine .inr ⟨by show true=decide _;rw[decide_eq_true c2],?_⟩
    exact Ex HC (hr.mono (by decide)) hA fit hg ask hxl isc (fun _=>L8 c2) hst q
   ·refine .inl ⟨by show false=decide _;rw[decide_eq_false c2],by decide,fun p hp=>?_⟩
    have hn1:n≠1:=by unfold ig at c;lia
    rw[K6 hn1]at hst
    obtain⟨rfl,rfl⟩:=bY (Lw (Eo c2) hsh) hst
    exact q.new hA fit (by decide) (aH.refl _) hp
  ·refine .inl ⟨by rw[decide_eq_false c];rfl,?_⟩
   exact Ex HC (hr.mono (by decide)) hA fit hg ask hxl isc (fun z=>absurd z c) hst q
theorem BV{xs:List V}{a b:Nat}(h:a≤b)(hb:b≤xs.length):pP xs (some (a:Int)) (some (b:Int))=(xs.drop a).take (b - a):=by
 have h1:HT.gC xs.length 0 (some (a:Int))=a:=by
  unfold HT.gC
  simp
  rw[if_neg (by lia)]
  lia
 have h2:HT.gC xs.length xs.length (some (b:Int))=b:=by
  unfold HT.gC
  simp
  rw[if_neg (by lia)]
  lia
 unfold pP
 rw[h1,h2]
def qB(K:PySem.W.Frag)(H:Hp)(A:sy)(t a:Addr)(xs:List V):Prop:=(Rd H a (.lst xs)∧¬A.mem a∧a≠t)∨∃(o:Obj) (its:Array Value) (n:Nat),K.lookup a=some o∧o.cls=.type "list"∧o.dict=none∧o.data=.seq its n∧its.size≤sizeLine∧Vals xs its.toList
theorem qB.sq{H:Hp}{A:sy}{t a:Addr}{xs:List V}(h:qB K H A t a xs):dY K H a xs:=by
 rcases h with⟨h,_⟩|h
 ·exact .inl h
 ·exact .inr h
theorem qB.go{H H':Hp}{A A':sy}{t a:Addr}{xs:List V}(h:qB K H A t a xs)(k:cz A.mem H H')(g:∀b,A'.mem b→A.mem b∨H b=none):qB K H' A' t a xs:=by
 rcases h with⟨h,n,n2⟩|h
 ·refine .inl ⟨?_,fun z=>?_,n2⟩
  ·rcases h with h|⟨o,h⟩
   ·exact .inl (k _ _ n h)
   ·exact .inr ⟨o,k _ _ n h⟩
  ·rcases g a z with z|z
   ·exact n z
   ·rcases h with h|⟨o,h⟩<;>rw[h]at z<;>cases z
 ·exact .inr h
theorem qB.same{H H':Hp}{A:sy}{t a:Addr}{xs:List V}(h:qB K H A t a xs)(e:aH H H'):qB K H' A t a xs:=h.go (aH.keep e) fun _ z=>.inl z
theorem qB.put{H:Hp}{A:sy}{t a:Addr}{xs:List V}{o:HO}(h:qB K H A t a xs):qB K (upd H t o) A t a xs:=by
 rcases h with⟨h,n,n2⟩|h
 ·refine .inl ⟨?_,n,n2⟩
  rcases h with h|⟨o,h⟩
  ·exact .inl (by rw[cQ n2];exact h)
  ·exact .inr ⟨o,by rw[cQ n2];exact h⟩
 ·exact .inr h
theorem AU(h:Rb50.Harbour)(c:List (List Int)):∃h' l,stp (some h) c=(some h',l):=by
 have key:∀q:Rb50.Call,∃h',(Rb50.step (some h) q).1=some h':=by
  intro q
  cases q<;>unfold Rb50.step<;>simp only[Rb50.refuse,Rb50.tell]<;>(repeat' split)<;>exact⟨_,rfl⟩
 unfold stp Rb50Neutral.step
 cases Rb50Neutral.callOf c with
 |none=>exact⟨h,[],rfl⟩
 |some q=>
  obtain⟨h',e⟩:=key q
  exact⟨h',(Rb50.step (some h) q).2.value::Rb50Neutral.ints ((Rb50.step (some h) q).2.out++(Rb50.step (some h) q).2.out2),by simp only[e]⟩
theorem Dj{c:List (List Int)}(h:Rb50Neutral.begins c=true):Rb50Neutral.step none c=Rb50Neutral.step (some {}) c:=by
 unfold Rb50Neutral.begins at h
 split at h
 ·rename_i m
  have h:=of_decide_eq_true h
  have e0:=EV m
  have e1:=AW {} m
  have h':(stp none [[0,m]]).2=[0]:=h
  by_cases c: -1000000000≤m∧m≤1000000000
  ·rw[if_pos c]at e0 e1
   exact e0.trans e1.symm
  ·rw[e0,if_neg c]at h'
   cases h'
 ·cases h
theorem Co{p:Int}{n:Nat}(h:PyRb50.shape p=some (n,0))(hp:p≠1):isCall p∧cnt p=n:=by
 have hc:cnt p=n:=by unfold cnt;rw[if_neg hp,h];rfl
 refine⟨?_,hc⟩
 unfold PyRb50.shape at h
 unfold isCall
 refine Decidable.byContradiction fun z=>?_
 iterate 20
  rcases rQ h with⟨e,_⟩|⟨_,h⟩
  ·exact z (by lia)
 cases h
abbrev oS:Stmt:=bJ 144
theorem vI:bz ["calls","harbour","told","at","number","first","count","answer"] ["calls"] (aR oS):=⟨rfl,rfl,rfl,by decide+kernel,rfl,by decide+kernel,by decide+kernel⟩
theorem CY{f:Addr}{fd:FuncData}(F:eX K "answers" "answers" oS f fd)(T:Tx K mg G)(HO:GD P w K G.aCO counts)(c_Harbour:qC P w K mg base "Harbour" G.CH 3 ["self"] (qj K G))(h_answer_to:di P w K mg base "answer_to" 12 ["harbour","number","given"] (qM K G)):
  cA P w K mg base eS 14 f fd ["calls"] (DA K):=by
 refine F.ok vI (fun vs H Q E h=>?_) (fun cdv A outer s H vs Q E hr h=>?_)
 ·obtain⟨a,ns,rfl,_⟩:=h
  rfl
 ·have nd:=vI.nd
  obtain⟨ca,ns,rfl,hin,hask,hnl,q⟩:=h
  obtain⟨cs,rds,hcl,hca,hbeg,hans⟩:=uW hask
  refine⟨_,(ai (bB (i:=1) nd rfl (Or.inl rfl) (Fb c_Harbour (hr.mono (by decide)) rfl))
   (ai (bB (i:=2) nd rfl (Or.inl rfl) (cC af))
   (ai (bB (i:=3) nd rfl (Or.inl rfl) az)
   (ai (nI PassesOwn.never (bZ lM (pv 3) (cE fk (by rfl) T.gZ iD (aa (pv 0) af)) (cK _))
    (ai (bB (i:=4) nd rfl (Or.inl rfl) (bq bE (pv 0) (pv 3) (fun _ _=>rfl)))
    (ai (bB (i:=5) nd rfl (Or.inl rfl) (bu cT (pv 3) az))
    (ai (bB (i:=6) nd rfl (Or.inl rfl) (Hw (cG rfl T.rq) (pv 4) az ⟨rfl,rfl,rfl,rfl⟩))
    (ai (cZ (bZ je (pv 4) (bw rfl T.Ab) (cK _)) (ai (bB (i:=6) nd rfl (Or.inl rfl) (bq bE (pv 0) (pv 5) (fun _ _=>rfl)))
     (aB (bB (i:=5) nd rfl (Or.inl rfl) (bu cT (pv 5) az)))) cg)
    (ai (bB (i:=7) nd rfl (Or.inl rfl) (aj h_answer_to (hr.mono (by decide)) rfl (aa (pv 1) (aa (pv 4) (aa (nP uL (pv 0) (oY (pv 5)) (oY (bu cT (pv 5) (pv 6)))) af)))))
    (ai (fK (nQ PySem.F.plainAttrs_list PySem.F.slot_list_append PySem.F.type_list_append gn (pv 2) (aa (cE fk (by rfl) T.gZ iD (aa (pv 7) af)) af)))
    (ai (fK (nQ PySem.F.plainAttrs_list PySem.F.slot_list_extend PySem.F.type_list_extend FE (pv 2) (aa (pv 7) af)))
    (aB (bB (i:=3) nd rfl (Or.inl rfl) (bu cT (pv 5) (pv 6))))))))))))
   (aB (bA (pv 2))))))),?_⟩
  sleep 1
  intro x dx hx hdx hne
  have sm:aH H (upd (upd H dx (.own x)) x (.ins G.CH dx [])):=aH.made hx hdx
  refine⟨x,dx,rfl,aF,fun H1 A ea k1 hA gA=>?_⟩
  refine⟨rfl,fun tp htp=>?_⟩
  have same1:aH H H1:=fun b o e=>k1 b o (cO e hx) (sm _ _ e)
  have hin1:qB K H1 A tp ca (ns.map V.int):=by
   rcases hin with h|h
   ·refine .inl ⟨?_,fun z=>?_,?_⟩
    ·rcases h with h|⟨o,h⟩
     ·exact .inl (same1 _ _ h)
     ·exact .inr ⟨o,same1 _ _ h⟩
    ·have hne:H ca≠none:=by rcases h with h|⟨o,h⟩<;>rw[h]<;>simp
     rcases gA ca z with z|z
     ·rw[z]at hne;exact hne hx
     ·exact hne (aH.free sm z)
    ·rcases h with h|⟨o,h⟩<;>exact cO (same1 _ _ h) htp
   ·exact .inr h
  have stp1:aH H1 (upd H1 tp (.lst [])):=aH.upd htp
  have ntp:¬A.mem tp:=by
   rintro z
   obtain⟨_,o1⟩:=hA.obj
   obtain⟨_,_,_,o2,o3,_⟩:=hA.sea.ex
   rcases z with z|z|z|z|z
   ·rw[z,o1]at htp;cases htp
   ·rw[z,o2]at htp;cases htp
   ·rw[z,o3]at htp;cases htp
   ·rw[z,hA.lst]at htp;cases htp
   ·obtain⟨_,_,e⟩:=ck.ins hA.xR z;rw[htp]at e;cases e
  have full:PyRb50.answers ns=jO (some {}) cs:=by
   rw[hans]
   show jO none cs=_
   cases cs with
   |nil=>cases hbeg
   |cons c cs'=>
    rw[iQ,iQ,Dj (show Rb50Neutral.begins c=true from hbeg)]
  refine mY (fun σ H'=>∃(A:sy) (h:Rb50.Harbour) (cs:List (List (List Int))) (done:List Int) (at_:Nat) (v4 v5 v6 v7:Option V),σ=[some (.ref ca),some (.ref A.a),some (.ref tp),some (.int at_),v4,v5,v6,v7]∧at_≤ns.length∧Reads (ns.drop at_) cs∧(∀c∈cs,Rb50Neutral.asked1 c=true)∧eK K G H' A h∧qD h∧qB K H' A tp ca (ns.map V.int)∧H' tp=some (.lst (done.map V.int))∧¬A.mem tp∧done++jO (some h) cs=PyRb50.answers ns∧done.length+30001*cs.length≤30001*45)
   (fun σ _=>match σ with|[_,_,_,some (.int z),_,_,_,_]=>ns.length - z.toNat|_=>0)
   ⟨A,{},cs,[],0,none,none,none,none,by rw[ea];rfl,Nat.zero_le _,rds,hca,hA.same stp1,qD.new (by decide),hin1.same stp1,aF,ntp,full.symm,by simp;lia⟩ ?_ ?_
  ·rintro σ H' ⟨A,h,cs,done,at_,v4,v5,v6,v7,rfl,hat,rds,hca,hA,fit,hin,htl,ntp,hfull,hlen⟩
   refine⟨_,rfl,_,rfl,_,rfl,_,.inl ⟨_,hin.sq,rfl⟩,?_⟩
   refine⟨_,_,rfl,rfl,_,rfl,?_⟩
   rw[List.length_map]
   show(if decide ((at_:Int)<(ns.length:Int))=true then _ else _)
   by_cases c:at_<ns.length
   ·rw[if_pos (decide_eq_true (show(at_:Int)<(ns.length:Int) by lia))]
    generalize hrest:ns.drop at_=rest at rds
    cases rds with
    |nil=>
     have:=congrArg List.length hrest
     rw[List.length_drop]at this
     simp at this
     lia
    |@cons p r c0 t cs' rd rds'=>
     have hp:ns[at_]?=some p:=by
      have:=List.getElem?_drop (xs:=ns) (i:=at_) (j:=0)
      rw[hrest]at this
      simpa using this.symm
     have hask0:=hca c0 List.mem_cons_self
     rcases rd.ex with⟨n,as,hp1,hsh,hr,hal,hc⟩|⟨m,as,hp1,hr,hal,hc⟩
     ·have hdrop:ns.drop (at_+1)=r:=by
       have:=List.drop_drop (i:=1) (j:=at_) (l:=ns)
       rw[hrest]at this
       rw[←this]
       rfl
      obtain⟨isc,hcnt⟩:=Co hsh hp1
      have hxl:as.length=cnt p:=by rw[hcnt];exact hal
      have hmk:mk p as=c0:=by rw[K6 hp1,hc]
      have hrl:r.length=as.length+t.length:=by rw[hr,List.length_append]
      have htot:ns.length=at_+1+r.length:=by
       have:=congrArg List.length hrest
       rw[List.length_drop,List.length_cons]at this
       lia
      have hdropF:ns.drop (at_+1)=as++t:=by rw[hdrop,hr]
      have ecut:pP (ns.map V.int) (some ((at_:Int)+1)) (some ((at_:Int)+1+(as.length:Int)))=as.map V.int:=by
       rw[show((at_:Int)+1)=((at_+1:Nat):Int) by lia,show(((at_+1:Nat):Int)+(as.length:Int))=((at_+1+as.length:Nat):Int) by lia,BV (by lia) (by rw[List.length_map];lia),←List.map_drop,hdropF,←List.map_take]
       congr 1
       rw[show at_+1+as.length - (at_+1)=as.length by lia,List.take_left]
      sleep 1
      refine bM hin.sq (eV (by rw[List.getElem?_map,hp];rfl)) ?_
      refine⟨G.aCO,counts,rfl,HO,_,rfl,.inl p,rfl,?_⟩
      rw[F8 isc,if_neg hp1,←hxl]
      refine⟨rfl,?_⟩
      rw[if_neg (fun z=>hp1 (V.int.inj z))]
      obtain⟨h2,l2,hst⟩:=AU h (mk p as)
      refine⟨_,rfl,_,rfl,_,rfl,_,rfl,_,rfl,_,_,rfl,rfl,_,rfl,ca,_,rfl,hin.sq,fun gp hgp=>?_⟩
      rw[ecut]
      have sg:aH H' (upd H' gp (.lst (as.map V.int))):=aH.upd hgp
      refine⟨A,h,h2,gp,p,as,l2,rfl,hA.same sg,fit,dY.of aF,hmk▸hask0,hxl,isc,hst,?_⟩
      intro H3 A3 pa k3 g3 hA3 fit3 hl3 ea3 hbp hpa
      have k03:cz A.mem H' H3:=(aH.keep sg).trans k3
      have g03:∀b,A3.mem b→A.mem b∨H' b=none:=fun b z=>(g3 b z).imp id (aH.free sg)
      have htl3:=k03 _ _ ntp htl
      have ntp3:¬A3.mem tp:=fun z=>by
       rcases g03 tp z with z|z
       ·exact ntp z
       ·rw[htl]at z;cases z
      have hne:tp≠pa:=hbp tp _ ntp (sg _ _ htl)
      have hcl':cs'.length+1≤45:=by simp only[List.length_cons]at hlen;lia
      have hdl:done.length≤1350045:=by lia
      refine⟨⟨_,dY.of htl3⟩,_,.inl ⟨_,dY.of hpa,rfl⟩,fT htl3 (by rw[List.length_map];exact Nat.lt_of_le_of_lt hdl (by decide)) ?_⟩
      refine⟨⟨_,dY.of aF⟩,?_⟩
      refine⟨tp,pa,_,_,rfl,rfl,aF,by rw[cQ (fun z=>hne z.symm)];exact hpa,?_,?_⟩
      ·rw[List.length_append,List.length_map,List.length_map]
       exact Nat.le_trans (m:=1400000) (by simp only[List.length_cons,List.length_nil];lia) (by decide)
      rw[eF]
      have k4:cz (fun b=>b=tp) H3 (upd H3 tp (.lst (done.map V.int++[V.int ((l2.map V.int).length:Int)]++l2.map V.int))):=cz.upd rfl
      have md4:=uT (G:=G) htl3
      have ap3:=hA3.apart T
      have nt:tp≠A3.a∧tp≠A3.s∧tp≠A3.w∧tp≠A3.l∧tp∉A3.ls:=⟨fun z=>ntp3 (.inl z),fun z=>ntp3 (.inr (.inl z)),fun z=>ntp3 (.inr (.inr (.inl z))),fun z=>ntp3 (.inr (.inr (.inr (.inl z)))),fun z=>ntp3 (.inr (.inr (.inr (.inr z))))⟩
      have hA4:eK K G (upd H3 tp (.lst (done.map V.int++[V.int ((l2.map V.int).length:Int)]++l2.map V.int))) A3 h2:=by
       obtain⟨dx3,o3⟩:=hA3.obj
       exact⟨⟨dx3,k4 _ _ (fun z=>nt.1 z.symm) o3⟩,hA3.sea.keep k4 md4 (fun z=>nt.2.1 z.symm) (fun z=>nt.2.2.1 z.symm),k4 _ _ (fun z=>nt.2.2.2.1 z.symm) hA3.lst,ck.keep k4 md4 hA3.xR (fun b hb z=>nt.2.2.2.2 (z▸hb)),hA3.nd,hA3.J9⟩
      have hin4:qB K (upd H3 tp (.lst (done.map V.int++[V.int ((l2.map V.int).length:Int)]++l2.map V.int))) A3 tp ca (ns.map V.int):=by
       exact(hin.go k03 g03).put
      have hmk2:stp (some h) c0=(some h2,l2):=by rw[←hmk];exact hst
      refine⟨_,rfl,⟨A3,h2,cs',done++((l2.length:Int)::l2),(at_+1)+as.length,⟨ea3.symm,by lia⟩,?_,?_,fun c hc=>hca c (List.mem_cons_of_mem _ hc),hA4,fit3,hin4,?_,ntp3,?_,?_⟩,?_⟩
      ·lia
      ·have:ns.drop ((at_+1)+as.length)=t:=by
        have e:=List.drop_drop (i:=as.length) (j:=(at_+1)) (l:=ns)
        rw[hdropF,List.drop_left]at e
        rw[←e]
       rw[this]
       exact rds'
      ·rw[aF,List.length_map,List.map_append,List.map_cons,List.append_assoc]
       rfl
      ·rw[←hfull,iQ]
       have e2:Rb50Neutral.step (some h) c0=(some h2,l2):=hmk2
       rw[e2,List.append_assoc]
      ·simp only[List.length_append,List.length_cons]at hlen⊢
       lia
      ·lia
     ·have hdrop:ns.drop (at_+1)=r:=by
       have:=List.drop_drop (i:=1) (j:=at_) (l:=ns)
       rw[hrest]at this
       rw[←this]
       rfl
      subst hp1
      have h10:as.length=10:=by
       rw[hc]at hask0
       obtain⟨_,z⟩:=tO (show(Rb50Neutral.bytes8 as&&decide (as.length=10))=true from hask0)
       exact of_decide_eq_true z
      have isc:isCall 1:=.inr (.inl rfl)
      have hxl:as.length=cnt 1:=h10
      have hmk:mk 1 as=c0:=by rw[hc];rfl
      have hrl:r.length=1+as.length+t.length:=by rw[hr,List.length_cons,List.length_append];lia
      have htot:ns.length=at_+1+r.length:=by
       have:=congrArg List.length hrest
       rw[List.length_drop,List.length_cons]at this
       lia
      have hdropF:ns.drop (at_+2)=as++t:=by
       have:=List.drop_drop (i:=1) (j:=at_+1) (l:=ns)
       rw[hdrop,hr]at this
       exact this.symm
      have hp2:ns[at_+1]?=some (as.length:Int):=by
       have:=List.getElem?_drop (xs:=ns) (i:=at_+1) (j:=0)
       rw[hdrop,hr,←hal]at this
       simpa using this.symm
      have ecut:pP (ns.map V.int) (some ((at_:Int)+1+1)) (some ((at_:Int)+1+1+(as.length:Int)))=as.map V.int:=by
       rw[show((at_:Int)+1+1)=((at_+2:Nat):Int) by lia,show(((at_+2:Nat):Int)+(as.length:Int))=((at_+2+as.length:Nat):Int) by lia,BV (by lia) (by rw[List.length_map];lia),←List.map_drop,hdropF,←List.map_take]
       congr 1
       rw[show at_+2+as.length - (at_+2)=as.length by lia,List.take_left]
      sleep 1
      refine bM hin.sq (eV (by rw[List.getElem?_map,hp];rfl)) ?_
      refine⟨G.aCO,counts,rfl,HO,_,rfl,.inl 1,rfl,?_⟩
      refine⟨rfl,?_⟩
      rw[if_pos rfl]
      refine bM hin.sq (show zd (ns.map V.int) ((at_:Int)+1)=some (.int (as.length:Int))from by rw[show((at_:Int)+1)=((at_+1:Nat):Int) by lia];exact eV (by rw[List.getElem?_map,hp2];rfl)) ?_
      obtain⟨h2,l2,hst⟩:=AU h (mk 1 as)
      refine⟨_,rfl,_,rfl,_,rfl,_,rfl,_,rfl,_,_,rfl,rfl,_,rfl,ca,_,rfl,hin.sq,fun gp hgp=>?_⟩
      rw[ecut]
      have sg:aH H' (upd H' gp (.lst (as.map V.int))):=aH.upd hgp
      refine⟨A,h,h2,gp,1,as,l2,rfl,hA.same sg,fit,dY.of aF,hmk▸hask0,hxl,isc,hst,?_⟩
      intro H3 A3 pa k3 g3 hA3 fit3 hl3 ea3 hbp hpa
      have k03:cz A.mem H' H3:=(aH.keep sg).trans k3
      have g03:∀b,A3.mem b→A.mem b∨H' b=none:=fun b z=>(g3 b z).imp id (aH.free sg)
      have htl3:=k03 _ _ ntp htl
      have ntp3:¬A3.mem tp:=fun z=>by
       rcases g03 tp z with z|z
       ·exact ntp z
       ·rw[htl]at z;cases z
      have hne:tp≠pa:=hbp tp _ ntp (sg _ _ htl)
      have hcl':cs'.length+1≤45:=by simp only[List.length_cons]at hlen;lia
      have hdl:done.length≤1350045:=by lia
      refine⟨⟨_,dY.of htl3⟩,_,.inl ⟨_,dY.of hpa,rfl⟩,fT htl3 (by rw[List.length_map];exact Nat.lt_of_le_of_lt hdl (by decide)) ?_⟩
      refine⟨⟨_,dY.of aF⟩,?_⟩
      refine⟨tp,pa,_,_,rfl,rfl,aF,by rw[cQ (fun z=>hne z.symm)];exact hpa,?_,?_⟩
      ·rw[List.length_append,List.length_map,List.length_map]
       exact Nat.le_trans (m:=1400000) (by simp only[List.length_cons,List.length_nil];lia) (by decide)
      rw[eF]
      have k4:cz (fun b=>b=tp) H3 (upd H3 tp (.lst (done.map V.int++[V.int ((l2.map V.int).length:Int)]++l2.map V.int))):=cz.upd rfl
      have md4:=uT (G:=G) htl3
      have ap3:=hA3.apart T
      have nt:tp≠A3.a∧tp≠A3.s∧tp≠A3.w∧tp≠A3.l∧tp∉A3.ls:=⟨fun z=>ntp3 (.inl z),fun z=>ntp3 (.inr (.inl z)),fun z=>ntp3 (.inr (.inr (.inl z))),fun z=>ntp3 (.inr (.inr (.inr (.inl z)))),fun z=>ntp3 (.inr (.inr (.inr (.inr z))))⟩
      have hA4:eK K G (upd H3 tp (.lst (done.map V.int++[V.int ((l2.map V.int).length:Int)]++l2.map V.int))) A3 h2:=by
       obtain⟨dx3,o3⟩:=hA3.obj
       exact⟨⟨dx3,k4 _ _ (fun z=>nt.1 z.symm) o3⟩,hA3.sea.keep k4 md4 (fun z=>nt.2.1 z.symm) (fun z=>nt.2.2.1 z.symm),k4 _ _ (fun z=>nt.2.2.2.1 z.symm) hA3.lst,ck.keep k4 md4 hA3.xR (fun b hb z=>nt.2.2.2.2 (z▸hb)),hA3.nd,hA3.J9⟩
      have hin4:qB K (upd H3 tp (.lst (done.map V.int++[V.int ((l2.map V.int).length:Int)]++l2.map V.int))) A3 tp ca (ns.map V.int):=by
       exact(hin.go k03 g03).put
      have hmk2:stp (some h) c0=(some h2,l2):=by rw[←hmk];exact hst
      refine⟨_,rfl,⟨A3,h2,cs',done++((l2.length:Int)::l2),(at_+2)+as.length,⟨ea3.symm,by lia⟩,?_,?_,fun c hc=>hca c (List.mem_cons_of_mem _ hc),hA4,fit3,hin4,?_,ntp3,?_,?_⟩,?_⟩
      ·lia
      ·have:ns.drop ((at_+2)+as.length)=t:=by
        have e:=List.drop_drop (i:=as.length) (j:=(at_+2)) (l:=ns)
        rw[hdropF,List.drop_left]at e
        rw[←e]
       rw[this]
       exact rds'
      ·rw[aF,List.length_map,List.map_append,List.map_cons,List.append_assoc]
       rfl
      ·rw[←hfull,iQ]
       have e2:Rb50Neutral.step (some h) c0=(some h2,l2):=hmk2
       rw[e2,List.append_assoc]
      ·simp only[List.length_append,List.length_cons]at hlen⊢
       lia
      ·lia
   ·rw[if_neg (by rw[decide_eq_false (show ¬(at_:Int)<(ns.length:Int) by lia)];decide)]
    have hd:ns.drop at_=[]:=List.drop_eq_nil_of_le (by lia)
    rw[hd]at rds
    cases rds
    rw[zk,List.append_nil]at hfull
    refine⟨_,rfl,q H' tp ?_⟩
    rw[←hfull]
    exact htl
  ·intro σ H1 Q1 Q2 hQ h
   obtain⟨v,hv,u,hu,x',hx',n',hl,i,j,e4,e5,k,e6,h7⟩:=h
   exact⟨v,hv,u,hu,x',hx',n',hl,i,j,e4,e5,k,e6,hQ _ _ h7⟩
end
end TB
end
noncomputable section
namespace TB
open PySem PySem.Spec PyProof.Rows L2 TM
theorem uV{p:List Value→Prop}(h:∀a,p [a])(us:List Value)(z:us.length=1):p us:=by
 rcases us with _|⟨a,_|⟨q,us⟩⟩<;>first|exact h a|cases z
theorem lR{p:List Value→Prop}(h:∀a b,p [a,b])(us:List Value)(z:us.length=2):p us:=by
 rcases us with _|⟨a,_|⟨b,_|⟨q,us⟩⟩⟩<;>first|exact h a b|cases z
theorem Ec{p:List Value→Prop}(h:∀a b c,p [a,b,c])(us:List Value)(z:us.length=3):p us:=by
 rcases us with _|⟨a,_|⟨b,_|⟨c,_|⟨q,us⟩⟩⟩⟩<;>first|exact h a b c|cases z
theorem NV{p:List Value→Prop}(h:∀a b c d,p [a,b,c,d])(us:List Value)(z:us.length=4):p us:=by
 rcases us with _|⟨a,_|⟨b,_|⟨c,_|⟨d,_|⟨q,us⟩⟩⟩⟩⟩<;>first|exact h a b c d|cases z
theorem Og{p:List Value→Prop}(h:∀a b c d e,p [a,b,c,d,e])(us:List Value)(z:us.length=5):p us:=by
 rcases us with _|⟨a,_|⟨b,_|⟨c,_|⟨d,_|⟨e,_|⟨q,us⟩⟩⟩⟩⟩⟩<;>first|exact h a b c d e|cases z
set_option maxHeartbeats 0 in
theorem Mn{P:Program}{w:World}{K:PySem.W.Frag}{h:Heap}{mg:Str→Option Value}{base:Heap}{G:Gs}{f0 f1 f2 f3 f4 f5 f6 f7 f8 f9 f10 f11 f12 f13 f14 f15 f16 f17 f18 f19 f20 f21 f22 f23 f24 f25 f26 f27 f28 f29 f30 f31 f32 f33 f34 f35 f36 f37 f38 f39 f40 f41 f42 f43 f44 f45 f46 f47 f48 f49 f50 f51 f52 f53 f54 f55 f56 f57 f58 f59 f60 f61 f62 f63 f64 f65 f66 f67 f68 f69 f70 f71 f72 f73 f74 f75 f76 f77 f78 f79 f80 f81 f82 f83 f84:Addr}{fd:FuncData}(X:K.In h)(GG:h.Ns mainGlobals mg)(T:Tx K mg G)(TD:Gg mg)
  (d0:br K "packed" vP f0)
  (d1:br K "is_packed" nA f1)
  (d2:br K "unpacked" qk f2)
  (d3:br K "metres_text" kO f3)
  (d4:br K "halved" vS f4)
  (d5:br K "rounded" sL f5)
  (d6:br K "turned" vJ f6)
  (d7:br K "of_whole" qp f7)
  (d8:br K "of_single" nq f8)
  (d9:br K "opposite" qo f9)
  (d10:br K "without_sign" jP f10)
  (d11:br K "signed" vL f11)
  (d12:br K "is_below" qv f12)
  (d13:br K "add" G6 f13)
  (d14:br K "subtract" ql f14)
  (d15:br K "multiply" qt f15)
  (d16:br K "divide" vV f16)
  (d17:br K "whole_root" l9 f17)
  (d18:br K "root" Cw f18)
  (d19:br K "scaled" vO f19)
  (d20:br K "nearest_whole" jk f20)
  (d21:br K "whole_below" kL f21)
  (d22:br K "stored_bits" kM f22)
  (d23:br K "series" vM f23)
  (d24:br K "within_eighth" ji f24)
  (d25:br K "cosine" vW f25)
  (d26:br K "sine" Cv f26)
  (d30:br K "place" zA f30)
  (d31:br K "surge_tenths" jQ f31)
  (d32:br K "tenths" vK f32)
  (d33:br K "as_metres" nD f33)
  (d34:br K "metres" vQ f34)
  (d35:br K "sea_level" nj f35)
  (d36:br K "millimetres" kN f36)
  (d37:br K "extremes" qx f37)
  (d39:br K "depth" zD f39)
  (d40:br K "is_deep_enough" iG f40)
  (d41:br K "is_near" sO f41)
  (d42:br K "can_be_set" mj f42)
  (d43:br K "set_way" sJ f43)
  (d44:br K "flow" CB f44)
  (d45:br K "pass_minutes" jR f45)
  (d47:br K "single_metres" jj f47)
  (d48:br K "go_on" zB f48)
  (d49:br K "row_height" mh f49)
  (d50:br K "heights" sQ f50)
  (d51:br K "is_high_water" jl f51)
  (d52:br K "is_low_water" jS f52)
  (d53:br K "high_and_low" jU f53)
  (d55:br K "is_minute" nB f55)
  (d56:br K "is_count" qu f56)
  (d57:br K "is_within" ny f57)
  (d58:br K "is_from_zero" jT f58)
  (d59:br K "has_lock" qw f59)
  (d60:br K "begin" zE f60)
  (d61:br K "mark" Cy f61)
  (d62:br K "wave" Ct f62)
  (d63:br K "surge" zz f63)
  (d64:br K "height" vR f64)
  (d65:br K "double" vU f65)
  (d66:br K "whole_millimetres" gu f66)
  (d67:br K "mm" LD f67)
  (d68:br K "floor" zC f68)
  (d69:br K "decimal" sR f69)
  (d70:br K "text" Cu f70)
  (d71:br K "least_and_greatest" fY f71)
  (d72:br K "row" s_row f72)
  (d73:br K "turns" zy f73)
  (d74:br K "is_lock" sP f74)
  (d75:br K "lock" CA f75)
  (d76:br K "level_now" nu f76)
  (d77:br K "work" Cr f77)
  (d78:br K "set_time" qm f78)
  (d79:br K "run" G2 f79)
  (d80:br K "may" G3 f80)
  (d81:br K "look" Cz f81)
  (d82:br K "when" Cs f82)
  (d83:br K "answer_to" nE f83)
  (d84:br K "answers" oS f84)
  (e_Wave:lZ K "Wave" G.CW)(i_Wave:iP K G.CW "Wave.__init__" jm f27)
  (e_Surge:lZ K "Surge" G.CR)(i_Surge:iP K G.CR "Surge.__init__" iH f28)
  (e_Sea:lZ K "Sea" G.CS)(i_Sea:iP K G.CS "Sea.__init__" jV f29)
  (e_Lock:lZ K "Lock" G.CL)(i_Lock:iP K G.CL "Lock.__init__" jo f38)
  (e_Pair:lZ K "Pair" G.CP)(i_Pair:iP K G.CP "Pair.__init__" jn f46)
  (e_Harbour:lZ K "Harbour" G.CH)(i_Harbour:iP K G.CH "Harbour.__init__" gR f54)
  (GC:GD P w K G.aCA [(.inl 0,.ref f60),(.inl 1,.ref f61),(.inl 2,.ref f62),(.inl 3,.ref f63),(.inl 4,.ref f64),(.inl 5,.ref f65),(.inl 7,.ref f67),(.inl 8,.ref f68),(.inl 9,.ref f69),(.inl 10,.ref f70),(.inl 11,.ref f71),(.inl 12,.ref f72),(.inl 13,.ref f73),(.inl 14,.ref f75),(.inl 15,.ref f77),(.inl 16,.ref f78),(.inl 17,.ref f79),(.inl 18,.ref f80),(.inl 19,.ref f81),(.inl 20,.ref f82)])(GO:GD P w K G.aCO counts)(F84:eX K "answers" "answers" oS f84 fd):
  cA P w K mg base eS 14 f84 fd ["calls"] (DA K):=by
 have A:∀{x:Str} {st:Stmt} {f:Addr} {k:Nat} {ps:List Str} {sp:Sp},br K x st f→(∀{fd:FuncData},eX K x x st f fd→cA P w K mg base eS k f fd ps sp)→(∀(kV doc pm:Value) (an:Option Addr) (cdv ct:Value) (us:List Value),us.length=ps.length→bindArgs (PySem.W.fnOf x x (mC st) (kI st) (aR st) .none kV doc pm an cdv ct) ⟨us,[]⟩=pure (ps.zip us))→di P w K mg base x k ps sp:=fun d o b=>d.fn.elim fun _ F=>⟨_,_,o F,PySem.W.mg_of X GG d.ns,d.kp,F.binds b⟩
 have C:∀{x:Str} {st:Stmt} {f:Addr} {k:Nat} {kvs:List (Key×V)} {n:Int},br K x st f→di P w K mg base x k ["harbour","given"] (vt K G n)→k≤10→uA kvs (.inl n)=some (.ref f)→∃(f:Addr) (fd:FuncData) (k:Nat),k≤10∧uA kvs (.inl n)=some (.ref f)∧cA P w K mg base eS k f fd ["harbour","given"] (vt K G n)∧PySem.W.keepIn K (.ref f)=true∧Binds K fd ["harbour","given"] []:=by
  intro x st f k kvs n d h hk hv
  obtain⟨f2,fd,o,e,kp,b⟩:=h.ex
  have z:=e.symm.trans (PySem.W.mg_of X GG d.ns)
  cases z
  exact⟨_,fd,k,hk,hv,o,kp,b⟩
 have h0:=A d0 (Fl · T.toTxt TD) fun _ _ _ _ _ _=>uV fun _=>rfl
 have h1:=A d1 (zX · TD) fun _ _ _ _ _ _=>uV fun _=>rfl
 have h2:=A d2 (Bt · TD) fun _ _ _ _ _ _=>uV fun _=>rfl
 have h3:=A d3 (wL · T.toTxt TD) fun _ _ _ _ _ _=>uV fun _=>rfl
 have h4:=A d4 (Fq ·) fun _ _ _ _ _ _=>lR fun _ _=>rfl
 have h5:=A d5 (CO · T.toTxt h4) fun _ _ _ _ _ _=>NV fun _ _ _ _=>rfl
 have h6:=A d6 (Fe · T.toTxt h5) fun _ _ _ _ _ _=>lR fun _ _=>rfl
 have h7:=A d7 (Bx · T.toTxt) fun _ _ _ _ _ _=>uV fun _=>rfl
 have h8:=A d8 (zU · T.toTxt) fun _ _ _ _ _ _=>uV fun _=>rfl
 have h9:=A d9 (Bw · T.toTxt) fun _ _ _ _ _ _=>uV fun _=>rfl
 have h10:=A d10 (uC · T.toTxt) fun _ _ _ _ _ _=>uV fun _=>rfl
 have h11:=A d11 (Fg · T.toTxt) fun _ _ _ _ _ _=>uV fun _=>rfl
 have h12:=A d12 (BB · T.toTxt h11) fun _ _ _ _ _ _=>lR fun _ _=>rfl
 have h13:=A d13 (LU · T.toTxt h11 h5) fun _ _ _ _ _ _=>Ec fun _ _ _=>rfl
 have h14:=A d14 (Bu · T.toTxt h9 h13) fun _ _ _ _ _ _=>Ec fun _ _ _=>rfl
 have h15:=A d15 (By · T.toTxt h5) fun _ _ _ _ _ _=>Ec fun _ _ _=>rfl
 have h16:=A d16 (Fv · T.toTxt h5) fun _ _ _ _ _ _=>Ec fun _ _ _=>rfl
 have h17:=A d17 (xW · T.toTxt) fun _ _ _ _ _ _=>uV fun _=>rfl
 have h18:=A d18 (J2 · T.toTxt h17 h5) fun _ _ _ _ _ _=>lR fun _ _=>rfl
 have h19:=A d19 (Fj · T.toTxt h5) fun _ _ _ _ _ _=>Ec fun _ _ _=>rfl
 have h20:=A d20 (sZ · T.toTxt h11 h4) fun _ _ _ _ _ _=>uV fun _=>rfl
 have h21:=A d21 (wI · T.toTxt h11) fun _ _ _ _ _ _=>uV fun _=>rfl
 have h22:=A d22 (wJ · T.toTxt h6) fun _ _ _ _ _ _=>lR fun _ _=>rfl
 have h23:=A d23 (Fi · T.toTxt h4) fun _ _ _ _ _ _=>lR fun _ _=>rfl
 have h24:=A d24 (sX · T.toTxtC) fun _ _ _ _ _ _=>uV fun _=>rfl
 have h25:=A d25 (Fw · T.toTxt T.toTxtC h24 h15 h23 h9) fun _ _ _ _ _ _=>uV fun _=>rfl
 have h26:=A d26 (J1 · T.toTxt T.toTxtC h25) fun _ _ _ _ _ _=>uV fun _=>rfl
 obtain⟨z27,F27⟩:=i_Wave.fn
 have c_Wave:qC P w K mg base "Wave" G.CW 4 ["self","high","factor","phase","speed"] (zp K G):=⟨_,_,⟨e_Wave.Mu,i_Wave.fi,i_Wave.Mv,e_Wave.kc⟩,tw F27 T h15,PySem.W.mg_of X GG e_Wave.ns,F27.binds fun _ _ _ _ _ _=>Og fun _ _ _ _ _=>rfl⟩
 obtain⟨z28,F28⟩:=i_Surge.fn
 have c_Surge:qC P w K mg base "Surge" G.CR 1 ["self","high","begins","half"] (vq G):=⟨_,_,⟨e_Surge.Mu,i_Surge.fi,i_Surge.Mv,e_Surge.kc⟩,rL F28 T,PySem.W.mg_of X GG e_Surge.ns,F28.binds fun _ _ _ _ _ _=>NV fun _ _ _ _=>rfl⟩
 obtain⟨z29,F29⟩:=i_Sea.fn
 have c_Sea:qC P w K mg base "Sea" G.CS 1 ["self","mean"] (zq G):=⟨_,_,⟨e_Sea.Mu,i_Sea.fi,i_Sea.Mv,e_Sea.kc⟩,uI F29 T,PySem.W.mg_of X GG e_Sea.ns,F29.binds fun _ _ _ _ _ _=>lR fun _ _=>rfl⟩
 have h30:=A d30 (HL · T) fun _ _ _ _ _ _=>lR fun _ _=>rfl
 have h31:=A d31 (uD · T h16 h15 h19 h7 h14) fun _ _ _ _ _ _=>lR fun _ _=>rfl
 have h32:=A d32 (Ff · T h7 h13 h15 h31 h25 h30) fun _ _ _ _ _ _=>lR fun _ _=>rfl
 have h33:=A d33 (zZ · T h16 h7) fun _ _ _ _ _ _=>uV fun _=>rfl
 have h34:=A d34 (Fo · T h33 h32) fun _ _ _ _ _ _=>lR fun _ _=>rfl
 have h35:=A d35 (zT · T h6 h34) fun _ _ _ _ _ _=>lR fun _ _=>rfl
 have h36:=A d36 (wK · T h16 h32 h7) fun _ _ _ _ _ _=>lR fun _ _=>rfl
 have h37:=A d37 (BD · T h32 h12) fun _ _ _ _ _ _=>Ec fun _ _ _=>rfl
 obtain⟨z38,F38⟩:=i_Lock.fn
 have c_Lock:qC P w K mg base "Lock" G.CL 1 ["self","area","sluice","sill","inner"] (zv G):=⟨_,_,⟨e_Lock.Mu,i_Lock.fi,i_Lock.Mv,e_Lock.kc⟩,tD F38 T,PySem.W.mg_of X GG e_Lock.ns,F38.binds fun _ _ _ _ _ _=>Og fun _ _ _ _ _=>rfl⟩
 have h39:=A d39 (HP · T h14) fun _ _ _ _ _ _=>lR fun _ _=>rfl
 have h40:=A d40 (rK · T h12 h39 h13) fun _ _ _ _ _ _=>Ec fun _ _ _=>rfl
 have h41:=A d41 (CQ · T h12 h10 h14) fun _ _ _ _ _ _=>lR fun _ _=>rfl
 have h42:=A d42 (xY · T h41) fun _ _ _ _ _ _=>Ec fun _ _ _=>rfl
 have h43:=A d43 (CN · T) fun _ _ _ _ _ _=>Ec fun _ _ _=>rfl
 have h44:=A d44 (J6 · T h14 h10 h16 h15 h12 h18 h13 h9) fun _ _ _ _ _ _=>lR fun _ _=>rfl
 have h45:=A d45 (uE · T h35 h44) fun _ _ _ _ _ _=>NV fun _ _ _ _=>rfl
 have h47:=A d47 (sY · T h6 h33) fun _ _ _ _ _ _=>uV fun _=>rfl
 obtain⟨z46,F46⟩:=i_Pair.fn
 have c_Pair:qC P w K mg base "Pair" G.CP 7 ["self","wave","minute"] (zu K G):=⟨_,_,⟨e_Pair.Mu,i_Pair.fi,i_Pair.Mv,e_Pair.kc⟩,tB F46 T h30 h47 h6 h15 h25 h26,PySem.W.mg_of X GG e_Pair.ns,F46.binds fun _ _ _ _ _ _=>Ec fun _ _ _=>rfl⟩
 have h48:=A d48 (HM · T h14 h13 h15) fun _ _ _ _ _ _=>uV fun _=>rfl
 have h49:=A d49 (xX · T h15 h13) fun _ _ _ _ _ _=>lR fun _ _=>rfl
 have h50:=A d50 (CU · T h47 h7 c_Pair h49 h48) fun _ _ _ _ _ _=>Ec fun _ _ _=>rfl
 have h51:=A d51 (tu · T h12) fun _ _ _ _ _ _=>Ec fun _ _ _=>rfl
 have h52:=A d52 (uF · T h12) fun _ _ _ _ _ _=>Ec fun _ _ _=>rfl
 have h53:=A d53 (uH · T h51 h52) fun _ _ _ _ _ _=>uV fun _=>rfl
 obtain⟨z54,F54⟩:=i_Harbour.fn
 have c_Harbour:qC P w K mg base "Harbour" G.CH 3 ["self"] (qj K G):=⟨_,_,⟨e_Harbour.Mu,i_Harbour.fi,i_Harbour.Mv,e_Harbour.kc⟩,pN F54 T c_Sea,PySem.W.mg_of X GG e_Harbour.ns,F54.binds fun _ _ _ _ _ _=>uV fun _=>rfl⟩
 have h55:=A d55 (zY · T) fun _ _ _ _ _ _=>uV fun _=>rfl
 have h56:=A d56 (BA · T) fun _ _ _ _ _ _=>uV fun _=>rfl
 have h57:=A d57 (zW · T) fun _ _ _ _ _ _=>lR fun _ _=>rfl
 have h58:=A d58 (uG · T) fun _ _ _ _ _ _=>lR fun _ _=>rfl
 have h59:=A d59 (BC · T) fun _ _ _ _ _ _=>lR fun _ _=>rfl
 have h60:=A d60 (HQ · T c_Sea) fun _ _ _ _ _ _=>lR fun _ _=>rfl
 have h61:=A d61 (J3 · T h2 h1) fun _ _ _ _ _ _=>lR fun _ _=>rfl
 have h62:=A d62 (JZ · T h57 c_Wave h7 h8) fun _ _ _ _ _ _=>lR fun _ _=>rfl
 have h63:=A d63 (HK · T c_Surge h55) fun _ _ _ _ _ _=>lR fun _ _=>rfl
 have h64:=A d64 (Fp · T h22 h34) fun _ _ _ _ _ _=>lR fun _ _=>rfl
 have h65:=A d65 (Ft · T h22 h34) fun _ _ _ _ _ _=>lR fun _ _=>rfl
 have h66:=A d66 (nU · T h20 h36) fun _ _ _ _ _ _=>lR fun _ _=>rfl
 have h67:=A d67 (MJ · T h66) fun _ _ _ _ _ _=>lR fun _ _=>rfl
 have h68:=A d68 (HN · T h21 h36) fun _ _ _ _ _ _=>lR fun _ _=>rfl
 have h69:=A d69 (CV · T h0 h66) fun _ _ _ _ _ _=>lR fun _ _=>rfl
 have h70:=A d70 (J0 · T h3 h66) fun _ _ _ _ _ _=>lR fun _ _=>rfl
 have h71:=A d71 (mV · T h37 h22 h33) fun _ _ _ _ _ _=>lR fun _ _=>rfl
 have h72:=A d72 (LR · T h56 h22 h50) fun _ _ _ _ _ _=>lR fun _ _=>rfl
 have h73:=A d73 (HJ · T h50 h53 h56 h22) fun _ _ _ _ _ _=>lR fun _ _=>rfl
 have h74:=A d74 (CT · T h57 h58) fun _ _ _ _ _ _=>uV fun _=>rfl
 have h75:=A d75 (J5 · T h74 h8 c_Lock) fun _ _ _ _ _ _=>lR fun _ _=>rfl
 have h76:=A d76 (zV · T h35) fun _ _ _ _ _ _=>uV fun _=>rfl
 have h77:=A d77 (JX · T h43 h76 h42 h59) fun _ _ _ _ _ _=>lR fun _ _=>rfl
 have h78:=A d78 (Bv · T) fun _ _ _ _ _ _=>lR fun _ _=>rfl
 have h79:=A d79 (LQ · T h45 h56 h55) fun _ _ _ _ _ _=>lR fun _ _=>rfl
 have h80:=A d80 (LS · T h59 h58 h40 h8) fun _ _ _ _ _ _=>lR fun _ _=>rfl
 have h81:=A d81 (J4 · T h59 h76 h39 h22) fun _ _ _ _ _ _=>lR fun _ _=>rfl
 have h82:=A d82 (JY · T h8 h58 h40 h59 h56 h35) fun _ _ _ _ _ _=>lR fun _ _=>rfl
 have HC:xQ P w K mg base G:=by
  refine⟨_,GC,fun n hn=>?_⟩
  rcases hn with rfl|rfl|rfl|rfl|rfl|rfl|rfl|rfl|rfl|rfl|rfl|rfl|rfl|rfl|rfl|rfl|rfl|rfl|rfl|rfl
  ·exact C d60 h60 (by decide) rfl
  ·exact C d61 h61 (by decide) rfl
  ·exact C d62 h62 (by decide) rfl
  ·exact C d63 h63 (by decide) rfl
  ·exact C d64 h64 (by decide) rfl
  ·exact C d65 h65 (by decide) rfl
  ·exact C d67 h67 (by decide) rfl
  ·exact C d68 h68 (by decide) rfl
  ·exact C d69 h69 (by decide) rfl
  ·exact C d70 h70 (by decide) rfl
  ·exact C d71 h71 (by decide) rfl
  ·exact C d72 h72 (by decide) rfl
  ·exact C d73 h73 (by decide) rfl
  ·exact C d75 h75 (by decide) rfl
  ·exact C d77 h77 (by decide) rfl
  ·exact C d78 h78 (by decide) rfl
  ·exact C d79 h79 (by decide) rfl
  ·exact C d80 h80 (by decide) rfl
  ·exact C d81 h81 (by decide) rfl
  ·exact C d82 h82 (by decide) rfl
 have h83:=A d83 (z7 · T HC h55) fun _ _ _ _ _ _=>Ec fun _ _ _=>rfl
 exact CY F84 T GO c_Harbour h83
theorem xS{K:PySem.W.Frag}{H:Hp}{p:Addr}{t:Nat×Int}(h:eO K p [.int t.1,.int t.2]):IsPair K H (.ref p) t:=⟨p,rfl,h.at H⟩
set_option maxHeartbeats 0 in
theorem all_mk:EG:=by
 constructor
 intro P w K h mg fa f0 f1 f2 f3 f4 f5 f6 f7 f8 f9 f10 f11 f12 f13 f14 f15 f16 f17 f18 f19 f20 f21 f22 f23 f24 f25 f26 f27 f28 f29 f30 f31 f32 f33 f34 f35 f36 f37 f38 f39 f40 f41 f42 f43 f44 f45 f46 f47 f48 f49 f50 f51 f52 f53 f54 f55 f56 f57 f58 f59 f60 f61 f62 f63 f64 f65 f66 f67 f68 f69 f70 f71 f72 f73 f74 f75 f76 f77 f78 f79 f80 f81 f82 f83 f84 aU aD aS aC aT CW CR CS CL CP CH aSL aGA aA3 aHF aNO aOM aCA aCO kc0 kc1 kc2 kc3 kc4 kc5 kc6 kc7 kc8 kc9 kc10 ks0 ks1 ks2 ks3 ks4 ks5 ks6 ks7 ks8 ks9 ks10 X GG hfa d0 d1 d2 d3 d4 d5 d6 d7 d8 d9 d10 d11 d12 d13 d14 d15 d16 d17 d18 d19 d20 d21 d22 d23 d24 d25 d26 d30 d31 d32 d33 d34 d35 d36 d37 d39 d40 d41 d42 d43 d44 d45 d47 d48 d49 d50 d51 d52 d53 d55 d56 d57 d58 d59 d60 d61 d62 d63 d64 d65 d66 d67 d68 d69 d70 d71 d72 d73 d74 d75 d76 d77 d78 d79 d80 d81 d82 d83 d84 e_Wave i_Wave e_Surge i_Surge e_Sea i_Sea e_Lock i_Lock e_Pair i_Pair e_Harbour i_Harbour gP tE iw iA j0 iB rO lQ cM eN o8 Ab kE kF jz jA gf gF fP gO fC iX jB kG iW iz gg gy dN dg iy jC lP iu eU j3 wW o9 jf pq gZ jE EB xJ B0 xK oG oF BZ mD fz vj rj qI cu m5 oU oM oW oO rA qJ zG zl oV oN iS iR ic t_COSINE_TERMS kc_0 kc_1 kc_2 kc_3 kc_4 kc_5 kc_6 kc_7 kc_8 kc_9 kc_10 jy t_SINE_TERMS ks_0 ks_1 ks_2 ks_3 ks_4 ks_5 ks_6 ks_7 ks_8 ks_9 ks_10 uN rq g_CALLS g_COUNTS n_wHigh n_wFactor n_wWidest n_wPhase n_wSpeed n_rHigh n_rBegins n_rHalf n_sMean n_sWaves n_sSurge n_lArea n_lSluice n_lSill n_lInner n_lLevel n_lWay n_pFactor n_pA n_pB n_pG n_pH n_hSea n_hLocks n_hNow Ms Mt MM Np ML Mr Nm MN MO Nn NU
 have e:=hfa.symm.trans (PySem.W.mg_of X GG d84.ns)
 cases e
 have gi:∀{x:Str} {i:Int},dF K x i→fq mg x i:=fun h=>by
  obtain⟨t,h⟩:=h
  exact⟨t,PySem.W.mg_of X GG h⟩
 have T:Tx K mg ⟨aU,aD,aS,aC,aT,CW,CR,CS,CL,CP,CH,aSL,aGA,aA3,aHF,aNO,aOM,aCA,aCO⟩:={
  gP:=gi gP
  tE:=gi tE
  iw:=gi iw
  iA:=gi iA
  j0:=gi j0
  iB:=gi iB
  rO:=gi rO
  lQ:=gi lQ
  cM:=gi cM
  eN:=gi eN
  o8:=gi o8
  Ab:=gi Ab
  kE:=gi kE
  kF:=gi kF
  jz:=gi jz
  jA:=gi jA
  gf:=gi gf
  gF:=gi gF
  fP:=gi fP
  gO:=gi gO
  fC:=gi fC
  iX:=gi iX
  jB:=gi jB
  kG:=gi kG
  iW:=gi iW
  iz:=gi iz
  gg:=gi gg
  gy:=gi gy
  dN:=gi dN
  dg:=gi dg
  iy:=gi iy
  jC:=gi jC
  lP:=gi lP
  iu:=gi iu
  eU:=gi eU
  j3:=gi j3
  wW:=gi wW
  o9:=gi o9
  gZ:=PySem.W.mg_none_of X GG gZ
  jE:=PySem.W.mg_none_of X GG jE
  EB:=PySem.W.mg_none_of X GG EB
  xJ:=PySem.W.mg_none_of X GG xJ
  B0:=PySem.W.mg_none_of X GG B0
  xK:=PySem.W.mg_none_of X GG xK
  oG:=PySem.W.mg_none_of X GG oG
  oF:=PySem.W.mg_none_of X GG oF
  fz:=PySem.W.mg_of X GG fz
  rj:=PySem.W.mg_of X GG rj
  cu:=PySem.W.mg_of X GG cu
  oU:=PySem.W.mg_of X GG oU
  oW:=PySem.W.mg_of X GG oW
  rA:=PySem.W.mg_of X GG rA
  zG:=PySem.W.mg_of X GG zG
  oV:=PySem.W.mg_of X GG oV
  iS:=PySem.W.mg_of X GG iS
  ic:=PySem.W.mg_of X GG ic
  jy:=PySem.W.mg_of X GG jy
  uN:=PySem.W.mg_of X GG uN
  rq:=PySem.W.mg_of X GG rq
  vj:=vj
  qI:=qI
  m5:=m5
  oM:=oM
  oO:=oO
  qJ:=qJ
  zl:=zl
  oN:=oN
  iR:=iR
  AQ:=⟨_,t_COSINE_TERMS,fun H=>.cons (xS kc_0) (.cons (xS kc_1) (.cons (xS kc_2) (.cons (xS kc_3) (.cons (xS kc_4) (.cons (xS kc_5) (.cons (xS kc_6) (.cons (xS kc_7) (.cons (xS kc_8) (.cons (xS kc_9) (.cons (xS kc_10) (.nil)))))))))))⟩
  GA:=⟨_,t_SINE_TERMS,fun H=>.cons (xS ks_0) (.cons (xS ks_1) (.cons (xS ks_2) (.cons (xS ks_3) (.cons (xS ks_4) (.cons (xS ks_5) (.cons (xS ks_6) (.cons (xS ks_7) (.cons (xS ks_8) (.cons (xS ks_9) (.cons (xS ks_10) (.nil)))))))))))⟩
  cW:=e_Wave.cls
  cR:=e_Surge.cls
  cS:=e_Sea.cls
  cL:=e_Lock.cls
  cP:=e_Pair.cls
  cH:=e_Harbour.cls
  Dr:=n_wHigh
  zh:=n_wFactor
  zg:=n_wWidest
  Ca:=n_wPhase
  vh:=n_wSpeed
  Hq:=n_rHigh
  uO:=n_rBegins
  DS:=n_rHalf
  Bd:=n_sMean
  vX:=n_sWaves
  sU:=n_sSurge
  Io:=n_lArea
  Ah:=n_lSluice
  Im:=n_lSill
  tG:=n_lInner
  gz:=n_lLevel
  Ag:=n_lWay
  zR:=n_pFactor
  pA:=n_pA
  pB:=n_pB
  pG:=n_pG
  pH:=n_pH
  pO:=n_hSea
  jr:=n_hLocks
  Aj:=n_hNow
  Ms:=Ms
  Mt:=Mt
  MM:=MM
  Np:=Np
  ML:=ML
  Mr:=Mr
  Nm:=Nm
  MN:=MN
  MO:=MO
  Nn:=Nn
  NU:=NU}
 have TD:Gg mg:={jf:=gi jf,pq:=gi pq,gZ:=PySem.W.mg_none_of X GG gZ,BZ:=PySem.W.mg_none_of X GG BZ,mD:=PySem.W.mg_none_of X GG mD,xJ:=PySem.W.mg_none_of X GG xJ}
 obtain⟨fd,F⟩:=d84.fn
 have F':=F
 obtain⟨oc,od,kV,doc,pm,an,cdv,ct,osl,rfl,lk,hcd⟩:=F.ex
 exact⟨_,fun s us hu=>match us,hu with|[_],_=>.of_eq rfl,fun base _ _=>Mn X GG T TD d0 d1 d2 d3 d4 d5 d6 d7 d8 d9 d10 d11 d12 d13 d14 d15 d16 d17 d18 d19 d20 d21 d22 d23 d24 d25 d26 d30 d31 d32 d33 d34 d35 d36 d37 d39 d40 d41 d42 d43 d44 d45 d47 d48 d49 d50 d51 d52 d53 d55 d56 d57 d58 d59 d60 d61 d62 d63 d64 d65 d66 d67 d68 d69 d70 d71 d72 d73 d74 d75 d76 d77 d78 d79 d80 d81 d82 d83 d84 e_Wave i_Wave e_Surge i_Surge e_Sea i_Sea e_Lock i_Lock e_Pair i_Pair e_Harbour i_Harbour g_CALLS g_COUNTS F'⟩
end TB
end
theorem PySem.Challenge.cw_tidelocks_s01_answers_holds : PySem.Challenge.rw_tidelocks_s01_answers.Holds := by
 exact @HE.hdq TB.all_mk
