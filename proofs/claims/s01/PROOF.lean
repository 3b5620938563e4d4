import PyProof.Rows.All
import Wide.All
import OpenK.AllK
import Wide.FinOn
import PyProof.EqAt
import PyProof.EqKinds
import PyProof.TupleCall
import KE.BitLaws
import KE.KLam
import KE.KNest
import Open.Tops
import Open.SpecLaws
import KE.OsHead
import KE.OsGo
import PySem.Challenge.RW_albumwhole_s01_answers
set_option Elab.async false
set_option linter.all false
set_option maxRecDepth 100000
set_option maxHeartbeats 0
set_option exponentiation.threshold 10000
set_option compiler.extract_closed false
noncomputable section
open PySem.W (instObj methodObj Frag lookIn plainGet hasDictIn findIn handedIn plainGet_of isFn plainOver takerIn makesIn emptyDict keepIn callWith_K methodCall_KW callWith_K0 cellsFrom_some fnOf codeIn mg_of WRecords length_le_weightAllW kla_obj CodeHd tabObj envX kla_fn FnAt noTabs mem_of_lookupK nsIn mg_none_of)
open Kp291 (frac products fact differentUp twosAtMost okW squares firstAt meanFirst KINDS different)
open Kp292 (Frac low over sumF signed leq lacking weight size within sets allBy heavyUp)
open Kp293 (meanUp addsUp)
open Kp296 (Table State with_ count change tellAll doubles have_ tellF swapped swaps greater fairest allSwaps)
open Kp294 (rising rowUp nth counts orders twoUp then_ oneColour)
open Kp295 (MOST spread atLeastUp atLeast kthAt kthMean)
open Kp296Neutral (callOf)
open PyKp296 (shape answers_asked answers)
namespace L2
open PySem PySem.Spec PyProof.Rows
abbrev Key:=Sum Int Str
def Ed:Key->Value->Bool
 | .inl k,v=>Value.isInt k v
 | .inr x,v=>Value.isStrOf x v
def aa1(w:World):Key->Int
 | .inl k=>hashInt k
 | .inr x=>hashStr w x
theorem ij:∀{k:Key} {v:Value},Ed k v=true->(∃i t,k=Sum.inl i/\v=Value.int i t)∨(∃x t,k=Sum.inr x/\v=Value.str x t)
 | .inl i,v,h=>by
  obtain⟨t,e⟩:=Value.isInt_shape (k:=i) (v:=v) h;exact .inl ⟨i,t,rfl,e⟩
 | .inr x,v,h=>by
  obtain⟨t,e⟩:=Value.isStrOf_shape (x:=x) (v:=v) h;exact .inr ⟨x,t,rfl,e⟩
theorem Oj(i:Int)(t:Tok):Ed (.inl i) (.int i t)=true:=by simp[Ed,Value.isInt]
theorem Ol(x:Str)(t:Tok):Ed (.inr x) (.str x t)=true:=by simp[Ed,Value.isStrOf]
theorem V6(a b:Int):decide ((Sum.inl a:Key)=Sum.inl b)=(a==b):=by
 by_cases e:a=b
 ·subst e;simp
 have h:¬(Sum.inl a:Key)=Sum.inl b:=fun q=>e (Sum.inl.inj q);rw[decide_eq_false h];exact(beq_eq_false_iff_ne.mpr e).symm
theorem V7(a b:Str):decide ((Sum.inr a:Key)=Sum.inr b)=decide (a=b):=by
 by_cases e:a=b
 ·subst e;simp
 have h:¬(Sum.inr a:Key)=Sum.inr b:=fun q=>e (Sum.inr.inj q);rw[decide_eq_false h,decide_eq_false e]
theorem V8(a:Int)(b:Str):decide ((Sum.inl a:Key)=Sum.inr b)=false:=decide_eq_false (fun q=>nomatch q)
theorem V9(a:Str)(b:Int):decide ((Sum.inr a:Key)=Sum.inl b)=false:=decide_eq_false (fun q=>nomatch q)
def lG(prog:Program)(w:World):PySem.KeyKind prog w Key where
 is:=Ed
 hash:=aa1 w
 inj:=fun v a b ha hb=>by
  rcases ij ha with⟨i,t,rfl,rfl⟩|⟨x,t,rfl,rfl⟩
  ·rcases ij hb with⟨j,u,rfl,e⟩|⟨y,u,rfl,e⟩
   ·injection e with e1 _;rw[e1]
   exact nomatch e
  rcases ij hb with⟨j,u,rfl,e⟩|⟨y,u,rfl,e⟩
  ·exact nomatch e
  injection e with e1 _;rw[e1]
 byValue:=fun k v h=>by
  rcases ij h with⟨i,t,rfl,rfl⟩|⟨x,t,rfl,rfl⟩ <;> rfl
 pyHash:=fun hv h=>by
  rcases ij hv with⟨i,t,rfl,rfl⟩|⟨x,t,rfl,rfl⟩
  ·exact wpAny_pyHash_int h
  exact wpAny_pyHash_str h
 eqBool:=fun hu hv h=>by
  rcases ij hu with⟨i,t,rfl,rfl⟩|⟨x,t,rfl,rfl⟩
  ·rcases ij hv with⟨j,u,rfl,rfl⟩|⟨y,u,rfl,rfl⟩
   ·rw[V6]at h;exact wpAny_eqBool_int h
   rw[V8]at h;exact SeqAt.EqAt.int_str i t y u _ _ _ _ h
  rcases ij hv with⟨j,u,rfl,rfl⟩|⟨y,u,rfl,rfl⟩
  ·rw[V9]at h;exact SeqAt.EqAt.str_int x t j u _ _ _ _ h
  rw[V7]at h;exact wpAny_eqBool_str h
 «strs» :=fun k x t v h=>by
  rcases ij h with⟨i,u,rfl,e⟩|⟨y,u,rfl,e⟩
  ·exact nomatch e
  injection e with e1 _
  subst e1;cases v <;> rfl
theorem Ck(prog:Program)(w:World)(i:Int)(t:Tok):(lG prog w).is (.inl i) (.int i t)=true:=Oj i t
theorem K9(prog:Program)(w:World)(x:Str)(t:Tok):(lG prog w).is (.inr x) (.str x t)=true:=Ol x t
inductive V where
 |e7|bl (b:Bool)|int (i:Int)|str (x:Str)|Ac (b:Array UInt8)|Wa (b:UInt64)|ref (a:Addr)|ty (n:String)
 deriving DecidableEq
def RelV:V->Value->Prop
 | .e7,u=>u=Value.none
 | .bl b,u=>u=Value.bool b
 | .int i,u=>∃t,u=Value.int i t
 | .str x,u=>∃t,u=Value.str x t
 | .Ac b,u=>∃t,u=Value.bytes b t
 | .Wa b,u=>∃t,u=Value.float b t
 | .ref a,u=>u=Value.ref a
 | .ty n,u=>u=Value.type n
abbrev Vals:List V->List Value->Prop:=Paired RelV
theorem Vals.length{xs:List V}{us:List Value}(r:Vals xs us):xs.length=us.length:=Paired.length r
theorem Vals.get:∀{xs:List V} {us:List Value} {i:Nat} {x:V},Vals xs us->xs[i]? =some x->∃u,us[i]? =some u/\RelV x u
 |_,_,_,_,.nil,e=>by simp at e
 |_,_,0,_,.cons r _,e=>by simp at e;subst e;exact⟨_,rfl,r⟩
 |_,_,i+1,x,.cons _ t,e=>by
  obtain⟨u,h1,h2⟩:=Vals.get (i:=i) (x:=x) t (by simpa using e);exact⟨u,by simpa using h1,h2⟩
theorem Vals.set{x:V}{u:Value}(r:RelV x u):∀{xs:List V} {us:List Value} (i:Nat),Vals xs us->Vals (xs.set i x) (us.set i u)
 |_,_,_,.nil=>.nil
 |_,_,0,.cons _ t=>.cons r t
 |_,_,i+1,.cons q t=>.cons q (Vals.set r i t)
theorem Vals.append:∀{xs ys:List V} {us ws:List Value},Vals xs us->Vals ys ws->Vals (xs++ys) (us++ws)
 |_,_,_,_,.nil,s=>s
 |_,_,_,_,.cons r t,s=>.cons r (Vals.append t s)
theorem Vals.take:∀{xs:List V} {us:List Value} (n:Nat),Vals xs us->Vals (xs.take n) (us.take n)
 |_,_,0,_=>.nil
 |_,_,_+1,.nil=>.nil
 |_,_,n+1,.cons r t=>.cons r (Vals.take n t)
theorem Vals.drop:∀{xs:List V} {us:List Value} (n:Nat),Vals xs us->Vals (xs.drop n) (us.drop n)
 |_,_,0,r=>r
 |_,_,_+1,.nil=>.nil
 |_,_,n+1,.cons _ t=>Vals.drop n t
def AO:Option V->Option Value->Prop
 |some v,some u=>RelV v u
 |none,none=>True
 |_,_=>False
def KV{κ:Type}:List (κ×V)->List (κ×Value)->Prop:=Paired fun(p:κ×V) (q:κ×Value)=>p.1=q.1/\RelV p.2 q.2
def kV:Key->V
 | .inl i=>.int i
 | .inr x=>.str x
inductive HO where
 |lst (xs:List V)
 |tup (xs:List V)
 |dK (kvs:List (Key×V))|dT (kvs:List (List Key×V))
 |set (S:Int->Bool) (n:Nat)
 |ins (C dx:Addr) (fs:List (Str×V))
 |own (x:Addr)
 |xd (fs:List (Str×V))
 |met (f x:Addr)
 |Y6 (lo hi:Int)
 |mR (o:Obj) (u:HO)
 |oA (ps:Array Value)
 |ext (φ:Heap->Prop)
abbrev Hp:=Addr->Option HO
def upd(H:Hp)(a:Addr)(o:HO):Hp:=fun b=>if b=a then some o else H b
theorem aj{H:Hp}{a:Addr}{o:HO}:upd H a o a=some o:=by unfold upd;rw[if_pos rfl]
theorem aE{H:Hp}{a b:Addr}{o:HO}(h:b≠a):upd H a o b=H b:=by unfold upd;rw[if_neg h]
theorem T7{H:Hp}{a:Addr}{o u:HO}:upd (upd H a o) a u=upd H a u:=by
 funext b;unfold upd;split <;> rfl
theorem Y7{H:Hp}{a b:Addr}{o u:HO}(h:H a=some o)(h':H b=some u)(d:o≠u):a≠b:=by
 intro e;subst e;rw[h]at h';exact d (Option.some.inj h')
theorem a7{H:Hp}{a b:Addr}{o:HO}(h:H a=some o)(h':H b=none):a≠b:=by
 intro e;subst e;rw[h]at h';cases h'
section
variable(P:Program)(w:World)
def gv(H:Hp)(h:Heap)(a:Addr):HO->Prop
 | .lst xs=>xs.length<=sizeLine/\∃(its:List Value) (n:Nat),Vals xs its/\h.get? a=some {cls:=.type "list",data:=.seq its.toArray n}
 | .tup xs=>xs.length<=sizeLine/\∃its:List Value,Vals xs its/\IsTup h a its.toArray
 | .dK kvs=>kvs.length<=sizeLine/\(a==sysModules)=false/\∃vs,KV kvs vs/\h.DictOf (lG P w) a vs
 | .dT kvs=>kvs.length<=sizeLine/\(a==sysModules)=false/\∃xs:List (List Key×Addr×Value),
   Paired (fun(p:List Key×V) (q:List Key×Addr×Value)=>p.1=q.1/\H q.2.1=some (.tup (p.1.map kV))/\RelV p.2 q.2.2) kvs xs/\
   ∃o es ep,h.get? a=some o/\o.ExactDict/\o.data= .dict es ep/\es.toList=xs.map (entryOfKey (tupleKind (lG P w)))/\(xs.map (·.1)).Nodup
 | .set S n=>h.SetOf (intKind P w) a S n
 | .ins C dx fs=>H dx=some (.own a)/\fs.length<=1000/\dx≠a/\h.get? a=some (instObj C dx)/\
   ∃mA,h.Ns1 dx mA/\(∀f,AO (fs.lookup f) (mA f))/\PySem.Within mA (fs.map (·.1))
 | .own _=>∃o,h.get? a=some o
 | .xd fs=>∃mA,h.Ns1 a mA/\∀f,AO (fs.lookup f) (mA f)
 | .Y6 lo hi=>∃t u v,h.get? a=some {cls:=.type "range",data:=.fields #[.int lo t,.int hi u,.int 1 v]}
 | .mR o u=>h.get? a=some o/\gv H h a u
 | .oA ps=>h.get? a=some {cls:=.none,data:=.fields ps}
 | .met f x=>h.get? a=some (methodObj (.ref f) (.ref x))
 | .ext φ=>φ h/\(∃o,h.get? a=some o)/\∀h1 h2:Heap,φ h1->(∀o,h1.get? a=some o->h2.get? a=some o)->φ h2
def kU(H:Hp)(h:Heap):Prop:=∀a o,H a=some o->gv P w H h a o
end
section
variable{P:Program}{w:World}{H H':Hp}{h h':Heap}{a:Addr}{o:HO}
theorem gv.lt(x:gv P w H h a o):a<h.objs.size:=by
 cases o with
 |lst xs=>obtain⟨_,_,_,_,e⟩:=x;exact Heap.lt_size e
 |tup xs=>obtain⟨_,_,_,p⟩:=x;exact p.lt
 |dK kvs=>obtain⟨_,_,_,_,o,_,_,e,_⟩:=x;exact Heap.lt_size e
 |dT kvs=>obtain⟨_,_,_,_,o,_,_,e,_⟩:=x;exact Heap.lt_size e
 |set S n=>obtain⟨o,_,_,_,e,_⟩:=x;exact Heap.lt_size e
 |ins C dx fs=>obtain⟨_,_,_,e,_⟩:=x;exact Heap.lt_size e
 |own y=>obtain⟨_,e⟩:=x;exact Heap.lt_size e
 |xd fs=>obtain⟨_,⟨_,_,_,e,_⟩,_⟩:=x;exact Heap.lt_size e
 |Y6 lo hi=>obtain⟨_,_,_,e⟩:=x;exact Heap.lt_size e
 |mR ob u=>obtain⟨e,_⟩:=x;exact Heap.lt_size e
 |oA ps=>exact Heap.lt_size (show h.get? a=some _ from x)
 |met f y=>exact Heap.lt_size (show h.get? a=some _ from x)
 |ext φ=>obtain⟨_,⟨_,e⟩,_⟩:=x;exact Heap.lt_size e
theorem Paired.YK{α β:Type}{F G:α->β->Prop}:∀{l₁:List α} {l₂:List β},Paired F l₁ l₂->(∀a b,F a b->G a b)->Paired G l₁ l₂
 |_,_,.nil,_=>.nil
 |_,_,.cons r t,f=>.cons (f _ _ r) (Paired.YK t f)
theorem gv.xS(x:gv P w H h a o)(k:∀b u,(b=a∨H b=some (.own a))->h.get? b=some u->h'.get? b=some u)
  (ho:∀b,H b=some (.own a)->H' b=some (.own a))(ht:∀b xs,H b=some (.tup xs)->H' b=some (.tup xs)):gv P w H' h' a o:=by
 induction o with
 |lst xs=>obtain⟨z,its,n,r,e⟩:=x;exact⟨z,its,n,r,k _ _ (.inl rfl) e⟩
 |tup xs=>obtain⟨z,its,r,ob,e,c⟩:=x;exact⟨z,its,r,ob,k _ _ (.inl rfl) e,c⟩
 |dK kvs=>obtain⟨z,y,vs,r,ob,es,ep,e,c⟩:=x;exact⟨z,y,vs,r,ob,es,ep,k _ _ (.inl rfl) e,c⟩
 |dT kvs=>
  obtain⟨z,y,xs,r,ob,es,ep,e,c⟩:=x;exact⟨z,y,xs,Paired.YK r fun p q z=>⟨z.1,ht _ _ z.2.1,z.2.2⟩,ob,es,ep,k _ _ (.inl rfl) e,c⟩
 |set S n=>obtain⟨ob,es,ep,t,e,c⟩:=x;exact⟨ob,es,ep,t,k _ _ (.inl rfl) e,c⟩
 |ins C dx fs=>
  obtain⟨d,z,ne,e,mA,⟨od,es,ep,e2,c⟩,r⟩:=x;exact⟨ho _ d,z,ne,k _ _ (.inl rfl) e,mA,⟨od,es,ep,k _ _ (.inr d) e2,c⟩,r⟩
 |own y=>obtain⟨ob,e⟩:=x;exact⟨ob,k _ _ (.inl rfl) e⟩
 |xd fs=>obtain⟨mA,⟨od,es,ep,e,c⟩,r⟩:=x;exact⟨mA,⟨od,es,ep,k _ _ (.inl rfl) e,c⟩,r⟩
 |Y6 lo hi=>obtain⟨t,u,v,e⟩:=x;exact⟨t,u,v,k _ _ (.inl rfl) e⟩
 |mR ob u ih=>obtain⟨e,q⟩:=x;exact⟨k _ _ (.inl rfl) e,ih q⟩
 |oA ps=>
  have e:h.get? a=some {cls:=.none,data:=.fields ps}:=x;show h'.get? a=some {cls:=.none,data:=.fields ps};exact k a _ (.inl rfl) e
 |met f y=>
  have e:h.get? a=some (methodObj (.ref f) (.ref y)):=x;show h'.get? a=some (methodObj (.ref f) (.ref y));exact k a _ (.inl rfl) e
 |ext φ=>obtain⟨p,⟨o,e⟩,st⟩:=x;exact⟨st _ _ p fun o q=>k _ _ (.inl rfl) q,⟨o,k _ _ (.inl rfl) e⟩,st⟩
theorem kU.lt(x:kU P w H h)(e:H a=some o):a<h.objs.size:=(x a o e).lt
theorem kU.fresh(x:kU P w H h)(e:h.objs.size<=a):H a=none:=by
 cases q:H a with
 |none=>rfl
 |some u=>exact absurd (Nat.lt_of_lt_of_le (x.lt q) e) (Nat.lt_irrefl _)
theorem kU.kept(x:kU P w H h)(k:∀b u,h.get? b=some u->h'.get? b=some u):kU P w H h':=fun a o e=>
 (x a o e).xS (fun b u _ q=>k b u q) (fun _ q=>q) fun _ _ q=>q
theorem kU.laid(x:kU P w H h)(k:∀b u,h.get? b=some u->h'.get? b=some u)(hp:h.objs.size<=a)(new:gv P w (upd H a o) h' a o):kU P w (upd H a o) h':=fun b u e=>by
 have hn:=x.fresh hp;by_cases hb:b=a
 ·subst hb;rw[aj]at e;cases e;exact new
 rw[aE hb]at e;exact(x b u e).xS (fun c v _ q=>k c v q) (fun c q=>by rw[aE (a7 q hn)];exact q) fun c xs q=>by rw[aE (a7 q hn)];exact q
end
def Rd(H:Hp)(a:Addr)(u:HO):Prop:=H a=some u∨∃o,H a=some (.mR o u)
theorem Rd.ok{P:Program}{w:World}{H:Hp}{h:Heap}{a:Addr}{u:HO}(r:Rd H a u)(x:kU P w H h):gv P w H h a u:=by
 rcases r with r|⟨o,r⟩
 ·exact x a u r
 obtain⟨_,q⟩:=x a _ r;exact q
def Wb:Option HO->Prop
 |some (.lst _)=>True
 |some (.dK _)=>True
 |some (.dT _)=>True
 |some (.set _ _)=>True
 |some (.ins _ _ _)=>True
 |some (.ext _)=>True
 |_=>False
section
variable{P:Program}{w:World}{H:Hp}{h h':Heap}{x e:Addr}{o':HO}
theorem kU.write(ok:kU P w H h)(mu:Wb (H x))(he:e=x∨H e=some (.own x))(k:∀b u,b≠e->h.get? b=some u->h'.get? b=some u)(R4:∃u,h'.get? e=some u)
  (new:gv P w (upd H x o') h' x o'):kU P w (upd H x o') h':=fun b u q=>by
 have YL:∀c y,H c=some (.own y)->c≠x:=fun c y r z=>by subst z;rw[r]at mu;exact mu
 have aa2:∀c xs,H c=some (.tup xs)->c≠x:=fun c xs r z=>by subst z;rw[r]at mu;exact mu
 by_cases hb:b=x
 ·subst hb;rw[aj]at q;cases q;exact new
 rw[aE hb]at q;by_cases Om:b=e
 ·have q':H b=some (.own x):=by
   rcases he with z|z
   ·exact absurd (Om.trans z) hb
   rw[Om];exact z
  rw[q]at q';cases q';obtain⟨v,hv⟩:=R4;exact⟨v,by rw[Om];exact hv⟩
 refine(ok b u q).xS (fun c v hc r=>k c v ?_ r) (fun c r=>by rw[aE (YL c b r)];exact r) fun c xs r=>by rw[aE (aa2 c xs r)];exact r
 rcases hc with rfl|hc
 ·exact Om
 rintro rfl;rcases he with z|z
 ·exact YL c b hc z
 rw[hc]at z;cases z;exact hb rfl
end
structure Un(fs ex:List Addr)(H H':Hp)(h h':Heap):Prop where
 keep:∀b o,h.get? b=some o->H b=none->b∉fs->b∉ex->h'.get? b=some o
 slot:∀b o,h.get? b=some o->H b=none->b∈fs->b∉ex->∃sl,h'.get? b=some {o with slots:=sl}
 free:∀b o,h.get? b=some o->H b=none->b∉ex->H' b=none
 there:∀b o,h.get? b=some o->b∉ex->∃o',h'.get? b=some o'
 tups:∀b xs,H b=some (.tup xs)->H' b=some (.tup xs)
 wO:∀b o u,H b=some (.mR o u)->H' b=some (.mR o u)
 xT:∀b ps,H b=some (.oA ps)->∃more,H' b=some (.oA (ps++more))
section
variable{fs R5 ex ex':List Addr}{H H1 H2:Hp}{h h1 h2 h':Heap}{a x e:Addr}{o:HO}
theorem Un.any(u:Un fs ex H H1 h h1){b:Addr}{ob:Obj}(q:h.get? b=some ob)(n:H b=none)(hx:b∉ex):∃sl,h1.get? b=some {ob with slots:=sl}:=by
 by_cases hb:b∈fs
 ·exact u.slot b ob q n hb hx
 exact⟨ob.slots,u.keep b ob q n hb hx⟩
theorem Un.kept(k:∀b u,h.get? b=some u->h'.get? b=some u):Un fs ex H H h h':=
 ⟨fun b ob q _ _ _=>k b ob q,fun b ob q _ _ _=>⟨ob.slots,k b ob q⟩,fun _ _ _ n _=>n,fun b ob q _=>⟨ob,k b ob q⟩,fun _ _ q=>q,fun _ _ _ q=>q,fun _ ps q=>⟨#[],by rw[q];simp⟩⟩
theorem Un.refl:Un fs ex H H h h:=Un.kept fun _ _ q=>q
theorem Un.laid(k:∀b u,h.get? b=some u->h'.get? b=some u)(hp:h.objs.size<=a)(hn:H a=none):Un fs ex H (upd H a o) h h' where
 keep:=fun b u q _ _ _=>k b u q
 slot:=fun b u q _ _ _=>⟨u.slots,k b u q⟩
 free:=fun b u q n _=>by rw[aE (Nat.ne_of_lt (Nat.lt_of_lt_of_le (Heap.lt_size q) hp))];exact n
 there:=fun b u q _=>⟨u,k b u q⟩
 tups:=fun b xs q=>by rw[aE (a7 q hn)];exact q
 wO:=fun b u xs q=>by rw[aE (a7 q hn)];exact q
 xT:=fun b ps q=>⟨#[],by rw[aE (a7 q hn),q];simp⟩
theorem Un.write(mu:Wb (H x))(he:e=x∨H e=some (.own x))(k:∀b u,b≠e->h.get? b=some u->h'.get? b=some u)(R4:∃u,h'.get? e=some u):Un fs ex H (upd H x o) h h':=by
 have hx:∀b,H b=none->b≠x:=fun b n z=>by subst z;rw[n]at mu;exact mu
 have hb:∀b,H b=none->b≠e:=fun b n z=>by
  subst z;rcases he with r|r
  ·exact hx b n r
  rw[n]at r;cases r
 have hm:∀b u,H b=some u->¬Wb (some u)->b≠x:=fun b u q nm z=>by subst z;rw[q]at mu;exact nm mu
 refine⟨fun b u q n _ _=>k b u (hb b n) q,fun b u q n _ _=>⟨u.slots,k b u (hb b n) q⟩,fun b u q n _=>by rw[aE (hx b n)];exact n,fun b u q _=>?_,
  fun b xs q=>by rw[aE (hm b _ q fun z=>z)];exact q,fun b u xs q=>by rw[aE (hm b _ q fun z=>z)];exact q,fun b ps q=>⟨#[],by rw[aE (hm b _ q fun z=>z),q];simp⟩⟩
 by_cases Om:b=e
 ·subst Om;exact R4
 exact⟨u,k b u Om q⟩
end
def Wc(h:Heap)(H:Hp):List Addr:=(List.range h.objs.size).filter fun a=>(H a).isSome
def Cm(h:Heap)(H:Hp):Heap:=PySem.W.hideAll h (Wc h H)
theorem Oo(h:Heap)(H:Hp):(Cm h H).objs.size=h.objs.size:=PySem.W.hideAll_size _ _
theorem Ee{h:Heap}{H:Hp}{b:Addr}{o:Obj}(e:h.get? b=some o)(n:H b=none):(Cm h H).get? b=some o:=
 PySem.W.hideAll_get _ e fun hm=>by
  have q:(H b).isSome=true:=(List.mem_filter.mp hm).2;rw[n]at q;simp at q
theorem T8{h:Heap}{H:Hp}{b:Addr}{o:Obj}(e:(Cm h H).get? b=some o):h.get? b=some o/\H b=none:=by
 have e':h.get? b=some o:=PySem.W.of_hideAll (Wc h H) e;refine⟨e',?_⟩;cases q:H b with
 |none=>rfl
 |some x=>
  have hm:b∈Wc h H:=List.mem_filter.mpr ⟨List.mem_range.mpr (Heap.lt_size e'),by simp[q]⟩;have z:(Cm h H).get? b=none:=PySem.W.hideAll_none (Wc h H) hm;rw[z]at e;cases e
structure Mod(K:Frag)(mg:Str->Option Value)(ae:Heap):Prop where
 R6:K.In ae
 glob:ae.Ns mainGlobals mg
 blt:∃mb,ae.Ns builtinsNs mb/\∀x:Str,x≠"__name__"->mb x=bootBuiltins x
 nolimit:ae.NoLimit
structure Cx where
 prog:Program
 w:World
 K:Frag
 mg:Str->Option Value
 ae:Heap
 A:Around
 N:List Str
 tw:Shared
 R7:Hp
 env:Env
 bP:List Env
 stack:List Env
 ex:List Addr
 fn:Str->Bool
 calm:Bool
 pn:List (Addr×Obj)
 xe:Value->Shared->Prop
def Bl(l:List Env):List Addr:=l.filterMap (·.frame)
abbrev Cx.fs(X:Cx):List Addr:=Bl X.bP
def Oq(sc:Scope)(x:Str):Prop:=sc.names.lookup x=some .local∨sc.names.lookup x=some .cell∨sc.names.lookup x=some .free
def Loc(sc:Scope)(x:Str):Prop:=sc.names.lookup x=some .local∨sc.names.lookup x=some .cell
def Look(env:Env)(h:Heap)(m:Str->Option Value)(x:Str)(u:Value):Prop:=
 (env.kindOf x=some .local/\m x=some u)∨((env.kindOf x=some .cell∨env.kindOf x=some .free)/\∃c,env.cells.lookup x=some c/\h.IsCell c (some u))
structure Cx.Ok(X:Cx):Prop where
 mod:Mod X.K X.mg X.ae
 kind:X.env.scope.kind= .function
 glob:X.env.globals=mainGlobals
 blt:X.env.builtins=builtinsNs
 above:X.tw.heap.objs.size<=X.env.locals
 inj:∀x y c,X.env.cells.lookup x=some c->X.env.cells.lookup y=some c->x=y
 has:∀x,(X.env.kindOf x=some .cell∨X.env.kindOf x=some .free)->∃c,X.env.cells.lookup x=some c
 R8:∀x c,X.fn x=true->X.env.cells.lookup x=some c->X.tw.heap.objs.size<=c
 hd:X.calm=true->X.A.handled=none
 frames:X.A.frames=some X.stack
 Wd:X.stack=X.bP∨(X.stack=X.env::X.bP/\X.env.frame=some X.env.locals)
 We:∀b∈X.ex,b≠X.env.locals/\∀x c,X.env.cells.lookup x=some c->c≠b
 bs:∀b o,X.ae.get? b=some o->X.tw.heap.get? b=some o/\X.R7 b=none
 Gb:X.ae.objs.size<=X.tw.heap.objs.size
 Ml:∀b o,X.ae.get? b=some o->b∉X.ex
 Mm:∀b∈X.ex,b∉X.fs
 rD:X.tw.heap.FunFrames X.ae X.bP
 JE:∀b∈X.fs,X.R7 b=none
structure Inv(X:Cx)(au:List (Addr×Obj))(σ:List (Option V))(H:Hp)(s:Shared):Prop where
 ok:X.Ok
 os:s.os=X.tw.os
 bare:AllBare s.gens
 ae:Un X.fs X.ex X.R7 H X.tw.heap s.heap
 loc:∃m,s.heap.Ns X.env.locals m/\∀(i:Nat) (x:Str) (v:V),X.N[i]? =some x->σ[i]? =some (some v)->Oq X.env.scope x->∃u,RelV v u/\Look X.env s.heap m x u
 cell:∀x c,X.env.cells.lookup x=some c->∃v,s.heap.IsCell c v
 free:H X.env.locals=none
 oB:∀x c,X.env.cells.lookup x=some c->H c=none
 pin:∀p∈X.pn++au,s.heap.get? p.1=some p.2/\H p.1=none/\p.1≠X.env.locals/\p.1∉X.fs/\∀v,p.2.data≠ .cell v
 cJ:kU X.prog X.w H s.heap
 len:σ.length=X.N.length
section
variable{X:Cx}{au:List (Addr×Obj)}{σ:List (Option V)}{H H':Hp}{s:Shared}{h':Heap}
theorem Cx.Ok.aa3(ok:X.Ok){b:Addr}{o:Obj}(e:X.ae.get? b=some o):b∉X.fs:=fun hb=>by
 have:=(ok.rD.mem hb).1;rw[e]at this;cases this
theorem Inv.bs(I:Inv X au σ H s):∀b o,X.ae.get? b=some o->s.heap.get? b=some o/\H b=none:=fun b o e=>
 ⟨I.ae.keep b o (I.ok.bs b o e).1 (I.ok.bs b o e).2 (I.ok.aa3 e) (I.ok.Ml b o e),I.ae.free b o (I.ok.bs b o e).1 (I.ok.bs b o e).2 (I.ok.Ml b o e)⟩
theorem Inv.bk(I:Inv X au σ H s):∀b o,X.ae.get? b=some o->s.heap.get? b=some o:=fun b o e=>(I.bs b o e).1
theorem Inv.mod(I:Inv X au σ H s):Mod X.K X.mg X.ae:=I.ok.mod
theorem Inv.vW(I:Inv X au σ H s):X.K.In s.heap:=I.ok.mod.R6.keeps I.bk
theorem Inv.lt(I:Inv X au σ H s):X.env.locals<s.heap.objs.size:=let⟨_,hn,_⟩:=I.loc;hn.lt
theorem Inv.sz(I:Inv X au σ H s):X.tw.heap.objs.size<=s.heap.objs.size:=Nat.le_trans I.ok.above (Nat.le_of_lt I.lt)
theorem Inv.aa4(I:Inv X au σ H s){a:Addr}(h:s.heap.objs.size<=a):a∉X.fs:=fun hb=>by
 obtain⟨_,o,ho,_⟩:=I.ok.rD.mem hb;exact absurd (Nat.lt_of_lt_of_le (Heap.lt_size ho) (Nat.le_trans I.sz h)) (Nat.lt_irrefl _)
theorem Inv.Mn(I:Inv X au σ H s):∀x c,X.env.cells.lookup x=some c->c≠X.env.locals:=fun x c e z=>by
 obtain⟨v,o,ho,hd⟩:=I.cell x c e;obtain⟨m,⟨o',es,ep,Ad,Y8,_⟩,_⟩:=I.loc;rw[z,Ad]at ho;cases ho;rw[Y8]at hd;cases hd
theorem Inv.rD(I:Inv X au σ H s):s.heap.FunFrames X.ae X.bP:=by
 have all:∀(l:List Env),(∀b∈Bl l,b∈X.fs)->X.tw.heap.FunFrames X.ae l->s.heap.FunFrames X.ae l:=by
  intro l
  induction l with
  |nil=>intro _ _;trivial
  |cons env r ih=>
   intro hs hl;obtain⟨hk,⟨L,o,hf,hn,ho,hd⟩,hr⟩:=hl;have hL:L∈X.fs:=hs L (by unfold Bl;rw[List.filterMap_cons,hf];exact List.mem_cons_self);obtain⟨sl,e⟩:=I.ae.slot L o ho (I.ok.JE L hL) hL fun z=>I.ok.Mm L z hL;exact⟨hk,⟨L,_,hf,hn,e,hd⟩,ih (fun b hb=>hs b (by unfold Bl;rw[List.filterMap_cons,hf];exact List.mem_cons_of_mem _ hb)) hr⟩
 exact all X.bP (fun _ hb=>hb) I.ok.rD
theorem Inv.stack(I:Inv X au σ H s):s.heap.FunFrames X.ae X.stack:=by
 rcases I.ok.Wd with e|⟨e,hf⟩
 ·rw[e];exact I.rD
 rw[e];obtain⟨m,hn,_⟩:=I.loc;refine .cons (by rw[I.ok.kind];decide) hf hn ?_ I.rD;exact Heap.get?_none_of_le (Nat.le_trans I.ok.Gb I.ok.above)
theorem Inv.G2(I:Inv X au σ H s):∀b∈Bl X.stack,b∈X.env.locals::X.fs:=fun b hb=>by
 rcases I.ok.Wd with e|⟨e,hf⟩
 ·rw[e]at hb;exact List.mem_cons_of_mem _ hb
 rw[e]at hb;unfold Bl at hb;rw[List.filterMap_cons,hf]at hb;exact hb
theorem Inv.Mo(I:Inv X au σ H s):∀b∈Bl X.stack,H b=none:=fun b hb=>by
 rcases List.mem_cons.mp (I.G2 b hb)with e|hb
 ·rw[e];exact I.free
 obtain⟨_,o,ho,_⟩:=I.ok.rD.mem hb;exact I.ae.free b o ho (I.ok.JE b hb) fun z=>I.ok.Mm b z hb
theorem Inv.step{g':Array GenState}{t':Nat}{d':Drawn}{ch:List Addr}(I:Inv X au σ H s)
  (JF:∀b∈ch,(b∈X.ex∨X.tw.heap.objs.size<=b)/\b≠X.env.locals/\(∀x c,X.env.cells.lookup x=some c->c≠b)/\∀p∈X.pn++au,p.1≠b)
  (keep:∀b o,b≠X.env.locals->b∉X.fs->b∉ch->s.heap.get? b=some o->H b=none->h'.get? b=some o)
  (slot:∀b o,b≠X.env.locals->b∈X.fs->b∉ch->s.heap.get? b=some o->H b=none->∃sl,h'.get? b=some {o with slots:=sl})(free:∀b o,b∉ch->s.heap.get? b=some o->H b=none->H' b=none)
  (there:∀b o,b∉ch->s.heap.get? b=some o->∃o',h'.get? b=some o')
  (tups:∀b xs,H b=some (.tup xs)->H' b=some (.tup xs))(wO:∀b o u,H b=some (.mR o u)->H' b=some (.mR o u))(xT:∀b ps,H b=some (.oA ps)->∃more,H' b=some (.oA (ps++more)))
  (ns:∀m,s.heap.Ns X.env.locals m->h'.Ns X.env.locals m)(cJ:kU X.prog X.w H' h')(hg:AllBare g'):
  Inv X au σ H' {s with heap:=h',gens:=g',drawn:=d',toks:=t'}:=by
 have neL:∀b o,X.tw.heap.get? b=some o->b≠X.env.locals:=fun b o e=>Nat.ne_of_lt (Nat.lt_of_lt_of_le (Heap.lt_size e) I.ok.above);have Wf:∀b o,X.tw.heap.get? b=some o->b∉X.ex->b∉ch:=fun b o e hx hb=>by
  rcases(JF b hb).1 with z|z
  ·exact hx z
  exact absurd (Nat.lt_of_lt_of_le (Heap.lt_size e) z) (Nat.lt_irrefl _)
 have cellK:∀x c,X.env.cells.lookup x=some c->∀v,s.heap.IsCell c v->h'.IsCell c v:=fun x c e v ⟨o,ho,hd⟩=>by
  have T9:c∉ch:=fun z=>(JF c z).2.2.1 x c e rfl;by_cases hc:c∈X.fs
  ·obtain⟨sl,q⟩:=slot c o (I.Mn x c e) hc T9 ho (I.oB x c e);exact⟨_,q,hd⟩
  exact⟨o,keep c o (I.Mn x c e) hc T9 ho (I.oB x c e),hd⟩
 refine⟨I.ok,I.os,hg,⟨fun b o e n hb hx=>?_,fun b o e n hb hx=>?_,fun b o e n hx=>?_,fun b o e hx=>?_,fun b xs e=>tups b xs (I.ae.tups b xs e),fun b o xs e=>wO b o xs (I.ae.wO b o xs e),fun b ps e=>?_⟩,?_,fun x c e=>?_,?_,fun x c e=>?_,fun p hp=>?_,cJ,I.len⟩
 ·exact keep b o (neL b o e) hb (Wf b o e hx) (I.ae.keep b o e n hb hx) (I.ae.free b o e n hx)
 ·obtain⟨sl,e1⟩:=I.ae.slot b o e n hb hx;obtain⟨sl',e2⟩:=slot b _ (neL b o e) hb (Wf b o e hx) e1 (I.ae.free b o e n hx);exact⟨sl',e2⟩
 ·obtain⟨o',e1⟩:=I.ae.there b o e hx;exact free b o' (Wf b o e hx) e1 (I.ae.free b o e n hx)
 ·obtain⟨o',e1⟩:=I.ae.there b o e hx;exact there b o' (Wf b o e hx) e1
 ·obtain⟨m1,e1⟩:=I.ae.xT b ps e;obtain⟨m2,e2⟩:=xT b _ e1;exact⟨m1++m2,by rw[e2,Array.append_assoc]⟩
 ·obtain⟨m,hn,hl⟩:=I.loc;refine⟨m,ns m hn,fun i x v e1 e2 e3=>?_⟩;obtain⟨u,r,l⟩:=hl i x v e1 e2 e3;refine⟨u,r,?_⟩;rcases l with l|⟨k,c,e,z⟩
  ·exact .inl l
  exact .inr ⟨k,c,e,cellK x c e _ z⟩
 ·obtain⟨v,z⟩:=I.cell x c e;exact⟨v,cellK x c e v z⟩
 ·obtain⟨m,⟨o,_,_,ho,_⟩,_⟩:=I.loc;exact free _ o (fun z=>(JF _ z).2.1 rfl) ho I.free
 ·obtain⟨v,o,ho,hd⟩:=I.cell x c e;exact free c o (fun z=>(JF c z).2.2.1 x c e rfl) ho (I.oB x c e)
 obtain⟨e,n,ne,nf,d⟩:=I.pin p hp;have T9:p.1∉ch:=fun z=>(JF p.1 z).2.2.2 p hp rfl;exact⟨keep p.1 p.2 ne nf T9 e n,free p.1 p.2 T9 e n,ne,nf,d⟩
theorem Inv.un{t':Nat}(I:Inv X au σ H s)(u:Un X.fs [] H H' s.heap h')(cJ:kU X.prog X.w H' h'):Inv X au σ H' {s with heap:=h',toks:=t'}:=by
 obtain⟨m,⟨o,es,ep,ho,r⟩,_⟩:=id I.loc;obtain⟨sl,hL⟩:=u.any ho I.free (by simp);exact I.step (g':=s.gens) (d':=s.drawn) (ch:=[]) (fun _ z=>nomatch z) (fun b o _ hb _ e n=>u.keep b o e n hb (by simp)) (fun b o _ hb _ e n=>u.slot b o e n hb (by simp)) (fun b o _ e n=>u.free b o e n (by simp)) (fun b o _ e=>u.there b o e (by simp)) u.tups u.wO u.xT (fun m' hm=>by
  obtain⟨o',Y9,Za,Ad,r'⟩:=hm;rw[ho]at Ad;cases Ad;exact⟨_,Y9,Za,hL,r'⟩) cJ I.bare
theorem Inv.call{g':Array GenState}{t':Nat}{d':Drawn}{ch:List Addr}(I:Inv X au σ H s)(u:Un (Bl X.stack) ch H H' s.heap h')(cJ:kU X.prog X.w H' h')(hg:AllBare g')
  (JF:∀b∈ch,(b∈X.ex∨X.tw.heap.objs.size<=b)/\b≠X.env.locals/\(∀x c,X.env.cells.lookup x=some c->c≠b)/\∀p∈X.pn++au,p.1≠b):
  Inv X au σ H' {s with heap:=h',gens:=g',drawn:=d',toks:=t'}:=by
 obtain⟨m,⟨o,es,ep,ho,r⟩,_⟩:=id I.loc;obtain⟨sl,hL⟩:=u.any ho I.free fun z=>(JF _ z).2.1 rfl;exact I.step (ch:=ch) JF (fun b o hL hb hc e n=>u.keep b o e n (fun z=>(List.mem_cons.mp (I.G2 b z)).elim hL hb) hc) (fun b o _ _ hc e n=>u.any e n hc) (fun b o hc e n=>u.free b o e n hc) (fun b o hc e=>u.there b o e hc) u.tups u.wO u.xT (fun m' hm=>by
  obtain⟨o',Y9,Za,Ad,r'⟩:=hm;rw[ho]at Ad;cases Ad;exact⟨_,Y9,Za,hL,r'⟩) cJ hg
theorem Inv.turned{t':Nat}{it:Addr}(I:Inv X au σ H s)(k:∀b o,b≠it->s.heap.get? b=some o->h'.get? b=some o)(hn:H it=none)(hL:it≠X.env.locals)
  (h1:it∈X.ex∨X.tw.heap.objs.size<=it)(h2:∀x c,X.env.cells.lookup x=some c->c≠it)(h3:∀p∈X.pn++au,p.1≠it):Inv X au σ H {s with heap:=h',toks:=t'}:=by
 have Mp:∀b u,H b=some u->b≠it:=fun b u e z=>by rw[z,hn]at e;cases e
 refine I.step (g':=s.gens) (d':=s.drawn) (ch:=[it]) (fun b hb=>?_) (fun b o _ _ hc e _=>k b o (fun z=>hc (by simp[z])) e) (fun b o _ _ hc e _=>⟨o.slots,k b o (fun z=>hc (by simp[z])) e⟩) (fun _ _ _ _ n=>n)
  (fun b o hc e=>⟨o,k b o (fun z=>hc (by simp[z])) e⟩) (fun _ _ e=>e) (fun _ _ _ e=>e) (fun b ps e=>⟨#[],by rw[e];simp⟩) (fun m hm=>?_) (fun b u e=>?_) I.bare
 ·have e:b=it:=by simpa using hb
  subst e;exact⟨h1,hL,h2,h3⟩
 ·obtain⟨o,es,ep,ho,r⟩:=hm;exact⟨o,es,ep,k _ o (Ne.symm hL) ho,r⟩
 refine(I.cJ b u e).xS (fun c v hc q=>k c v ?_ q) (fun _ q=>q) fun _ _ q=>q;rcases hc with z|z
 ·rw[z];exact Mp b u e
 exact Mp c _ z
theorem Inv.tok(I:Inv X au σ H s)(t:Nat):Inv X au σ H {s with toks:=t}:=I.un (h':=s.heap) (t':=t) Un.refl I.cJ
theorem Inv.kept{t':Nat}(I:Inv X au σ H s)(k:∀b u,s.heap.get? b=some u->h'.get? b=some u):Inv X au σ H {s with heap:=h',toks:=t'}:=I.un (Un.kept k) (I.cJ.kept k)
theorem Inv.laid{a:Addr}{o:HO}{t':Nat}(I:Inv X au σ H s)(k:∀b u,s.heap.get? b=some u->h'.get? b=some u)(hp:s.heap.objs.size<=a)(new:gv X.prog X.w (upd H a o) h' a o):
  Inv X au σ (upd H a o) {s with heap:=h',toks:=t'}:=I.un (Un.laid k hp (I.cJ.fresh hp)) (I.cJ.laid k hp new)
theorem Inv.write{x e:Addr}{o:HO}{t':Nat}(I:Inv X au σ H s)(mu:Wb (H x))(he:e=x∨H e=some (.own x))(k:∀b u,b≠e->s.heap.get? b=some u->h'.get? b=some u)(R4:∃u,h'.get? e=some u)
  (new:gv X.prog X.w (upd H x o) h' x o):Inv X au σ (upd H x o) {s with heap:=h',toks:=t'}:=I.un (Un.write mu he k R4) (I.cJ.write mu he k R4 new)
theorem Inv.weak{σ':List (Option V)}(I:Inv X au σ H s)(hl:σ'.length=σ.length)(w:∀(i:Nat) v,σ'[i]? =some (some v)->σ[i]? =some (some v)):Inv X au σ' H s:=
 ⟨I.ok,I.os,I.bare,I.ae,let⟨m,hn,hl'⟩:=I.loc;⟨m,hn,fun i x v e1 e2 e3=>hl' i x v e1 (w i v e2) e3⟩,I.cell,I.free,I.oB,I.pin,I.cJ,hl.trans I.len⟩
theorem Inv.Mq{Ua:List (Addr×Obj)}(I:Inv X au σ H s)(h:∀p∈Ua,s.heap.get? p.1=some p.2/\H p.1=none/\p.1≠X.env.locals/\p.1∉X.fs/\∀v,p.2.data≠ .cell v):Inv X Ua σ H s:=
 ⟨I.ok,I.os,I.bare,I.ae,I.loc,I.cell,I.free,I.oB,fun p hp=>(List.mem_append.mp hp).elim (fun z=>I.pin p (List.mem_append_left _ z)) (h p),I.cJ,I.len⟩
theorem Ef{N:List Str}(hN:N.Nodup){i j:Nat}{x:Str}(a:N[i]? =some x)(b:N[j]? =some x):i=j:=by
 obtain⟨h1,e1⟩:=List.getElem?_eq_some_iff.mp a;obtain⟨h2,e2⟩:=List.getElem?_eq_some_iff.mp b;exact(List.getElem_inj hN).mp (e1.trans e2.symm)
theorem Hl{M:Model}{A:Around}{E:Value->Shared->Prop}{i:Nat}{x:Str}{v:V}{u:Value}{Q:Unit->Shared->Prop}(I:Inv X au σ H s)(hN:X.N.Nodup)(hi:X.N[i]? =some x)(hx:Loc X.env.scope x)(r:RelV v u)
  (h:∀s',Inv X au (σ.set i (some v)) H s'->(∃a,Heap.SameBut a s.heap s'.heap/\(a=X.env.locals∨X.env.cells.lookup x=some a))->Q () s')(hf:X.fn x=true∨X.env.scope.names.lookup x=some .local:=by first|exact .inl rfl|exact .inr rfl|assumption):wpAny M A (storeName X.env x u) Q E s:=by
 obtain⟨m,hn,hl⟩:=id I.loc;have aa5:(X.env.scope.kind== .class||(X.env.scope.kind== .module&&X.env.locals != X.env.globals))=false:=by rw[I.ok.kind];rfl
 have aa6:i<σ.length:=by rw[I.len];exact(List.getElem?_eq_some_iff.mp hi).1
 have Mn:=I.Mn;have tracked:∀{a:Addr} {h':Heap},(∃o,s.heap.get? a=some o/\H a=none)->Heap.SameBut a s.heap h'->kU X.prog X.w H h':=fun{a h'} ha hs b ob e=>by
  obtain⟨_,_,Eg⟩:=ha;refine(I.cJ b ob e).xS (fun c w' hc q=>(hs.2 c ?_).trans q) (fun _ q=>q) fun _ _ q=>q;rintro rfl;rcases hc with rfl|hc
  ·rw[Eg]at e;cases e
  rw[Eg]at hc;cases hc
 rcases hx with hk|hk
 ·refine wpAny_storeName_local hk hn (fun h' hn' hs=>?_) aa5;obtain⟨oL,_,_,hoL,_⟩:=id hn;refine h _ ⟨I.ok,I.os,I.bare,⟨fun b o e n hb hx=>?_,fun b o e n hb hx=>?_,I.ae.free,fun b o e hx=>?_,I.ae.tups,I.ae.wO,I.ae.xT⟩,⟨_,hn',fun j y v' e1 e2 e3=>?_⟩,fun y c e=>?_,I.free,I.oB,fun p hp=>?_,tracked ⟨oL,hoL,I.free⟩ hs,by simpa using I.len⟩ ⟨_,hs,.inl rfl⟩
  ·exact(hs.2 b (Nat.ne_of_lt (Nat.lt_of_lt_of_le (Heap.lt_size e) I.ok.above))).trans (I.ae.keep b o e n hb hx)
  ·obtain⟨sl,e1⟩:=I.ae.slot b o e n hb hx;exact⟨sl,(hs.2 b (Nat.ne_of_lt (Nat.lt_of_lt_of_le (Heap.lt_size e) I.ok.above))).trans e1⟩
  ·obtain⟨o',e1⟩:=I.ae.there b o e hx;exact⟨o',(hs.2 b (Nat.ne_of_lt (Nat.lt_of_lt_of_le (Heap.lt_size e) I.ok.above))).trans e1⟩
  ·by_cases hj:j=i
   ·subst hj;rw[hi]at e1;cases e1;rw[List.getElem?_set_self aa6]at e2;cases e2;exact⟨u,r,.inl ⟨hk,by simp⟩⟩
   rw[List.getElem?_set_ne (Ne.symm hj)]at e2;obtain⟨u',r',q⟩:=hl j y v' e1 e2 e3;refine⟨u',r',?_⟩;rcases q with⟨k,e⟩|⟨k,c,e,z⟩
   ·refine .inl ⟨k,?_⟩;have:y≠x:=fun e=>hj (Ef hN e1 (e▸hi));simp[this,e]
   exact .inr ⟨k,c,e,z.sameBut hs (Mn y c e)⟩
  ·obtain⟨w',z⟩:=I.cell y c e;exact⟨w',z.sameBut hs (Mn y c e)⟩
  obtain⟨e,n,ne,nf,d⟩:=I.pin p hp;exact⟨(hs.2 p.1 ne).trans e,n,ne,nf,d⟩
 have Ot:X.fn x=true:=by
  rcases hf with z|z
  ·exact z
  rw[z]at hk;cases hk
 obtain⟨c,hc⟩:=I.ok.has x (.inl hk);obtain⟨w',z⟩:=I.cell x c hc;refine wpAny_storeName_cell I.ok.kind hk hc z (fun h' Uc hs=>?_);obtain⟨oc,hoc,aa7⟩:=id z;refine h {s with heap:=h'} ⟨I.ok,I.os,I.bare,⟨fun b o e n hb hx=>?_,fun b o e n hb hx=>?_,I.ae.free,fun b o e hx=>?_,I.ae.tups,I.ae.wO,I.ae.xT⟩,⟨m,hn.sameBut hs (Ne.symm (Mn x c hc)),fun j y v' e1 e2 e3=>?_⟩,fun y c' e=>?_,I.free,I.oB,fun p hp=>?_,tracked ⟨oc,hoc,I.oB x c hc⟩ hs,by simpa using I.len⟩ ⟨c,hs,.inr hc⟩
 ·exact(hs.2 b (Nat.ne_of_lt (Nat.lt_of_lt_of_le (Heap.lt_size e) (I.ok.R8 x c Ot hc)))).trans (I.ae.keep b o e n hb hx)
 ·obtain⟨sl,e1⟩:=I.ae.slot b o e n hb hx;exact⟨sl,(hs.2 b (Nat.ne_of_lt (Nat.lt_of_lt_of_le (Heap.lt_size e) (I.ok.R8 x c Ot hc)))).trans e1⟩
 ·obtain⟨o',e1⟩:=I.ae.there b o e hx;exact⟨o',(hs.2 b (Nat.ne_of_lt (Nat.lt_of_lt_of_le (Heap.lt_size e) (I.ok.R8 x c Ot hc)))).trans e1⟩
 ·by_cases hj:j=i
  ·subst hj;rw[hi]at e1;cases e1;rw[List.getElem?_set_self aa6]at e2;cases e2;exact⟨u,r,.inr ⟨.inl hk,c,hc,Uc⟩⟩
  rw[List.getElem?_set_ne (Ne.symm hj)]at e2;obtain⟨u',r',q⟩:=hl j y v' e1 e2 e3;refine⟨u',r',?_⟩;rcases q with q|⟨k,c',e,z'⟩
  ·exact .inl q
  refine .inr ⟨k,c',e,z'.sameBut hs ?_⟩;rintro rfl;exact hj (Ef hN e1 (I.ok.inj _ _ _ e hc▸hi))
 ·by_cases Ud:c'=c
  ·subst Ud;exact⟨_,Uc⟩
  obtain⟨w2,z2⟩:=I.cell y c' e;exact⟨w2,z2.sameBut hs Ud⟩
 obtain⟨e,n,ne,nf,d⟩:=I.pin p hp;refine⟨(hs.2 p.1 ?_).trans e,n,ne,nf,d⟩;intro q;rw[q,hoc]at e;have q':oc=p.2:=Option.some.inj e;exact d w' (by rw[<- q'];exact aa7)
theorem Eh{M:Model}{A:Around}{E:Value->Shared->Prop}{i:Nat}{x:Str}{v:V}{u:Value}{Q:Unit->Shared->Prop}(I:Inv X au σ H s)(hN:X.N.Nodup)(hi:X.N[i]? =some x)(hx:Loc X.env.scope x)(r:RelV v u)
  (h:∀s',Inv X au (σ.set i (some v)) H s'->Q () s')(hf:X.fn x=true∨X.env.scope.names.lookup x=some .local:=by first|exact .inl rfl|exact .inr rfl|assumption):wpAny M A (storeName X.env x u) Q E s:=
 Hl I hN hi hx r (fun s' I' _=>h s' I') hf
theorem Inv.Ue{s':Shared}{ch:List Addr}(I:Inv X au σ H s)(ho:s'.os=s.os)(u:Un (Bl X.stack) ch H H' s.heap s'.heap)(cJ:kU X.prog X.w H' s'.heap)(hg:AllBare s'.gens)
  (JF:∀b∈ch,(b∈X.ex∨X.tw.heap.objs.size<=b)/\b≠X.env.locals/\(∀x c,X.env.cells.lookup x=some c->c≠b)/\∀p∈X.pn++au,p.1≠b):Inv X au σ H' s':=by
 obtain⟨h',g',d',t',o'⟩:=s';have e:o'=s.os:=ho;subst e;exact I.call (g':=g') (t':=t') (d':=d') u cJ hg JF
end
abbrev XK:=Value->Option Addr->Hp->Prop
abbrev St:=List (Option V)
abbrev VK:=V->Hp->Prop
abbrev TE:=St->Hp->VK->Prop
abbrev TT:=St->Hp->(Bool->Hp->Prop)->Prop
abbrev TA:=St->Hp->(List V->Hp->Prop)->Prop
structure Ends where
 nx:St->Hp->Prop
 rt:VK
 bk:St->Hp->Prop:=fun _ _=>False
 ct:St->Hp->Prop:=fun _ _=>False
abbrev TS:=Ends->St->Hp->Prop
def EP(X:Cx)(au:List (Addr×Obj))(σ:St)(Q:VK)(u:Value)(s':Shared):Prop:=∃v H',Inv X au σ H' s'/\RelV v u/\Q v H'
def TP(X:Cx)(au:List (Addr×Obj))(σ:St)(Q:Bool->Hp->Prop)(b:Bool)(s':Shared):Prop:=∃H',Inv X au σ H' s'/\Q b H'
def AP(X:Cx)(au:List (Addr×Obj))(σ:St)(Q:List V->Hp->Prop)(us:List Value)(s':Shared):Prop:=∃vs H',Inv X au σ H' s'/\Vals vs us/\Q vs H'
def SP(X:Cx)(au:List (Addr×Obj))(D:Ends)(f:Flow)(s':Shared):Prop:=
 match f with
 | .next=>∃σ' H',Inv X au σ' H' s'/\D.nx σ' H'
 | .brk=>∃σ' H',Inv X au σ' H' s'/\D.bk σ' H'
 | .cont=>∃σ' H',Inv X au σ' H' s'/\D.ct σ' H'
 | .ret u=>∃v σ' H',Inv X au σ' H' s'/\RelV v u/\D.rt v H'
def PE(X:Cx)(e:Expr)(t:TE):Prop:=
 ∀(au:List (Addr×Obj)) (s:Shared) (σ:St) (H:Hp) (Q:VK),Inv X au σ H s->t σ H Q->wpAny (model X.prog X.w) X.A (eval e X.env) (EP X au σ Q) X.xe s
def PT(X:Cx)(e:Expr)(t:TT):Prop:=
 ∀(au:List (Addr×Obj)) (s:Shared) (σ:St) (H:Hp) (Q:Bool->Hp->Prop),Inv X au σ H s->t σ H Q->wpAny (model X.prog X.w) X.A (isTrue e X.env (eval e X.env)) (TP X au σ Q) X.xe s
def PW(X:Cx)(e:Expr)(t:TT):Prop:=
 ∀(whole:Sem Value) (au:List (Addr×Obj)) (s:Shared) (σ:St) (H:Hp) (Q:Bool->Hp->Prop),Inv X au σ H s->t σ H Q->wpAny (model X.prog X.w) X.A (isTrue e X.env whole) (TP X au σ Q) X.xe s
theorem PW.pt{X:Cx}{e:Expr}{t:TT}(h:PW X e t):PT X e t:=h _
def PA(X:Cx)(es:List Expr)(t:TA):Prop:=
 ∀(pos:Pos) (au:List (Addr×Obj)) (s:Shared) (σ:St) (H:Hp) (Q:List V->Hp->Prop),Inv X au σ H s->t σ H Q->wpAny (model X.prog X.w) X.A (spliced (backTo pos (starEach es X.env))) (AP X au σ Q) X.xe s
def PS(X:Cx)(st:Stmt)(t:TS):Prop:=
 ∀(au:List (Addr×Obj)) (s:Shared) (σ:St) (H:Hp) (D:Ends),Inv X au σ H s->t D σ H->wpAny (model X.prog X.w) X.A (exec st X.env) (SP X au D) X.xe s
def Bm(X:Cx)(st:List Stmt)(t:TS):Prop:=
 ∀(au:List (Addr×Obj)) (s:Shared) (σ:St) (H:Hp) (D:Ends),Inv X au σ H s->t D σ H->wpAny (model X.prog X.w) X.A (execs st X.env) (SP X au D) X.xe s
theorem c8{α:Type}{t:Sem α}{Q Q':α->Shared->Prop}{M:Model}{A:Around}{E:Value->Shared->Prop}{s:Shared}(h:wpAny M A t Q E s)(hQ:∀a s,Q a s->Q' a s):wpAny M A t Q' E s:=wpAny_mono h hQ fun _ _ x=>x
section
variable{X:Cx}
def bQ(i:Nat):TE:=fun σ H Q=>∃v,σ[i]? =some (some v)/\Q v H
def tC(v:V):TE:=fun _ H Q=>Q v H
theorem Rl{i:Nat}{x:Str}{pos:Pos}(hN:X.N[i]? =some x)(hv:Oq X.env.scope x)(hd:(x==("__debug__":Str))=false:=by decide)(pU:(x==("__classdict__":Str))=false:=by decide):PE X (.Name x pos) (bQ i):=by
 intro au s σ H Q I h;obtain⟨v,e,h⟩:=h;obtain⟨m,hn,hl⟩:=I.loc;obtain⟨u,r,l⟩:=hl i x v hN e hv;have fin:EP X au σ Q u s:=⟨v,H,I,r,h⟩;rcases l with⟨hk,hm⟩|⟨hk,c,hc,pV⟩
 ·exact wpAny_Name (wpAny_loadName_local I.ok.kind hk hn hm fin) hd
 rcases hk with hk|hk
 ·exact wpAny_Name (wpAny_loadName_cell I.ok.kind hk hc pV fin) hd
 exact wpAny_Name (wpAny_loadName_free I.ok.kind hk hc pV fin pU) hd
theorem ai{i j pos}:PE X (.Constant (.int i) j pos) (tC (.int i)):=fun _ _ _ H _ I h=>wpAny_Constant_int ⟨.int i,H,I.tok _,⟨_,rfl⟩,h⟩
theorem Ug{b j pos}:PE X (.Constant (.bool b) j pos) (tC (.bl b)):=fun _ _ _ H _ I h=>Constant_bool ⟨.bl b,H,I,rfl,h⟩
theorem ck{j pos}:PE X (.Constant .none j pos) (tC .e7):=fun _ _ _ H _ I h=>Constant_none ⟨.e7,H,I,rfl,h⟩
def Gl(X:Cx)(x:Str):Prop:=X.env.kindOf x=some .globalImplicit
theorem Cn{E:Value->Shared->Prop}{au:List (Addr×Obj)}{s:Shared}{σ:St}{H:Hp}{x:Str}{u:Value}{pos:Pos}{Q:Value->Shared->Prop}(I:Inv X au σ H s)(hg:Gl X x)(hm:X.mg x=some u)(h:Q u s)
  (hd:(x==("__debug__":Str))=false:=by decide):wpAny (model X.prog X.w) X.A (eval (.Name x pos) X.env) Q E s:=
 Calls.Name_function_global I.ok.kind hg (Calls.loadGlobal_global (by rw[I.ok.glob];exact I.mod.glob.keeps I.bk) hm h) hd
theorem zJ{E:Value->Shared->Prop}{au:List (Addr×Obj)}{s:Shared}{σ:St}{H:Hp}{x:Str}{u:Value}{pos:Pos}{Q:Value->Shared->Prop}(I:Inv X au σ H s)(hg:Gl X x)(hm:X.mg x=none)(hv:bootBuiltins x=some u)(h:Q u s)
  (hn:x≠"__name__":=by decide)(hd:(x==("__debug__":Str))=false:=by decide):wpAny (model X.prog X.w) X.A (eval (.Name x pos) X.env) Q E s:=by
 obtain⟨mb,h1,h2⟩:=I.mod.blt;exact Calls.Name_function_global I.ok.kind hg (Calls.loadGlobal_builtin (by rw[I.ok.glob];exact I.mod.glob.keeps I.bk) hm (by rw[I.ok.blt];exact h1.keeps I.bk) ((h2 x hn).trans hv) h) hd
theorem Mr{x:Str}{v:V}{u:Value}{pos:Pos}(hg:Gl X x)(hm:X.mg x=some u)(r:RelV v u)(hd:(x==("__debug__":Str))=false:=by decide):PE X (.Name x pos) (tC v):=
 fun _ _ _ H _ I h=>Cn I hg hm ⟨v,H,I,r,h⟩ hd
variable{a b:Expr}{ta tb:TE}{pos:Pos}
def PC(X:Cx)(op:CmpOp)(a b:Expr)(t:TE):Prop:=
 ∀(au:List (Addr×Obj)) (s:Shared) (σ:St) (H:Hp) (Q:VK),Inv X au σ H s->t σ H Q->
  wpAny (model X.prog X.w) X.A (eval a X.env) (fun v s₁=>wpAny (model X.prog X.w) X.A (eval b X.env) (fun u s₂=>wpAny (model X.prog X.w) X.A (compareOp op v u) (EP X au σ Q) X.xe s₂) X.xe s₁) X.xe s
def tB(t:TE):TT:=fun σ H Q=>t σ H fun x H1=>∃c,x= .bl c/\Q c H1
theorem vX{op:CmpOp}{t:TE}(h:PC X op a b t)(h1:behindInMarks op b=false:=by first|exact aa0 _ (by decide) (by decide)|rfl):PT X (.Compare a [op] [b] pos) (tB t):=by
 intro au s σ H Q I hw;refine wpAny_isTrue_Compare1 (c8 (h au s σ H _ I hw) fun v s1 h1=>c8 h1 fun u s2 h2=>c8 h2 fun c s3 ⟨x,H1,I1,r1,q1⟩=>?_) h1;obtain⟨d,rfl,q⟩:=q1;cases r1;exact wpAny_truthy_bool ⟨H1,I1,q⟩
theorem eU{e:Expr}{t:TE}(h:PE X e t)(he:∀whole,isTrue e X.env whole=(do let v <- whole;standAt e.pos;holding [v] (truthy v)):=by intro _;rfl):PT X e (tB t):=by
 intro au s σ H Q I hw;refine isTrue_plain (c8 (h au s σ H _ I hw) fun v s1 ⟨x,H1,I1,r1,q1⟩=>?_) (he _);obtain⟨d,rfl,q⟩:=q1;cases r1;exact wpAny_truthy_bool ⟨H1,I1,q⟩
variable{tA Wg:TT}{rest:List Expr}
def bR(t u:TT):TT:=fun σ H Q=>t σ H fun c H1=>if c=true then u σ H1 Q else Q false H1
def di(t u:TT):TT:=fun σ H Q=>t σ H fun c H1=>if c=true then Q true H1 else u σ H1 Q
def bS(t:TT):TT:=fun σ H Q=>t σ H fun c H1=>Q (!c) H1
theorem Hm(ha:PT X a tA):PW X (.BoolOp .And [a] pos) tA:=by
 intro wh au s σ H Q I h;refine isTrue_and (c8 (ha au s σ H Q I h) fun c s1 e=>?_);cases c with
 |true=>exact isTrue_and_nil e
 |false=>exact e
theorem mS(ha:PT X a tA):PW X (.BoolOp .Or [a] pos) tA:=by
 intro wh au s σ H Q I h;refine isTrue_or (c8 (ha au s σ H Q I h) fun c s1 e=>?_);cases c with
 |false=>exact isTrue_or_nil e
 |true=>exact e
theorem La(ha:PT X a tA)(hb:PW X (.BoolOp .And (b::rest) pos) Wg):PW X (.BoolOp .And (a::b::rest) pos) (bR tA Wg):=by
 intro wh au s σ H Q I h;refine isTrue_and (c8 (ha au s σ H _ I h) fun c s1 ⟨H1,I1,q1⟩=>?_);cases c with
 |true=>exact hb wh au s1 σ H1 Q I1 q1
 |false=>exact⟨H1,I1,q1⟩
theorem pW(ha:PT X a tA)(hb:PW X (.BoolOp .Or (b::rest) pos) Wg):PW X (.BoolOp .Or (a::b::rest) pos) (di tA Wg):=by
 intro wh au s σ H Q I h;refine isTrue_or (c8 (ha au s σ H _ I h) fun c s1 ⟨H1,I1,q1⟩=>?_);cases c with
 |true=>exact⟨H1,I1,q1⟩
 |false=>exact hb wh au s1 σ H1 Q I1 q1
theorem fN(ha:PT X a tA):PT X (.UnaryOp .Not a pos) (bS tA):=by
 intro au s σ H Q I h;exact isTrue_not (ha au s σ H (fun c H1=>Q (!c) H1) I h)
def bu(ta tb:TE):TE:=fun σ H Q=>ta σ H fun x H1=>∃c,x= .bl c/\if c=true then tb σ H1 Q else Q (.bl false) H1
theorem Rm{op}{t:TE}(h:PE X a t):PE X (.BoolOp op [a] pos) t:=fun au s σ H Q I hw=>BoolOp_one (h au s σ H Q I hw)
theorem Ro(ha:PE X a ta)(hb:PE X (.BoolOp .And (b::rest) pos) tb):PE X (.BoolOp .And (a::b::rest) pos) (bu ta tb):=by
 intro au s σ H Q I h;refine BoolOp_and (c8 (ha au s σ H _ I h) fun v s1 ⟨x,H1,I1,r1,q1⟩=>?_);obtain⟨c,rfl,q1⟩:=q1;cases r1;refine wpAny_truthy_bool ?_;cases c with
 |true=>exact hb au s1 σ H1 Q I1 q1
 |false=>exact⟨.bl false,H1,I1,rfl,q1⟩
def dj(t:TT)(ta tb:TE):TE:=fun σ H Q=>t σ H fun c H1=>if c=true then ta σ H1 Q else tb σ H1 Q
theorem Ei{c:Expr}(hc:PT X c tA)(ha:PE X a ta)(hb:PE X b tb):PE X (.IfExp c a b pos) (dj tA ta tb):=by
 intro au s σ H Q I h;refine wpAny_IfExp (c8 (hc au s σ H _ I h) fun d s1 ⟨H1,I1,q1⟩=>?_);cases d with
 |true=>exact ha au s1 σ H1 Q I1 q1
 |false=>exact hb au s1 σ H1 Q I1 q1
end
def aG(K:Frag)(H:Hp)(a:Addr)(xs:List V):Prop:=
 Rd H a (.lst xs)∨
  ∃(o:Obj) (its:Array Value) (n:Nat),K.lookup a=some o/\o.cls= .type "list"/\o.dict=none/\o.data= .seq its n/\its.size<=sizeLine/\Vals xs its.toList
def ik(K:Frag)(H:Hp)(a:Addr)(xs:List V):Prop:=
 Rd H a (.tup xs)∨
  ∃(o:Obj) (its:Array Value) (n:Nat),K.lookup a=some o/\o.cls= .type "tuple"/\o.data= .seq its n/\its.size<=sizeLine/\Vals xs its.toList
def aa8:Value->Option V
 | .none=>some .e7
 | .bool b=>some (.bl b)
 | .int i _=>some (.int i)
 | .str x _=>some (.str x)
 | .bytes b _=>some (.Ac b)
 | .float b _=>some (.Wa b)
 | .ref a=>some (.ref a)
 | .type n=>some (.ty n)
 |_=>none
theorem RelV.abs{x:V}{u:Value}(r:RelV x u):aa8 u=some x:=by
 cases x with
 |e7=>cases r;rfl
 |bl _=>cases r;rfl
 |int _=>obtain⟨t,rfl⟩:=r;rfl
 |str _=>obtain⟨t,rfl⟩:=r;rfl
 |Ac _=>obtain⟨t,rfl⟩:=r;rfl
 |Wa _=>obtain⟨t,rfl⟩:=r;rfl
 |ref _=>cases r;rfl
 |ty _=>cases r;rfl
theorem RelV.inj{x y:V}{u:Value}(r:RelV x u)(q:RelV y u):x=y:=Option.some.inj (r.abs.symm.trans q.abs)
theorem Vals.inj:∀{xs ys:List V} {us:List Value},Vals xs us->Vals ys us->xs=ys
 |_,_,_,.nil,.nil=>rfl
 |_,_,_,.cons r t,.cons r' t'=>by rw[r.inj r',Vals.inj t t']
section
variable{X:Cx}{au:List (Addr×Obj)}{σ:St}{H:Hp}{s:Shared}{a:Addr}{xs ys:List V}
theorem aG.of{K:Frag}(h:H a=some (.lst xs)):aG K H a xs:=.inl (.inl h)
theorem ik.of{K:Frag}(h:H a=some (.tup xs)):ik K H a xs:=.inl (.inl h)
theorem Inv.list(I:Inv X au σ H s)(h:aG X.K H a xs):∃its:List Value,Vals xs its/\PlainL s.heap a its.toArray/\xs.length<=sizeLine:=by
 rcases h with h|⟨o,its,n,hk,hc,hd,hs,hz,r⟩
 ·obtain⟨z,its,n,r,e⟩:=h.ok I.cJ;exact⟨its,r,⟨_,n,e,rfl,rfl,rfl⟩,z⟩
 refine⟨its.toList,r,⟨o,n,I.vW a o hk,hc,hd,by simpa using hs⟩,?_⟩;have e:=r.length;simp only[Array.length_toList]at e;omega
theorem Inv.tuple(I:Inv X au σ H s)(h:ik X.K H a xs):∃its:List Value,Vals xs its/\IsTup s.heap a its.toArray/\xs.length<=sizeLine:=by
 rcases h with h|⟨o,its,n,hk,hc,hs,hz,r⟩
 ·obtain⟨z,its,r,p⟩:=h.ok I.cJ;exact⟨its,r,p,z⟩
 refine⟨its.toList,r,⟨o,I.vW a o hk,hc,n,by simpa using hs⟩,?_⟩;have e:=r.length;simp only[Array.length_toList]at e;omega
theorem Inv.zK(I:Inv X au σ H s)(h:aG X.K H a xs)(h':aG X.K H a ys):xs=ys:=by
 obtain⟨its,r,⟨o,n,e,_,_,d⟩,_⟩:=I.list h;obtain⟨its',r',⟨o',n',e',_,_,d'⟩,_⟩:=I.list h';rw[e]at e';cases e';rw[d]at d';injection d' with d1 _
 have:its=its':=by simpa using congrArg Array.toList d1
 subst this;exact r.inj r'
theorem Inv.Ou(I:Inv X au σ H s)(h:ik X.K H a xs)(h':ik X.K H a ys):xs=ys:=by
 obtain⟨its,r,⟨o,e,_,n,d⟩,_⟩:=I.tuple h;obtain⟨its',r',⟨o',e',_,n',d'⟩,_⟩:=I.tuple h';rw[e]at e';cases e';rw[d]at d';injection d' with d1 _
 have:its=its':=by simpa using congrArg Array.toList d1
 subst this;exact r.inj r'
end
abbrev Cx.xU(X:Cx)(E:Value->Shared->Prop):Cx:={X with xe:=E}
abbrev Cx.Hn(X:Cx):Cx:=X.xU fun _ _=>False
theorem Cx.Ok.xU{X:Cx}(ok:X.Ok)(E:Value->Shared->Prop):(X.xU E).Ok:=
 ⟨ok.mod,ok.kind,ok.glob,ok.blt,ok.above,ok.inj,ok.has,ok.R8,ok.hd,ok.frames,ok.Wd,ok.We,ok.bs,ok.Gb,ok.Ml,ok.Mm,ok.rD,ok.JE⟩
theorem Cx.Ok.qU{X:Cx}{E:Value->Shared->Prop}(ok:(X.xU E).Ok):X.Ok:=
 ⟨ok.mod,ok.kind,ok.glob,ok.blt,ok.above,ok.inj,ok.has,ok.R8,ok.hd,ok.frames,ok.Wd,ok.We,ok.bs,ok.Gb,ok.Ml,ok.Mm,ok.rD,ok.JE⟩
section
variable{X:Cx}{au:List (Addr×Obj)}{σ:St}{H:Hp}{s:Shared}{E:Value->Shared->Prop}
theorem Inv.xU(I:Inv X au σ H s)(E:Value->Shared->Prop):Inv (X.xU E) au σ H s:=⟨I.ok.xU E,I.os,I.bare,I.ae,I.loc,I.cell,I.free,I.oB,I.pin,I.cJ,I.len⟩
theorem Inv.qU(I:Inv (X.xU E) au σ H s):Inv X au σ H s:=⟨I.ok.qU,I.os,I.bare,I.ae,I.loc,I.cell,I.free,I.oB,I.pin,I.cJ,I.len⟩
theorem SP.qU{D:Ends}{f:Flow}{s':Shared}(h:SP (X.xU E) au D f s'):SP X au D f s':=by
 cases f with
 |next=>obtain⟨σ',H',I,q⟩:=h;exact⟨σ',H',I.qU,q⟩
 |brk=>obtain⟨σ',H',I,q⟩:=h;exact⟨σ',H',I.qU,q⟩
 |cont=>obtain⟨σ',H',I,q⟩:=h;exact⟨σ',H',I.qU,q⟩
 |ret u=>obtain⟨v,σ',H',I,r,q⟩:=h;exact⟨v,σ',H',I.qU,r,q⟩
theorem PE.Hn{e:Expr}{t:TE}(h:PE X.Hn e t):PE X e t:=fun au s σ H Q I hw=>
 wpAny_mono (h au s σ H Q (I.xU _) hw) (fun _ _ ⟨v,H',I',r,q⟩=>⟨v,H',I'.qU,r,q⟩) fun _ _ z=>False.elim z
theorem Bm.Hn{st:List Stmt}{t:TS}(h:Bm X.Hn st t):Bm X st t:=fun au s σ H D I hw=>
 wpAny_mono (h au s σ H D (I.xU _) hw) (fun _ _ q=>q.qU) fun _ _ z=>False.elim z
end
section
variable{X:Cx}{st:Stmt}{rest:List Stmt}{t u:TS}{e:Expr}{te:TE}{pos:Pos}
def bw:TS:=fun D σ H=>D.nx σ H
def bT(t u:TS):TS:=fun D σ H=>t {D with nx:=u D} σ H
theorem aI:Bm X [] bw:=fun _ _ σ H _ I h=>wpAny_execs_nil ⟨σ,H,I,h⟩
theorem ag(h1:PS X st t)(h2:Bm X rest u):Bm X (st::rest) (bT t u):=by
 intro au s σ H D I h;refine wpAny_execs_cons (c8 (h1 au s σ H {D with nx:=u D} I h) fun f s1 q=>?_);cases f with
 |next=>
  obtain⟨σ',H',I',q⟩:=q;exact h2 au s1 σ' H' D I' q
 |ret v=>exact q
 |brk=>exact q
 |cont=>exact q
theorem ah(h1:PS X st t):Bm X [st] t:=by
 intro au s σ H D I h;refine wpAny_execs_cons (c8 (h1 au s σ H D I h) fun f s1 q=>?_);cases f with
 |next=>exact wpAny_execs_nil q
 |ret v=>exact q
 |brk=>exact q
 |cont=>exact q
theorem Inv.quiet{au:List (Addr×Obj)}{σ:St}{H:Hp}{s:Shared}(I:Inv X au σ H s):interactive X.env=false:=by simp[interactive,I.ok.kind]
def bx(te:TE):TS:=fun D σ H=>te σ H fun _ H1=>D.nx σ H1
theorem jx(he:PE X e te)(hs:swapsWith e none pos.line X.env=pure false:=by rfl):PS X (.Expr e pos) (bx te):=by
 intro au s σ H D I h;exact wpAny_Expr_any (c8 (he au s σ H _ I h) fun v s1 ⟨x,H1,I1,r1,q1⟩=>⟨σ,H1,I1,q1⟩) I.quiet hs
def bU(te:TE):TS:=fun D σ H=>te σ H D.rt
theorem az(he:PE X e te):PS X (.Return (some e) pos) (bU te):=by
 intro au s σ H D I h;exact wpAny_Return_some (c8 (he au s σ H _ I h) fun v s1 ⟨x,H1,I1,r1,q1⟩=>⟨x,σ,H1,I1,r1,q1⟩)
def bV(c:TT)(t u:TS):TS:=fun D σ H=>c σ H fun b H1=>if b=true then t D σ H1 else u D σ H1
theorem a9{c:Expr}{a b:List Stmt}{tc:TT}(hc:PT X c tc)(ha:Bm X a t)(hb:Bm X b u):PS X (.If c a b pos) (bV tc t u):=by
 intro au s σ H D I h;refine wpAny_If (c8 (hc au s σ H _ I h) fun d s1 ⟨H1,I1,q1⟩=>?_);cases d with
 |true=>exact ha au s1 σ H1 D I1 q1
 |false=>exact hb au s1 σ H1 D I1 q1
def Wh:TS:=fun _ _ _=>False
theorem R9:PS X st Wh:=fun _ _ _ _ _ _ h=>h.elim
end
abbrev TG:=V->St->Hp->(St->Hp->Prop)->Prop
abbrev Ms:=List V->St->Hp->(St->Hp->Prop)->Prop
def PG(X:Cx)(target:Expr)(t:TG):Prop:=
 ∀(au:List (Addr×Obj)) (s:Shared) (σ:St) (H:Hp) (v:V) (u:Value) (Q:St->Hp->Prop),Inv X au σ H s->RelV v u->t v σ H Q->
  wpAny (model X.prog X.w) X.A (assign target X.env u) (fun _ s'=>∃σ' H',Inv X au σ' H' s'/\Q σ' H') X.xe s
def Uh(X:Cx)(ts:List Expr)(t:Ms):Prop:=
 ∀(au:List (Addr×Obj)) (s:Shared) (σ:St) (H:Hp) (vs:List V) (us:List Value) (Q:St->Hp->Prop),Inv X au σ H s->Vals vs us->t vs σ H Q->
  wpAny (model X.prog X.w) X.A (assignInOrder ((assignEach ts X.env).map (·.2)) us) (fun _ s'=>∃σ' H',Inv X au σ' H' s'/\Q σ' H') X.xe s
abbrev Mt:=V->V->V->Hp->(Hp->Prop)->Prop
def Ui(X:Cx)(t:Mt):Prop:=
 ∀(au:List (Addr×Obj)) (s:Shared) (σ:St) (H:Hp) (o i v:V) (ov iv u:Value) (Q:Hp->Prop),Inv X au σ H s->RelV o ov->RelV i iv->RelV v u->t o i v H Q->
  wpAny (model X.prog X.w) X.A (setItem ov iv u) (fun _ s'=>∃H',Inv X au σ H' s'/\Q H') X.xe s
abbrev Sa:=V->V->Hp->VK->Prop
def Wi(X:Cx)(op:Operator)(t:Sa):Prop:=
 ∀(au:List (Addr×Obj)) (s:Shared) (σ:St) (H:Hp) (x y:V) (v u:Value) (Q:VK),Inv X au σ H s->RelV x v->RelV y u->t x y H Q->
  wpAny (model X.prog X.w) X.A (inplaceOp op v u) (EP X au σ Q) X.xe s
section
variable{X:Cx}{pos:Pos}
def bc(i:Nat):TG:=fun v σ H Q=>Q (σ.set i (some v)) H
theorem Mu{i:Nat}{x:Str}(hN:X.N.Nodup)(hi:X.N[i]? =some x)(hx:Loc X.env.scope x)(hf:X.fn x=true∨X.env.scope.names.lookup x=some .local:=by first|exact .inl rfl|exact .inr rfl|assumption):PG X (.Name x pos) (bc i):=by
 intro au s σ H v u Q I r h;exact wpAny_assign_Name (Eh I hN hi hx r (fun s' I'=>⟨_,H,I',h⟩) hf)
def Mv:Ms:=fun vs σ H Q=>vs=[]/\Q σ H
def vY(t:TG)(u:Ms):Ms:=fun vs σ H Q=>∃v r,vs=v::r/\t v σ H fun σ' H'=>u r σ' H' Q
theorem lH:Uh X [] Mv:=by
 intro au s σ H vs us Q I r h;obtain⟨e,h⟩:=h;subst e;cases r;exact assignInOrder_nil ⟨σ,H,I,h⟩
theorem eJ{e:Expr}{es:List Expr}{t:TG}{u:Ms}(h1:PG X e t)(h2:Uh X es u)
  (hs:(assignEach (e::es) X.env).map (·.2)=assign e X.env::(assignEach es X.env).map (·.2):=by rfl):Uh X (e::es) (vY t u):=by
 intro au s σ H vs us Q I r h;obtain⟨v,vr,e1,h⟩:=h;subst e1;cases r with
 |cons r rr=>
  rw[hs];refine assignInOrder_cons (c8 (h1 au s σ H _ _ _ I r h) fun _ s1 ⟨σ1,H1,I1,q1⟩=>?_);exact h2 au s1 σ1 H1 _ _ Q I1 rr q1
def Kn(K:Frag)(n:Nat)(t:Ms):TG:=fun v σ H Q=>∃a xs,v= .ref a/\ik K H a xs/\xs.length=n/\t xs σ H Q
theorem Co{es:List Expr}{k:Nat}{t:Ms}{n:Nat}(hc:X.calm=true)(h:Uh X es t)
  (hn:(assignEach es X.env).length=n:=by rfl)(Ho:(assignEach es X.env).findIdx? (·.1)=none:=by rfl):PG X (.Tuple es k pos) (Kn X.K n t):=by
 intro au s σ H v u Q I r hw;obtain⟨a,xs,e1,hq,hl,hw⟩:=hw;subst e1;cases r;obtain⟨its,rv,ht,hz⟩:=I.tuple hq;refine assign_Tuple_tuple (I.ok.hd hc) ht (by simp[hn,<- hl,rv.length]) Ho fun h' hx=>?_;have I1:Inv X au σ H {s with heap:=h'}:=I.kept (t':=s.toks) fun b o e=>hx b o (Nat.ne_of_lt (Heap.lt_size e)) e;exact h au _ σ H xs _ Q I1 (by simpa using rv) hw
def bW(to ti:TE)(t:Mt):TG:=fun v σ H Q=>to σ H fun o H1=>ti σ H1 fun i H2=>t o i v H2 fun H3=>Q σ H3
theorem Rp{o i:Expr}{to ti:TE}{t:Mt}(ho:PE X o to)(hi:PE X i ti)(hs:Ui X t)
  (ha:∀v,assign (.Subscript o i pos) X.env v=(do
   let ov <- holding [v] (eval o X.env)
   let iv <- holding [v,ov] (eval i X.env)
   standAt pos
   holding [v,ov,iv] (setItem ov iv v)
   release [v,ov,iv] []):=by intro _;rfl):PG X (.Subscript o i pos) (bW to ti t):=by
 intro au s σ H v u Q I r h;rw[ha];refine wpAny_bind (wpAny_holding (c8 (ho au s σ H _ I h) fun ov s1 ⟨x,H1,I1,r1,q1⟩=>?_));refine wpAny_bind (wpAny_holding (c8 (hi au s1 σ H1 _ I1 q1) fun iv s2 ⟨y,H2,I2,r2,q2⟩=>?_));refine wpAny_bind (wpAny_standAt (wpAny_bind (wpAny_holding (c8 (hs au s2 σ H2 x y v ov iv u _ I2 r1 r2 r q2) fun _ s3 ⟨H3,I3,q3⟩=>?_))));exact wpAny_release ⟨σ,H3,I3,q3⟩
def bN(te:TE)(g:TG):TS:=fun D σ H=>te σ H fun x H1=>g x σ H1 D.nx
theorem Rq{tg e:Expr}{te:TE}{g:TG}(he:PE X e te)(hg:PG X tg g)(hs:swapsWithSole [tg] e pos.line X.env=pure false:=by rfl)(hw:swappedStores [tg] e X.env=pure none:=by rfl)
  (h1:(assignEach [tg] X.env).map (·.2)=[assign tg X.env]:=by rfl):PS X (.Assign [tg] e pos) (bN te g):=by
 intro au s σ H D I h;refine wpAny_Assign_stores (c8 (he au s σ H _ I h) fun v s1 ⟨x,H1,I1,r1,q1⟩=>?_) hs hw;rw[h1];exact c8 (hg au s1 σ H1 x v _ I1 r1 q1) fun _ s2 q=>q
theorem tK{i:Nat}{x:Str}{e:Expr}{te:TE}{pos':Pos}(hN:X.N.Nodup)(hi:X.N[i]? =some x)(hx:Loc X.env.scope x)(he:PE X e te)(hs:swapsWith e (some (.Name x pos')) pos.line X.env=pure false:=by rfl)(hf:X.fn x=true∨X.env.scope.names.lookup x=some .local:=by first|exact .inl rfl|exact .inr rfl|assumption):
  PS X (.Assign [.Name x pos'] e pos) (bN te (bc i)):=by
 intro au s σ H D I h;refine wpAny_Assign_Name (c8 (he au s σ H _ I h) fun v s1 ⟨y,H1,I1,r1,q1⟩=>?_) hs;exact Eh I1 hN hi hx r1 (fun s2 I2=>⟨_,H1,I2,q1⟩) hf
def bX(i:Nat)(te:TE)(ti:Sa):TS:=fun D σ H=>∃x,σ[i]? =some (some x)/\te σ H fun y H1=>ti x y H1 fun z H2=>D.nx (σ.set i (some z)) H2
theorem G3{i:Nat}{x:Str}{e:Expr}{te:TE}{op:Operator}{ti:Sa}{pos':Pos}(hN:X.N.Nodup)(hi:X.N[i]? =some x)(hx:Loc X.env.scope x)(he:PE X e te)(ho:Wi X op ti)(hf:X.fn x=true∨X.env.scope.names.lookup x=some .local:=by first|exact .inl rfl|exact .inr rfl|assumption):
  PS X (.AugAssign (.Name x pos') op e pos) (bX i te ti):=by
 intro au s σ H D I h;obtain⟨v,e1,h⟩:=h;obtain⟨m,hn,hl⟩:=I.loc;have vis:Oq X.env.scope x:=by rcases hx with k|k;exact .inl k;exact .inr (.inl k)
 obtain⟨u,r,l⟩:=hl i x v hi e1 vis;refine wpAny_AugAssign_Name ?_;have go:wpAny (model X.prog X.w) X.A (eval e X.env) (fun w s₂=>wpAny (model X.prog X.w) X.A (inplaceOp op u w) (fun r s₃=>wpAny (model X.prog X.w) X.A (storeName X.env x r) (fun _=>SP X au D .next) X.xe s₃) X.xe s₂) X.xe s:=by
  refine c8 (he au s σ H _ I h) fun w s1 ⟨y,H1,I1,r1,q1⟩=>?_;refine c8 (ho au s1 σ H1 v y u w _ I1 r r1 q1) fun z s2 ⟨zv,H2,I2,r2,q2⟩=>?_;exact Eh I2 hN hi hx r2 (fun s3 I3=>⟨_,H2,I3,q2⟩) hf
 rcases l with⟨hk,hm⟩|⟨hk,c,hc,pV⟩
 ·exact wpAny_loadName_local I.ok.kind hk hn hm go
 rcases hk with hk|hk
 ·exact wpAny_loadName_cell I.ok.kind hk hc pV go
 rcases hx with k|k
 ·have:X.env.scope.names.lookup x=some .free:=hk;rw[k]at this;cases this
 have:X.env.scope.names.lookup x=some .free:=hk;rw[k]at this;cases this
def bz(to ti te:TE)(Rr:V->V->Hp->VK->Prop)(Wj:Sa)(Rt:Mt):TS:=fun D σ H=>to σ H fun o H1=>ti σ H1 fun i H2=>Rr o i H2 fun x H3=>te σ H3 fun y H4=>Wj x y H4 fun z H5=>Rt o i z H5 fun H6=>D.nx σ H6
def YM(X:Cx)(t:V->V->Hp->VK->Prop):Prop:=
 ∀(au:List (Addr×Obj)) (s:Shared) (σ:St) (H:Hp) (o i:V) (ov iv:Value) (Q:VK),Inv X au σ H s->RelV o ov->RelV i iv->t o i H Q->
  wpAny (model X.prog X.w) X.A (getItem ov iv) (EP X au σ Q) X.xe s
theorem lI{o i e:Expr}{to ti te:TE}{Rr:V->V->Hp->VK->Prop}{Wj:Sa}{Rt:Mt}{op:Operator}{wQ:Pos}(ho:PE X o to)(hi:PE X i ti)(hg:YM X Rr)(he:PE X e te)(hp:Wi X op Wj)(hs:Ui X Rt)
  (ha:∀ov iv new,augStore i ov iv new=(do holding [new,ov,iv] (setItem ov iv new);release [new,ov,iv] [];pure .next):=by intros;rfl):PS X (.AugAssign (.Subscript o i wQ) op e pos) (bz to ti te Rr Wj Rt):=by
 intro au s σ H D I h;refine wpAny_AugAssign_SubscriptAny (c8 (ho au s σ H _ I h) fun ov s1 ⟨x1,H1,I1,r1,q1⟩=>?_) ha;refine c8 (hi au s1 σ H1 _ I1 q1) fun iv s2 ⟨x2,H2,I2,r2,q2⟩=>?_;refine c8 (hg au s2 σ H2 x1 x2 ov iv _ I2 r1 r2 q2) fun old s3 ⟨x3,H3,I3,r3,q3⟩=>?_;refine c8 (he au s3 σ H3 _ I3 q3) fun v s4 ⟨x4,H4,I4,r4,q4⟩=>?_;refine c8 (hp au s4 σ H4 x3 x4 old v _ I4 r3 r4 q4) fun new s5 ⟨x5,H5,I5,r5,q5⟩=>?_;exact c8 (hs au s5 σ H5 x1 x2 x5 ov iv new _ I5 r1 r2 r5 q5) fun _ s6 ⟨H6,I6,q6⟩=>⟨σ,H6,I6,q6⟩
def de(f:Int->Int->Int):Sa:=fun x y H Q=>∃i j,x= .int i/\y= .int j/\Q (.int (f i j)) H
theorem mT:Wi X .Add (de fun i j=>i+j):=by
 intro au s σ H x y v u Q I r1 r2 h;obtain⟨i,j,e1,e2,q⟩:=h;subst e1;subst e2;obtain⟨t,rfl⟩:=r1;obtain⟨t',rfl⟩:=r2;exact iadd_int ⟨.int _,H,I.tok _,⟨_,rfl⟩,q⟩
theorem Lb:Wi X .Sub (de fun i j=>i - j):=by
 intro au s σ H x y v u Q I r1 r2 h;obtain⟨i,j,e1,e2,q⟩:=h;subst e1;subst e2;obtain⟨t,rfl⟩:=r1;obtain⟨t',rfl⟩:=r2;exact isub_int ⟨.int _,H,I.tok _,⟨_,rfl⟩,q⟩
end
section
variable{X:Cx}{pos:Pos}
def Ru(c:TT)(tb:TS):TS:=fun D σ H=>∃W:Nat->St->Hp->Prop,(∃m,W m σ H)/\∀m σ H,W m σ H->
 c σ H fun b H1=>if b=true then ∃N:St->Hp->Prop,(∀σ' H',N σ' H'->∃m',m'<m/\W m' σ' H')/\tb {D with nx:=N,ct:=N,bk:=D.nx} σ H1 else D.nx σ H1
theorem u4{c:Expr}{body:List Stmt}{tc:TT}{tb:TS}(hp:PassesOwn (model X.prog X.w) X.A X.env X.xe)(hc:PT X c tc)(hb:Bm X body tb):PS X (.While c body [] pos) (Ru tc tb):=by
 intro au s σ H D I h;obtain⟨W,⟨m0,w0⟩,turn⟩:=h;refine wpAny_While (codeAny_whileLoop (fun n s'=>∃σ' H',Inv X au σ' H' s'/\W n σ' H') ?_ m0 ⟨σ,H,I,w0⟩);rintro n s1 ⟨σ1,H1,I1,w1⟩;refine wpAny_passesOwn hp (c8 (hc au s1 σ1 H1 _ I1 (turn n σ1 H1 w1)) fun b s2 ⟨H2,I2,q2⟩=>?_);cases b with
 |true=>
  obtain⟨N,hN,q2⟩:=q2;rw[if_pos rfl];refine wpAny_passesOwn hp (c8 (hb au s2 σ1 H2 _ I2 q2) fun f s3 q3=>?_);cases f with
  |next=>
   obtain⟨σ3,H3,I3,n3⟩:=q3;obtain⟨m',hm,w3⟩:=hN σ3 H3 n3;exact⟨m',hm,σ3,H3,I3,w3⟩
  |cont=>
   obtain⟨σ3,H3,I3,n3⟩:=q3;obtain⟨m',hm,w3⟩:=hN σ3 H3 n3;exact⟨m',hm,σ3,H3,I3,w3⟩
  |brk=>exact q3
  |ret v=>exact q3
 |false=>
  rw[if_neg Bool.false_ne_true];exact wpAny_execs_nil ⟨σ1,H2,I2,q2⟩
end
structure It where
 go:Nat->Hp->Prop
 Mw:Nat->Hp->V->Hp->Prop
 stop:Nat->Hp->Prop
def wR(X:Cx)(au:List (Addr×Obj))(H:Hp)(b:Addr):Prop:=
 H b=none/\b≠X.env.locals/\b∉X.fs/\(b∈X.ex∨X.tw.heap.objs.size<=b)/\(∀x c,X.env.cells.lookup x=some c->c≠b)/\∀p∈X.pn++au,p.1≠b
theorem Inv.Ko{X:Cx}{au:List (Addr×Obj)}{σ:St}{H H':Hp}{s:Shared}{b:Addr}(I:Inv X au σ H s)(hb:s.heap.objs.size<=b)(hn:H' b=none):wR X au H' b:=by
 refine⟨hn,Nat.ne_of_gt (Nat.lt_of_lt_of_le I.lt hb),I.aa4 hb,.inr (Nat.le_trans I.sz hb),fun x c e z=>?_,fun p hp z=>?_⟩
 ·obtain⟨v,q⟩:=I.cell x c e;exact absurd (Nat.lt_of_lt_of_le q.lt (by rw[z];exact hb)) (Nat.lt_irrefl _)
 exact absurd (Nat.lt_of_lt_of_le (Heap.lt_size (I.pin p hp).1) (by rw[z];exact hb)) (Nat.lt_irrefl _)
structure Turn(P:Program)(w:World)(K:Frag)(tg:Expr)(J:It)(fp:List Addr)(it:Addr)(tn:Nat->Heap->Prop):Prop where
 mem:it∈fp
 obj:∀i h,tn i h->∀b∈fp,∃o,h.get? b=some o/\∀v,o.data≠ .cell v
 keep:∀i h h',tn i h->(∀b∈fp,∀o,h.get? b=some o->h'.get? b=some o)->tn i h'
 item:∀(X:Cx),X.prog=P->X.w=w->X.K=K->X.calm=true->∀(i:Nat) (au:List (Addr×Obj)) (s:Shared) (σ:St) (H:Hp) (E:Value->Shared->Prop),Inv X au σ H s->(∀b∈fp,wR X au H b)->tn i s.heap->J.go i H->
  wpAny (model P w) X.A (pyNext (.ref it)) (fun r s1=>∃u,r=some u/\
   wpAny (model P w) X.A (letOwnedTupleGo tg (.ref it) u) (fun _ s2=>∃x H',Inv X au σ H' s2/\RelV x u/\J.Mw i H x H'/\tn (i+1) s2.heap/\∀b∈fp,H' b=none) E s1) E s
 done:∀(X:Cx),X.prog=P->X.w=w->X.K=K->X.calm=true->∀(i:Nat) (au:List (Addr×Obj)) (s:Shared) (σ:St) (H:Hp) (E:Value->Shared->Prop),Inv X au σ H s->(∀b∈fp,wR X au H b)->tn i s.heap->J.stop i H->
  wpAny (model P w) X.A (pyNext (.ref it)) (fun r s1=>r=none/\Inv X au σ H s1) E s
 self:∀(A:Around) (i:Nat) (s:Shared) (Q:Value->Shared->Prop) (E:Value->Shared->Prop),tn i s.heap->Q (.ref it) s->wpAny (model P w) A (pyIter (.ref it)) Q E s
abbrev TI:=St->Hp->(It->Hp->Prop)->Prop
def PIE(X:Cx)(au:List (Addr×Obj))(σ:St)(tg:Expr)(R:It->Hp->Prop)(Zb:Value)(s2:Shared):Prop:=
 ∃(it:Addr) (fp:List Addr) (tn:Nat->Heap->Prop) (J:It) (H':Hp),Zb= .ref it/\Inv X au σ H' s2/\Turn X.prog X.w X.K tg J fp it tn/\tn 0 s2.heap/\(∀b∈fp,wR X au H' b)/\R J H'
def PI(X:Cx)(tg iter:Expr)(wi:TI):Prop:=
 ∀(au:List (Addr×Obj)) (s:Shared) (σ:St) (H:Hp) (R:It->Hp->Prop),Inv X au σ H s->wi σ H R->
  wpAny (model X.prog X.w) X.A (eval iter X.env) (fun v s1=>wpAny (model X.prog X.w) X.A (pyIter v) (PIE X au σ tg R) X.xe s1) X.xe s
theorem Ov{M:Model}{A:Around}{E:Value->Shared->Prop}{s:Shared}{tg:Expr}{it:Addr}{u:Value}{o:Obj}{n:String}{vs:Array Value}{Q:Unit->Shared->Prop}(ho:s.heap.get? it=some o)(hc:o.cls= .type n)(hd:o.data= .fields vs)
  (hn:["enumerate","zip","dict_itemiterator","dict_reverseitemiterator","odict_iterator","itertools.zip_longest","itertools.pairwise"].contains n=false)(hQ:Q () s):wpAny M A (letOwnedTupleGo tg (.ref it) u) Q E s:=by
 unfold letOwnedTupleGo;cases tg <;> first
  |exact wpAny_pure hQ
  |(cases u <;> first
    |exact wpAny_pure hQ
    |(refine wpAny_bind (wpAny_load ho ?_); rw[hc,hd]; show wpAny M A (if(["enumerate","zip","dict_itemiterator","dict_reverseitemiterator","odict_iterator","itertools.zip_longest","itertools.pairwise"].contains n&&vs[0]? ==some (rawInt _))=true then _ else _) Q E s; rw[if_neg (by intro h;rw[hn,Bool.false_and]at h;cases h)]; exact wpAny_pure hQ))
def Sb(K:Frag)(a:Addr):It:=
 ⟨fun i H=>∃xs x,aG K H a xs/\xs[i]? =some x,fun i H x H'=>H'=H/\∀xs,aG K H a xs->xs[i]? =some x,fun i H=>∃xs,aG K H a xs/\xs.length<=i⟩
def Uj(K:Frag)(a:Addr):It:=
 ⟨fun i H=>∃xs x,ik K H a xs/\xs[i]? =some x,fun i H x H'=>H'=H/\∀xs,ik K H a xs->xs[i]? =some x,fun i H=>∃xs,ik K H a xs/\xs.length<=i⟩
def Mx(lo:Int)(n:Nat):It:=⟨fun i _=>i<n,fun i H x H'=>H'=H/\x= .int (lo+i),fun i _=>n<=i⟩
theorem Ow{P:Program}{w:World}{K:Frag}{tg:Expr}(a it:Addr):Turn P w K tg (Sb K a) [it] it (fun i h=>h.IsListIter it a i) where
 mem:=by simp
 obj:=fun i h st b hb=>by
  have e:b=it:=by simpa using hb
  subst e;obtain⟨o,e,c,d⟩:=st;exact⟨o,e,fun v z=>by rw[d]at z;cases z⟩
 keep:=fun i h h' st k=>st.at fun o e=>k it (by simp) o e
 item:=by
  intro X hP hw hK hc i au s σ H E I hf st hg;subst hP hw hK;obtain⟨xs,x,hq,hx⟩:=hg;obtain⟨its,rv,p,hz⟩:=I.list hq;obtain⟨u,hu,ru⟩:=rv.get hx;obtain⟨f0,f1,f2,f3,f4,f5⟩:=hf it (by simp);refine wpAny_pyNext_list_item st p.isList (x:=u) (by simpa using hu) fun h' My sb=>?_;have I1:Inv X au σ H {s with heap:=h'}:=I.turned (t':=s.toks) (fun b o hb e=>(sb.2 b hb).trans e) f0 f1 f3 f4 f5;obtain⟨o,e,c,d⟩:=id My;exact⟨u,rfl,Ov (s:={s with heap:=h'}) e c d (by decide) ⟨x,H,I1,ru,⟨rfl,fun ys hy=>by rw[I.zK hy hq];exact hx⟩,My,fun b hb=>(hf b hb).1⟩⟩
 done:=by
  intro X hP hw hK hc i au s σ H E I hf st hg;subst hP hw hK;obtain⟨xs,hq,hx⟩:=hg;obtain⟨its,rv,p,hz⟩:=I.list hq;obtain⟨f0,f1,f2,f3,f4,f5⟩:=hf it (by simp);have hl:=rv.length;exact wpAny_pyNext_list_end (I.ok.hd hc) st p.isList (by simp;omega) fun h' eb=>⟨rfl,I.turned (t':=s.toks) (fun b o hb e=>eb b o hb e) f0 f1 f3 f4 f5⟩
 self:=fun _ _ _ _ _ st h=>wpAny_pyIter_listiter st h
theorem Mz{P:Program}{w:World}{K:Frag}{tg:Expr}(a it:Addr):Turn P w K tg (Uj K a) [it] it (fun i h=>h.IsTupleIter it a i) where
 mem:=by simp
 obj:=fun i h st b hb=>by
  have e:b=it:=by simpa using hb
  subst e;obtain⟨o,e,c,d⟩:=st;exact⟨o,e,fun v z=>by rw[d]at z;cases z⟩
 keep:=fun i h h' st k=>st.at fun o e=>k it (by simp) o e
 item:=by
  intro X hP hw hK hc i au s σ H E I hf st hg;subst hP hw hK;obtain⟨xs,x,hq,hx⟩:=hg;obtain⟨its,rv,p,hz⟩:=I.tuple hq;obtain⟨u,hu,ru⟩:=rv.get hx;obtain⟨f0,f1,f2,f3,f4,f5⟩:=hf it (by simp);refine wpAny_pyNext_tuple_item st (show s.heap.IsTuple a its.toArray from p) (x:=u) (by simpa using hu) fun h' My sb=>?_;have I1:Inv X au σ H {s with heap:=h'}:=I.turned (t':=s.toks) (fun b o hb e=>(sb.2 b hb).trans e) f0 f1 f3 f4 f5;obtain⟨o,e,c,d⟩:=id My;exact⟨u,rfl,Ov (s:={s with heap:=h'}) e c d (by decide) ⟨x,H,I1,ru,⟨rfl,fun ys hy=>by rw[I.Ou hy hq];exact hx⟩,My,fun b hb=>(hf b hb).1⟩⟩
 done:=by
  intro X hP hw hK hc i au s σ H E I hf st hg;subst hP hw hK;obtain⟨xs,hq,hx⟩:=hg;obtain⟨its,rv,p,hz⟩:=I.tuple hq;obtain⟨f0,f1,f2,f3,f4,f5⟩:=hf it (by simp);have hl:=rv.length;exact wpAny_pyNext_tuple_end (I.ok.hd hc) st (show s.heap.IsTuple a its.toArray from p) (by simp;omega) fun h' eb=>⟨rfl,I.turned (t':=s.toks) (fun b o hb e=>eb b o hb e) f0 f1 f3 f4 f5⟩
 self:=fun _ _ _ _ _ st h=>wpAny_pyIter_tupleiter st h
theorem MA{P:Program}{w:World}{K:Frag}{tg:Expr}(it:Addr)(lo:Int)(n:Nat):Turn P w K tg (Mx lo n) [it] it (fun i h=>IsRangeIter h it (lo+(i:Nat)*1) ((n:Int) - (i:Nat)) 1) where
 mem:=by simp
 obj:=fun i h st b hb=>by
  have e:b=it:=by simpa using hb
  subst e;exact⟨_,st,fun v z=>by
   have z':Data.fields _=Data.cell v:=z;cases z'⟩
 keep:=fun i h h' st k=>k it (by simp) _ st
 item:=by
  intro X hP hw hK hc i au s σ H E I hf st hg;subst hP hw hK;obtain⟨f0,f1,f2,f3,f4,f5⟩:=hf it (by simp);have W:=Walks.range (prog:=X.prog) (w:=X.w) (I.ok.hd hc) it lo 1 n;refine W.item i s _ _ hg st fun v h' tk hv My kk=>?_;obtain⟨t,rfl⟩:=hv;have I1:Inv X au σ H {s with heap:=h',toks:=tk}:=I.turned (fun b o hb e=>kk b o (by simpa using hb) e) f0 f1 f3 f4 f5;refine⟨_,rfl,Ov (s:={s with heap:=h',toks:=tk}) (n:="range_iterator") My rfl rfl (by decide) ⟨.int (lo+i),H,I1,⟨t,?_⟩,⟨rfl,rfl⟩,My,fun b hb=>(hf b hb).1⟩⟩;rw[Int.mul_one]
 done:=by
  intro X hP hw hK hc i au s σ H E I hf st hg;subst hP hw hK;obtain⟨f0,f1,f2,f3,f4,f5⟩:=hf it (by simp);exact wpAny_pyNext_range_end (I.ok.hd hc) st (by have:n<=i:=hg;omega) fun h' eb=>⟨rfl,I.turned (t':=s.toks) (fun b o hb e=>eb b o hb e) f0 f1 f3 f4 f5⟩
 self:=fun _ _ _ _ _ st h=>wpAny_pyIter_rangeiter st h
section
variable{X:Cx}{tg:Expr}
def Ej(K:Frag)(tl:TE):TI:=fun σ H R=>tl σ H fun x H1=>∃a,x= .ref a/\(∃xs,aG K H1 a xs)/\R (Sb K a) H1
def YN(K:Frag)(tl:TE):TI:=fun σ H R=>tl σ H fun x H1=>∃a,x= .ref a/\(∃xs,ik K H1 a xs)/\R (Uj K a) H1
theorem fm{l:Expr}{tl:TE}(hl:PE X l tl):PI X tg l (Ej X.K tl):=by
 intro au s σ H R I h;refine c8 (hl au s σ H _ I h) fun v s1 ⟨x,H1,I1,r1,q1⟩=>?_;obtain⟨a,e,⟨xs,hq⟩,q⟩:=q1;subst e;cases r1;obtain⟨its,rv,p,hz⟩:=I1.list hq;refine wpAny_pyIter_list p.isList ?_;refine⟨s1.heap.objs.size,[s1.heap.objs.size],_,_,H1,rfl,I1.kept (t':=s1.toks) fun b o e=>Heap.get?_push_of_some _ e,Ow a _,⟨_,Heap.get?_push_size _ rfl,rfl,rfl⟩,fun b hb=>?_,q⟩;have e:b=s1.heap.objs.size:=by simpa using hb
 subst e;exact I1.Ko (Nat.le_refl _) (I1.cJ.fresh (Nat.le_refl _))
theorem Wk{l:Expr}{tl:TE}(hl:PE X l tl):PI X tg l (YN X.K tl):=by
 intro au s σ H R I h;refine c8 (hl au s σ H _ I h) fun v s1 ⟨x,H1,I1,r1,q1⟩=>?_;obtain⟨a,e,⟨xs,hq⟩,q⟩:=q1;subst e;cases r1;obtain⟨its,rv,p,hz⟩:=I1.tuple hq;refine wpAny_pyIter_tuple (show s1.heap.IsTuple a its.toArray from p) ?_;refine⟨s1.heap.objs.size,[s1.heap.objs.size],_,_,H1,rfl,I1.kept (t':=s1.toks) fun b o e=>Heap.get?_push_of_some _ e,Mz a _,⟨_,Heap.get?_push_size _ rfl,rfl,rfl⟩,fun b hb=>?_,q⟩;have e:b=s1.heap.objs.size:=by simpa using hb
 subst e;exact I1.Ko (Nat.le_refl _) (I1.cJ.fresh (Nat.le_refl _))
theorem Kq{au:List (Addr×Obj)}{σ:St}{H:Hp}{s:Shared}{R:It->Hp->Prop}{E:Value->Shared->Prop}{lo hi:Int}{t u v:Tok}{tk:Nat}(I:Inv X au σ H s)(h1: -(2 ^ 62)<=lo)(h2:lo<2 ^ 62)(h3: -(2 ^ 62)<=hi)(h4:hi<2 ^ 62)
  (q:R (Mx lo (hi - lo).toNat) H):wpAny (model X.prog X.w) X.A (pyIter (.ref s.heap.objs.size)) (PIE X au σ tg R) E {s with heap:=s.heap.push {cls:=.type "range",data:=.fields #[.int lo t,.int hi u,.int 1 v]},toks:=tk}:=by
 refine wpAny_pyIter_range (IsRange.new ..) (small_one h1 h2 h3 h4) ?_;have I1:Inv X au σ H {s with heap:=s.heap.push {cls:=.type "range",data:=.fields #[.int lo t,.int hi u,.int 1 v]},toks:=tk}:=I.kept fun b o e=>Heap.get?_push_of_some _ e;refine⟨(s.heap.push {cls:=.type "range",data:=.fields #[.int lo t,.int hi u,.int 1 v]}).objs.size,[(s.heap.push {cls:=.type "range",data:=.fields #[.int lo t,.int hi u,.int 1 v]}).objs.size],_,_,H,rfl,
  I1.kept (t':=tk) fun b o e=>Heap.get?_push_of_some _ e,MA _ lo (hi - lo).toNat,?_,fun b hb=>?_,q⟩
 ·have e1:lo+((0:Nat):Int)*1=lo:=by simp
  have e2:(((hi - lo).toNat:Nat):Int) - ((0:Nat):Int)=Builtin.Range.rangeSize lo hi 1:=by rw[rangeSize_one];split <;> omega
  show IsRangeIter _ _ (lo+((0:Nat):Int)*1) ((((hi - lo).toNat:Nat):Int) - ((0:Nat):Int)) 1;rw[e1,e2];exact Heap.get?_push_size _ rfl
 have e:b=(s.heap.push {cls:=.type "range",data:=.fields #[.int lo t,.int hi u,.int 1 v]}).objs.size:=by simpa using hb
 subst e;exact I1.Ko (Nat.le_refl _) (I1.cJ.fresh (Nat.le_refl _))
def Lc(ta:TA):TI:=fun σ H R=>ta σ H fun vs H1=>∃j:Int,vs=[.int j]/\ -(2 ^ 62)<=j/\j<2 ^ 62/\R (Mx 0 j.toNat) H1
def Uk(ta:TA):TI:=fun σ H R=>ta σ H fun vs H1=>∃i j:Int,vs=[.int i,.int j]/\(-(2 ^ 62)<=i/\i<2 ^ 62/\ -(2 ^ 62)<=j/\j<2 ^ 62)/\R (Mx i (j - i).toNat) H1
theorem eK{a:Expr}{ta:TA}{p pos:Pos}(hg:Gl X "range")(hm:X.mg "range"=none)(ha:PA X [a] ta)(hs:starEach [a] X.env=[(false,eval a X.env)]:=by rfl):PI X tg (.Call (.Name "range" p) [a] [] pos) (Lc ta):=by
 intro au s σ H R I h;refine Call_ (zJ I hg hm boot_range (PyProof.Rows.callWith_type1 (c8 (ha pos au s σ H _ I h) fun us s1 ⟨vs,H1,I1,r1,q1⟩=>?_) hs rfl));obtain⟨j,e,q1,q2,q⟩:=q1;subst e;cases r1 with
 |cons r rr=>
  cases rr;obtain⟨t,rfl⟩:=r;exact call_range_1 (Kq I1 (by omega) (by omega) q1 q2 (by simpa using q))
theorem Ox{a b:Expr}{ta:TA}{p pos:Pos}(hg:Gl X "range")(hm:X.mg "range"=none)(ha:PA X [a,b] ta)(hs:starEach [a,b] X.env=[(false,eval a X.env),(false,eval b X.env)]:=by rfl)(Oy:starEach [b] X.env=[(false,eval b X.env)]:=by rfl):
  PI X tg (.Call (.Name "range" p) [a,b] [] pos) (Uk ta):=by
 intro au s σ H R I h;refine Call_ (zJ I hg hm boot_range (PyProof.Rows.callWith_type1 (c8 (ha pos au s σ H _ I h) fun us s1 ⟨vs,H1,I1,r1,q1⟩=>?_) (by rw[hs,Oy]) (by rw[Oy];rfl)));obtain⟨i,j,e,⟨q1,q2,q3,q4⟩,q⟩:=q1;subst e;cases r1 with
 |cons r rr=>
  cases rr with
  |cons r' rr=>
   cases rr;obtain⟨t,rfl⟩:=r;obtain⟨t',rfl⟩:=r';exact call_range_2 (Kq I1 q1 q2 q3 q4 q)
def Fw(wi:TI)(g:TG)(tb:TS):TS:=fun D σ H=>wi σ H fun J H1=>∃W:Nat->Nat->St->Hp->Prop,(∃m,W 0 m σ H1)/\∀i m σ H,W i m σ H->
 (J.stop i H/\D.nx σ H)∨(J.go i H/\∃N:St->Hp->Prop,(∀σ' H',N σ' H'->∃m',m'<m/\W (i+1) m' σ' H')/\∀x H',J.Mw i H x H'->g x σ H' fun σ2 H2=>tb {D with nx:=N,ct:=N,bk:=D.nx} σ2 H2)
def Cp(fp:List Addr)(h:Heap):List (Addr×Obj):=fp.filterMap fun b=>(h.get? b).map fun o=>(b,o)
theorem xV{fp:List Addr}{h:Heap}{b:Addr}{o:Obj}(hb:b∈fp)(e:h.get? b=some o):(b,o)∈Cp fp h:=List.mem_filterMap.mpr ⟨b,hb,by rw[e];rfl⟩
theorem Oz{fp:List Addr}{h:Heap}{p:Addr×Obj}(hp:p∈Cp fp h):p.1∈fp/\h.get? p.1=some p.2:=by
 obtain⟨b,hb,e⟩:=List.mem_filterMap.mp hp;cases q:h.get? b with
 |none=>rw[q]at e;cases e
 |some o=>
  rw[q]at e;have e':(b,o)=p:=Option.some.inj e;subst e';exact⟨hb,q⟩
theorem Inv.pinned{au:List (Addr×Obj)}{σ:St}{H:Hp}{s:Shared}{fp:List Addr}(I:Inv X au σ H s)(hf:∀b∈fp,wR X au H b)(ho:∀b∈fp,∃o,s.heap.get? b=some o/\∀v,o.data≠ .cell v):Inv X (au++Cp fp s.heap) σ H s:=
 I.Mq fun p hp=>(List.mem_append.mp hp).elim (fun z=>I.pin p (List.mem_append_right _ z)) fun z=>by
  obtain⟨hb,e⟩:=Oz z;obtain⟨f0,f1,f2,_⟩:=hf p.1 hb;obtain⟨o,e',d⟩:=ho p.1 hb;rw[e]at e';cases e';exact⟨e,f0,f1,f2,d⟩
theorem Inv.zL{au pl:List (Addr×Obj)}{σ:St}{H:Hp}{s:Shared}(I:Inv X (au++pl) σ H s):Inv X au σ H s:=I.Mq fun p hp=>I.pin p (List.mem_append_right _ (List.mem_append_left _ hp))
theorem fQ{iter:Expr}{body:List Stmt}{wi:TI}{g:TG}{tb:TS}{pos:Pos}(hp:PassesOwn (model X.prog X.w) X.A X.env X.xe)(hc:X.calm=true)(hi:PI X tg iter wi)(hg:PG X tg g)(hb:Bm X body tb)
  (hs:∀x,foldedSetIterable iter X.env x=pure x:=by intro _;rfl):PS X (.For tg iter body [] pos) (Fw wi g tb):=by
 intro au s σ H D I h;refine wpAny_For (c8 (hi au s σ H _ I h) fun v s1 h1=>c8 h1 fun Zb s2 h2=>?_) hs;obtain⟨it,fp,tn,J,H2,e,I2,T,Wl,f2,W,⟨m0,w0⟩,turn⟩:=h2;subst e;have Hq:∀{H':Hp},(∀b∈fp,H' b=none)->∀b∈fp,wR X au H' b:=fun hn b hb=>⟨hn b hb,(f2 b hb).2⟩;refine codeAny_forLoop_any (fun n s'=>∃i σ' H',Inv X au σ' H' s'/\tn i s'.heap/\(∀b∈fp,H' b=none)/\W i n σ' H') ?_ m0 ⟨0,σ,H2,I2,Wl,fun b hb=>(f2 b hb).1,w0⟩;rintro n s3 ⟨i,σ3,H3,I3,Wm,fr3,w3⟩;rcases turn i n σ3 H3 w3 with⟨stop,qn⟩|⟨go,N,hN,step⟩
 ·refine wpAny_passesOwn hp (c8 (T.done X rfl rfl rfl hc i au s3 σ3 H3 X.xe I3 (Hq fr3) Wm stop) fun r s4 ⟨hr,I4⟩=>?_);subst hr;exact wpAny_execs_nil ⟨σ3,H3,I4,qn⟩
 refine wpAny_passesOwn hp (c8 (T.item X rfl rfl rfl hc i au s3 σ3 H3 X.xe I3 (Hq fr3) Wm go) fun r s4 ⟨u,hr,h4⟩=>?_);subst hr;refine wpAny_passesOwn hp (c8 h4 fun _ s5 ⟨x,H5,I5,r5,y5,Sd,fr5⟩=>?_);have I5':=I5.pinned (Hq fr5) (T.obj _ _ Sd);refine wpAny_passesOwn hp (c8 (hg _ s5 σ3 H5 x u _ I5' r5 (step x H5 y5)) fun _ s6 ⟨σ6,H6,I6,q6⟩=>?_);refine wpAny_passesOwn hp (c8 (hb _ s6 σ6 H6 _ I6 q6) fun f s7 q7=>?_);have again:∀{σ7:St} {H7:Hp},Inv X (au++Cp fp s5.heap) σ7 H7 s7->N σ7 H7->∃m,m<n/\∃i σ' H',Inv X au σ' H' s7/\tn i s7.heap/\(∀b∈fp,H' b=none)/\W i m σ' H':=fun{σ7 H7} I7 n7=>by
  obtain⟨m',hm,w7⟩:=hN σ7 H7 n7;refine⟨m',hm,i+1,σ7,H7,I7.zL,T.keep _ _ _ Sd fun b hb o e=>(I7.pin (b,o) (List.mem_append_right _ (List.mem_append_right _ (xV hb e)))).1,fun b hb=>?_,w7⟩;obtain⟨o,e,d⟩:=T.obj _ _ Sd b hb;exact(I7.pin (b,o) (List.mem_append_right _ (List.mem_append_right _ (xV hb e)))).2.1
 cases f with
 |next=>obtain⟨σ7,H7,I7,n7⟩:=q7;exact again I7 n7
 |cont=>obtain⟨σ7,H7,I7,n7⟩:=q7;exact again I7 n7
 |brk=>obtain⟨σ7,H7,I7,q7⟩:=q7;exact⟨σ7,H7,I7.zL,q7⟩
 |ret v=>obtain⟨x7,σ7,H7,I7,r7,q7⟩:=q7;exact⟨x7,σ7,H7,I7.zL,r7,q7⟩
end
theorem Kr{K:Frag}{a:Addr}{xs:List V}{g:TG}{tb:TS}{D:Ends}{σ:St}{H:Hp}(Pv:Nat->St->Hp->Prop)(h0:Pv 0 σ H)(hl:∀i σ H,i<=xs.length->Pv i σ H->aG K H a xs)
  (hs:∀i x σ H,xs[i]? =some x->Pv i σ H->g x σ H fun σ2 H2=>tb {D with nx:=Pv (i+1),ct:=Pv (i+1),bk:=D.nx} σ2 H2)(hd:∀σ H,Pv xs.length σ H->D.nx σ H):
  ∃W:Nat->Nat->St->Hp->Prop,(∃m,W 0 m σ H)/\∀i m σ H,W i m σ H->
   ((Sb K a).stop i H/\D.nx σ H)∨((Sb K a).go i H/\∃N:St->Hp->Prop,(∀σ' H',N σ' H'->∃m',m'<m/\W (i+1) m' σ' H')/\∀x H',(Sb K a).Mw i H x H'->g x σ H' fun σ2 H2=>tb {D with nx:=N,ct:=N,bk:=D.nx} σ2 H2):=by
 refine⟨fun i m σ H=>m=xs.length - i/\i<=xs.length/\Pv i σ H,⟨xs.length,by simp,Nat.zero_le _,h0⟩,?_⟩;rintro i m σ H ⟨rfl,hi,p⟩;have q:=hl i σ H hi p;by_cases hlt:i<xs.length
 ·refine .inr ⟨⟨xs,xs[i],q,by simp[hlt]⟩,Pv (i+1),fun σ' H' p'=>⟨xs.length - (i+1),by omega,rfl,hlt,p'⟩,fun x H' y=>?_⟩;obtain⟨e,y⟩:=y;subst e;exact hs i x σ _ (y xs q) p
 have e:i=xs.length:=by omega
 subst e;exact .inl ⟨⟨xs,q,Nat.le_refl _⟩,hd σ H p⟩
theorem Ul{K:Frag}{a:Addr}{xs:List V}{g:TG}{tb:TS}{D:Ends}{σ:St}{H:Hp}(Pv:Nat->St->Hp->Prop)(h0:Pv 0 σ H)(hl:∀i σ H,i<=xs.length->Pv i σ H->ik K H a xs)
  (hs:∀i x σ H,xs[i]? =some x->Pv i σ H->g x σ H fun σ2 H2=>tb {D with nx:=Pv (i+1),ct:=Pv (i+1),bk:=D.nx} σ2 H2)(hd:∀σ H,Pv xs.length σ H->D.nx σ H):
  ∃W:Nat->Nat->St->Hp->Prop,(∃m,W 0 m σ H)/\∀i m σ H,W i m σ H->
   ((Uj K a).stop i H/\D.nx σ H)∨((Uj K a).go i H/\∃N:St->Hp->Prop,(∀σ' H',N σ' H'->∃m',m'<m/\W (i+1) m' σ' H')/\∀x H',(Uj K a).Mw i H x H'->g x σ H' fun σ2 H2=>tb {D with nx:=N,ct:=N,bk:=D.nx} σ2 H2):=by
 refine⟨fun i m σ H=>m=xs.length - i/\i<=xs.length/\Pv i σ H,⟨xs.length,by simp,Nat.zero_le _,h0⟩,?_⟩;rintro i m σ H ⟨rfl,hi,p⟩;have q:=hl i σ H hi p;by_cases hlt:i<xs.length
 ·refine .inr ⟨⟨xs,xs[i],q,by simp[hlt]⟩,Pv (i+1),fun σ' H' p'=>⟨xs.length - (i+1),by omega,rfl,hlt,p'⟩,fun x H' y=>?_⟩;obtain⟨e,y⟩:=y;subst e;exact hs i x σ _ (y xs q) p
 have e:i=xs.length:=by omega
 subst e;exact .inl ⟨⟨xs,q,Nat.le_refl _⟩,hd σ H p⟩
theorem Hr{lo:Int}{n:Nat}{g:TG}{tb:TS}{D:Ends}{σ:St}{H:Hp}(Pv:Nat->St->Hp->Prop)(h0:Pv 0 σ H)
  (hs:∀i σ H,i<n->Pv i σ H->g (.int (lo+i)) σ H fun σ2 H2=>tb {D with nx:=Pv (i+1),ct:=Pv (i+1),bk:=D.nx} σ2 H2)(hd:∀σ H,Pv n σ H->D.nx σ H):
  ∃W:Nat->Nat->St->Hp->Prop,(∃m,W 0 m σ H)/\∀i m σ H,W i m σ H->
   ((Mx lo n).stop i H/\D.nx σ H)∨((Mx lo n).go i H/\∃N:St->Hp->Prop,(∀σ' H',N σ' H'->∃m',m'<m/\W (i+1) m' σ' H')/\∀x H',(Mx lo n).Mw i H x H'->g x σ H' fun σ2 H2=>tb {D with nx:=N,ct:=N,bk:=D.nx} σ2 H2):=by
 refine⟨fun i m σ H=>m=n - i/\i<=n/\Pv i σ H,⟨n,by simp,Nat.zero_le _,h0⟩,?_⟩;rintro i m σ H ⟨rfl,hi,p⟩;by_cases hlt:i<n
 ·refine .inr ⟨hlt,Pv (i+1),fun σ' H' p'=>⟨n - (i+1),by omega,rfl,hlt,p'⟩,fun x H' y=>?_⟩;obtain⟨e,y⟩:=y;subst e y;exact hs i σ _ hlt p
 have e:i=n:=by omega
 subst e;exact .inl ⟨Nat.le_refl _,hd σ H p⟩
theorem u5{c:TT}{tb:TS}{D:Ends}{σ:St}{H:Hp}(Pv:St->Hp->Prop)(μ:St->Hp->Nat)(h0:Pv σ H)
  (hs:∀σ H,Pv σ H->c σ H fun b H1=>if b=true then tb {D with nx:=fun σ' H'=>Pv σ' H'/\μ σ' H'<μ σ H,ct:=fun σ' H'=>Pv σ' H'/\μ σ' H'<μ σ H,bk:=D.nx} σ H1 else D.nx σ H1)
  (mono:∀σ H Q Q',(∀b H1,Q b H1->Q' b H1)->c σ H Q->c σ H Q'):Ru c tb D σ H:=by
 refine⟨fun m σ H=>m=μ σ H/\Pv σ H,⟨_,rfl,h0⟩,?_⟩;rintro m σ H ⟨rfl,p⟩;refine mono σ H _ _ (fun b H1 q=>?_) (hs σ H p);cases b with
 |true=>exact⟨_,fun σ' H' ⟨p',l⟩=>⟨_,l,rfl,p'⟩,q⟩
 |false=>exact q
abbrev R2:=V->V->Hp->VK->Prop
def mU(X:Cx)(f:Value->Value->Sem Value)(r:R2):Prop:=
 ∀(au:List (Addr×Obj)) (s:Shared) (σ:St) (H:Hp) (x y:V) (v u:Value) (Q:VK),Inv X au σ H s->RelV x v->RelV y u->r x y H Q->
  wpAny (model X.prog X.w) X.A (f v u) (EP X au σ Q) X.xe s
def vZ(X:Cx)(f:Value)(r:List V->Hp->VK->Prop):Prop:=
 ∀(au:List (Addr×Obj)) (s:Shared) (σ:St) (H:Hp) (xs:List V) (us:List Value) (Q:VK),Inv X au σ H s->Vals xs us->r xs H Q->
  wpAny (model X.prog X.w) X.A (call f us) (EP X au σ Q) X.xe s
def c6(r:R2)(ta tb:TE):TE:=fun σ H Q=>ta σ H fun x H1=>tb σ H1 fun y H2=>r x y H2 Q
def rI(C:Int->Int->Prop)(g:Int->Int->V):R2:=fun x y H Q=>∃i j,x= .int i/\y= .int j/\C i j/\Q (g i j) H
def cX(g:Int->Int->V):R2:=fun x y H Q=>∃i j,x= .int i/\y= .int j/\Q (g i j) H
section
variable{X:Cx}{a b c:Expr}{ta tb tc:TE}{pos:Pos}
theorem Um(ha:PE X a ta)(hb:PE X b tb){au:List (Addr×Obj)}{s:Shared}{σ:St}{H:Hp}{R:V->V->Hp->Prop}(I:Inv X au σ H s)
  (h:ta σ H fun x H1=>tb σ H1 fun y H2=>R x y H2){Q:Value->Shared->Prop}{f:Value->Value->Sem Value}
  (hf:∀v u s2 x y H2,Inv X au σ H2 s2->RelV x v->RelV y u->R x y H2->wpAny (model X.prog X.w) X.A (f v u) Q X.xe s2):
  wpAny (model X.prog X.w) X.A (eval a X.env) (fun v s₁=>wpAny (model X.prog X.w) X.A (eval b X.env) (fun u s₂=>wpAny (model X.prog X.w) X.A (f v u) Q X.xe s₂) X.xe s₁) X.xe s:=by
 refine c8 (ha au s σ H _ I h) fun v s1 ⟨x,H1,I1,r1,q1⟩=>?_;refine c8 (hb au s1 σ H1 _ I1 q1) fun u s2 ⟨y,H2,I2,r2,q2⟩=>?_;exact hf v u s2 x y H2 I2 r1 r2 q2
theorem aO{op:Operator}{r:R2}(ho:mU X (binaryOp op) r)(ha:PE X a ta)(hb:PE X b tb):PE X (.BinOp a op b pos) (c6 r ta tb):=by
 intro au s σ H Q I h;exact wpAny_BinOp (Um ha hb I h fun v u s2 x y H2 I2 rx ry q=>ho au s2 σ H2 x y v u Q I2 rx ry q)
theorem Uo{f:Value->Value->Sem Value}{C:Int->Int->Prop}{g:Int->Int->Int}
  (rule:∀(i j:Int) (t u:Tok) (s:Shared) (Q:Value->Shared->Prop) (E:Value->Shared->Prop),C i j->Q (.int (g i j) s.toks) {s with toks:=s.toks+1}->wpAny (model X.prog X.w) X.A (f (.int i t) (.int j u)) Q E s):
  mU X f (rI C fun i j=>.int (g i j)):=by
 intro au s σ H x y v u Q I rx ry h;obtain⟨i,j,rfl,rfl,hc,q⟩:=h;obtain⟨t,rfl⟩:=rx;obtain⟨t',rfl⟩:=ry;exact rule i j t t' s _ _ hc ⟨.int (g i j),H,I.tok _,⟨_,rfl⟩,q⟩
theorem YO{f:Value->Value->Sem Value}{g:Int->Int->Int}
  (rule:∀(i j:Int) (t u:Tok) (s:Shared) (Q:Value->Shared->Prop) (E:Value->Shared->Prop),Q (.int (g i j) s.toks) {s with toks:=s.toks+1}->wpAny (model X.prog X.w) X.A (f (.int i t) (.int j u)) Q E s):
  mU X f (cX fun i j=>.int (g i j)):=by
 intro au s σ H x y v u Q I rx ry h;obtain⟨i,j,rfl,rfl,q⟩:=h;obtain⟨t,rfl⟩:=rx;obtain⟨t',rfl⟩:=ry;exact rule i j t t' s _ _ ⟨.int (g i j),H,I.tok _,⟨_,rfl⟩,q⟩
theorem Rv{f:Value->Value->Sem Value}{g:Int->Int->Bool}
  (rule:∀(i j:Int) (t u:Tok) (s:Shared) (Q:Value->Shared->Prop) (E:Value->Shared->Prop),Q (.bool (g i j)) s->wpAny (model X.prog X.w) X.A (f (.int i t) (.int j u)) Q E s):
  mU X f (cX fun i j=>.bl (g i j)):=by
 intro au s σ H x y v u Q I rx ry h;obtain⟨i,j,rfl,rfl,q⟩:=h;obtain⟨t,rfl⟩:=rx;obtain⟨t',rfl⟩:=ry;exact rule i j t t' s _ _ ⟨.bl (g i j),H,I,rfl,q⟩
def aa9(i j:Int):Prop:=0<j/\j<1073741824
def Up(i j:Int):Prop:=(-(2 ^ 64)<i/\i<2 ^ 64)∨(-(2 ^ 64)<j/\j<2 ^ 64)
theorem Up.ok{i j:Int}(h:Up i j):IntMulOk i j:=by
 rcases h with⟨h1,h2⟩|⟨h1,h2⟩
 ·exact .of_left (intBits_le_64 h1 h2)
 exact .of_right (intBits_le_64 h1 h2)
theorem dh:mU X (binaryOp .Add) (cX fun i j=>.int (i+j)):=YO fun _ _ _ _ _ _ _ q=>add_int q
theorem dU:mU X (binaryOp .Sub) (cX fun i j=>.int (i - j)):=YO fun _ _ _ _ _ _ _ q=>sub_int q
theorem cM:mU X (binaryOp .Mult) (rI Up fun i j=>.int (i*j)):=Uo fun _ _ _ _ _ _ _ hc q=>mul_int q hc.ok
theorem Hs:mU X (binaryOp .FloorDiv) (rI aa9 fun i j=>.int (i/j)):=Uo fun i j _ _ _ _ _ hc q=>by
 have h1:(0:Int)<j:=hc.1;have h2:j<1073741824:=hc.2;exact floordiv_int (by omega) (by rw[Int.fdiv_eq_ediv_of_nonneg i (by omega)];exact q) (.inl (PyProof.noPylong_small (by omega)))
theorem Rw:mU X (binaryOp .Mod) (rI (fun _ j=>0<j) fun i j=>.int (i%j)):=Uo fun i j _ _ _ _ _ hc q=>by
 have h1:(0:Int)<j:=hc;exact mod_int' (by omega) (by rw[Int.fmod_eq_emod_of_nonneg i (by omega)];exact q)
end
def Uq:V->V->Bool
 | .e7,.e7=>true| .e7,.int _=>true| .int _,.e7=>true| .e7,.bl _=>true| .bl _,.e7=>true| .e7,.str _=>true| .str _,.e7=>true
 | .int _,.int _=>true| .bl _,.bl _=>true| .str _,.str _=>true| .Ac _,.Ac _=>true
 | .int _,.str _=>true| .str _,.int _=>true| .bl _,.str _=>true| .str _,.bl _=>true
 |_,_=>false
def dk:R2:=fun x y H Q=>Uq x y=true/\Q (.bl (decide (x=y))) H
def dm:R2:=fun x y H Q=>Uq x y=true/\Q (.bl (!decide (x=y))) H
theorem MB{i j:Int}:decide (V.int i=V.int j)=(i==j):=by
 rw[Bool.eq_iff_iff];simp
theorem Rx{i j:Bool}:decide (V.bl i=V.bl j)=(i==j):=by
 rw[Bool.eq_iff_iff];simp
theorem MC{i j:Str}:decide (V.str i=V.str j)=(i==j):=by
 rw[Bool.eq_iff_iff];simp
theorem MD{i j:Array UInt8}:decide (V.Ac i=V.Ac j)=(i.toList==j.toList):=by
 rw[Bool.eq_iff_iff];cases i;cases j;simp
section
variable{X:Cx}{a b c:Expr}{ta tb tc:TE}{pos:Pos}
theorem dW{au:List (Addr×Obj)}{σ:St}{H:Hp}{s:Shared}{Q:VK}{k k':Bool}(I:Inv X au σ H s)(q:Q (.bl k) H)(e:k=k'):EP X au σ Q (.bool k') s:=by
 subst e;exact⟨.bl k,H,I,rfl,q⟩
theorem iE:mU X (compareOp .Eq) dk:=by
 intro au s σ H x y v u Q I rx ry h;obtain⟨hs,q⟩:=h;cases x with
 |e7=>
  cases rx;cases y with
  |e7=>cases ry;exact PySem.EqNone.eq_none_none (dW I q (by simp))
  |bl j=>cases ry;exact PySem.EqNone.eq_none_bool (dW I q (by simp))
  |int j=>obtain⟨t',rfl⟩:=ry;exact PySem.EqNone.eq_none_int (dW I q (by simp))
  |str j=>obtain⟨t',rfl⟩:=ry;exact PySem.EqNone.eq_none_str (dW I q (by simp))
  |_=>exact absurd (show false=true from hs) Bool.false_ne_true
 |bl i=>
  cases rx;cases y with
  |e7=>cases ry;exact PySem.EqNone.eq_bool_none (dW I q (by simp))
  |bl j=>cases ry;exact eq_bool (dW I q Rx)
  |str j=>obtain⟨t',rfl⟩:=ry;exact PySem.EqMixed.eq_bool_str (dW I q (by simp))
  |_=>exact absurd (show false=true from hs) Bool.false_ne_true
 |int i=>
  obtain⟨t,rfl⟩:=rx;cases y with
  |e7=>cases ry;exact PySem.EqNone.eq_int_none (dW I q (by simp))
  |int j=>obtain⟨t',rfl⟩:=ry;exact eq_int (dW I q MB)
  |str j=>obtain⟨t',rfl⟩:=ry;exact PySem.EqMixed.eq_int_str (dW I q (by simp))
  |_=>exact absurd (show false=true from hs) Bool.false_ne_true
 |str i=>
  obtain⟨t,rfl⟩:=rx;cases y with
  |e7=>cases ry;exact PySem.EqNone.eq_str_none (dW I q (by simp))
  |bl j=>cases ry;exact PySem.EqMixed.eq_str_bool (dW I q (by simp))
  |int j=>obtain⟨t',rfl⟩:=ry;exact PySem.EqMixed.eq_str_int (dW I q (by simp))
  |str j=>obtain⟨t',rfl⟩:=ry;exact eq_str (dW I q MC)
  |_=>exact absurd (show false=true from hs) Bool.false_ne_true
 |Ac i=>
  obtain⟨t,rfl⟩:=rx;cases y with
  |Ac j=>obtain⟨t',rfl⟩:=ry;exact PySem.W.eq_bytes (dW I q MD)
  |_=>exact absurd (show false=true from hs) Bool.false_ne_true
 |_=>cases y <;> exact absurd (show false=true from hs) Bool.false_ne_true
theorem Ur:mU X (compareOp .NotEq) dm:=by
 intro au s σ H x y v u Q I rx ry h;obtain⟨hs,q⟩:=h;cases x with
 |e7=>
  cases rx;cases y with
  |e7=>cases ry;exact PySem.EqNone.ne_none_none (dW I q (by simp))
  |bl j=>cases ry;exact PySem.EqNone.ne_none_bool (dW I q (by simp))
  |int j=>obtain⟨t',rfl⟩:=ry;exact PySem.EqNone.ne_none_int (dW I q (by simp))
  |str j=>obtain⟨t',rfl⟩:=ry;exact PySem.EqNone.ne_none_str (dW I q (by simp))
  |_=>exact absurd (show false=true from hs) Bool.false_ne_true
 |bl i=>
  cases rx;cases y with
  |e7=>cases ry;exact PySem.EqNone.ne_bool_none (dW I q (by simp))
  |bl j=>cases ry;exact ne_bool (dW I q (congrArg not Rx))
  |str j=>obtain⟨t',rfl⟩:=ry;exact PySem.EqMixed.ne_bool_str (dW I q (by simp))
  |_=>exact absurd (show false=true from hs) Bool.false_ne_true
 |int i=>
  obtain⟨t,rfl⟩:=rx;cases y with
  |e7=>cases ry;exact PySem.EqNone.ne_int_none (dW I q (by simp))
  |int j=>obtain⟨t',rfl⟩:=ry;exact ne_int (dW I q (congrArg not MB))
  |str j=>obtain⟨t',rfl⟩:=ry;exact PySem.EqMixed.ne_int_str (dW I q (by simp))
  |_=>exact absurd (show false=true from hs) Bool.false_ne_true
 |str i=>
  obtain⟨t,rfl⟩:=rx;cases y with
  |e7=>cases ry;exact PySem.EqNone.ne_str_none (dW I q (by simp))
  |bl j=>cases ry;exact PySem.EqMixed.ne_str_bool (dW I q (by simp))
  |int j=>obtain⟨t',rfl⟩:=ry;exact PySem.EqMixed.ne_str_int (dW I q (by simp))
  |str j=>obtain⟨t',rfl⟩:=ry;exact ne_str (dW I q (congrArg not MC))
  |_=>exact absurd (show false=true from hs) Bool.false_ne_true
 |Ac i=>
  obtain⟨t,rfl⟩:=rx;cases y with
  |Ac j=>obtain⟨t',rfl⟩:=ry;exact PySem.W.ne_bytes (dW I q (congrArg not MD))
  |_=>exact absurd (show false=true from hs) Bool.false_ne_true
 |_=>cases y <;> exact absurd (show false=true from hs) Bool.false_ne_true
theorem xW:mU X (compareOp .Lt) (cX fun i j=>.bl (decide (i<j))):=Rv fun _ _ _ _ _ _ _ q=>lt_int q
theorem uz:mU X (compareOp .LtE) (cX fun i j=>.bl (decide (i<=j))):=Rv fun _ _ _ _ _ _ _ q=>le_int q
theorem fR:mU X (compareOp .Gt) (cX fun i j=>.bl (decide (j<i))):=Rv fun _ _ _ _ _ _ _ q=>gt_int q
theorem OA:mU X (compareOp .GtE) (cX fun i j=>.bl (decide (j<=i))):=Rv fun _ _ _ _ _ _ _ q=>ge_int q
theorem G4:mU X (compareOp .Is) (fun x y H Q=>y= .e7/\Q (.bl (decide (x= .e7))) H):=by
 intro au s σ H x y v u Q I rx ry h;obtain⟨rfl,q⟩:=h;cases ry;refine is_none_gen (dW I q ?_);cases x <;> first
  |(cases rx;rfl)
  |(obtain⟨t,rfl⟩:=rx;rfl)
theorem cZ:mU X (compareOp .IsNot) (fun x y H Q=>y= .e7/\Q (.bl (!decide (x= .e7))) H):=by
 intro au s σ H x y v u Q I rx ry h;obtain⟨rfl,q⟩:=h;cases ry;refine isnot_none_gen (dW I q ?_);cases x <;> first
  |(cases rx;rfl)
  |(obtain⟨t,rfl⟩:=rx;rfl)
theorem aV(b:Expr){op:CmpOp}(h:op≠ .In:=by decide)(h2:op≠ .NotIn:=by decide):behindInMarks op b=false:=by
 have e1:(op==CmpOp.In)=false:=by cases op <;> first|rfl|exact absurd rfl h
 have e2:(op==CmpOp.NotIn)=false:=by cases op <;> first|rfl|exact absurd rfl h2
 cases b <;> simp[behindInMarks,e1,e2]
theorem rE{op:CmpOp}{r:R2}(ho:mU X (compareOp op) r)(ha:PE X a ta)(hb:PE X b tb)(hm:behindInMarks op b=false):PE X (.Compare a [op] [b] pos) (c6 r ta tb):=by
 intro au s σ H Q I h;exact wpAny_Compare1 (Um ha hb I h fun v u s2 x y H2 I2 rx ry q=>ho au s2 σ H2 x y v u Q I2 rx ry q) hm
def br(t:TE):TT:=fun σ H Q=>t σ H fun x H'=>∃k,x= .bl k/\Q k H'
theorem aP{op:CmpOp}{r:R2}(ho:mU X (compareOp op) r)(ha:PE X a ta)(hb:PE X b tb)(hm:behindInMarks op b=false):PT X (.Compare a [op] [b] pos) (br (c6 r ta tb)):=by
 intro au s σ H Q I h;refine wpAny_isTrue_Compare1 (c8 (ha au s σ H _ I h) fun v s1 ⟨x,H1,I1,r1,q1⟩=>c8 (hb au s1 σ H1 _ I1 q1) fun u s2 ⟨y,H2,I2,r2,q2⟩=>
  c8 (ho au s2 σ H2 x y v u _ I2 r1 r2 q2) fun c s3 ⟨z,H3,I3,r3,k,e,q3⟩=>?_) hm
 subst e;cases r3;exact wpAny_truthy_bool ⟨H3,I3,q3⟩
def aZ(r r':R2)(ta tb tc:TE):TE:=fun σ H Q=>ta σ H fun x H1=>tb σ H1 fun y H2=>r x y H2 fun z H3=>∃k,z= .bl k/\
 (if k=true then tc σ H3 fun w' H4=>r' y w' H4 Q else Q (.bl false) H3)
theorem Se{op OB:CmpOp}{r r':R2}(ho:mU X (compareOp op) r)(Ad:mU X (compareOp OB) r')(ha:PE X a ta)(hb:PE X b tb)(hc:PE X c tc)
  (hm:lastMarks [op,OB] [b,c]=false:=by with_unfolding_all rfl):PE X (.Compare a [op,OB] [b,c] pos) (aZ r r' ta tb tc):=by
 intro au s σ H Q I h;refine Compare_chain (c8 (ha au s σ H _ I h) fun v s1 ⟨x,H1,I1,r1,q1⟩=>chain_link (c8 (hb au s1 σ H1 _ I1 q1) fun u s2 ⟨y,H2,I2,r2,q2⟩=>
  c8 (ho au s2 σ H2 x y v u _ I2 r1 r2 q2) fun d s3 ⟨z,H3,I3,r3,k,e,q3⟩=>?_)) hm
 subst e;cases r3;refine wpAny_truthy_bool ?_;cases k with
 |false=>exact ite_ff ⟨.bl false,H3,I3,rfl,q3⟩
 |true=>exact ite_tt (chain_last (c8 (hc au s3 σ H3 _ I3 q3) fun w' s4 ⟨z',H4,I4,r4,q4⟩=>Ad au s4 σ H4 y z' u w' Q I4 r2 r4 q4))
theorem zM{op OB:CmpOp}{r r':R2}(ho:mU X (compareOp op) r)(Ad:mU X (compareOp OB) r')(ha:PE X a ta)(hb:PE X b tb)(hc:PE X c tc)
  (hm:lastMarks [op,OB] [b,c]=false:=by with_unfolding_all rfl):PT X (.Compare a [op,OB] [b,c] pos) (br (aZ r r' ta tb tc)):=by
 intro au s σ H Q I h;refine isTrue_chain (c8 (ha au s σ H _ I h) fun v s1 ⟨x,H1,I1,r1,q1⟩=>test_link (c8 (hb au s1 σ H1 _ I1 q1) fun u s2 ⟨y,H2,I2,r2,q2⟩=>
  c8 (ho au s2 σ H2 x y v u _ I2 r1 r2 q2) fun d s3 ⟨z,H3,I3,r3,k,e,q3⟩=>?_)) hm
 subst e;cases r3;refine wpAny_truthy_bool ?_;cases k with
 |false=>
  obtain⟨k',e',q'⟩:=q3;cases e';exact ite_ff ⟨H3,I3,q'⟩
 |true=>
  refine ite_tt (test_last (c8 (hc au s3 σ H3 _ I3 q3) fun w' s4 ⟨z',H4,I4,r4,q4⟩=>c8 (Ad au s4 σ H4 y z' u w' _ I4 r2 r4 q4) fun d' s5 ⟨z2,H5,I5,r5,k2,e2,q5⟩=>?_));subst e2;cases r5;exact wpAny_truthy_bool ⟨H5,I5,q5⟩
theorem Cq:(sizeLine:Nat)<2 ^ 63:=by rw[sizeLine_eq];decide
theorem vals1{x:V}{us:List Value}(r:Vals [x] us):∃u,us=[u]/\RelV x u:=by
 cases r with
 |cons r1 r2=>cases r2;exact⟨_,rfl,r1⟩
theorem vals2{x y:V}{us:List Value}(r:Vals [x,y] us):∃u w',us=[u,w']/\RelV x u/\RelV y w':=by
 cases r with
 |cons r1 r2=>
  cases r2 with
  |cons r3 r4=>cases r4;exact⟨_,_,rfl,r1,r3⟩
theorem Ht(hc:X.calm=true):vZ X (.builtin "min") (fun xs H Q=>∃i j,xs=[.int i,.int j]/\Q (.int (if j<i then j else i)) H):=by
 intro au s σ H xs us Q I r h;obtain⟨i,j,rfl,q⟩:=h;obtain⟨u,w',rfl,⟨t,rfl⟩,⟨t',rfl⟩⟩:=vals2 r;refine min_two_ints (I.ok.hd hc) fun h' tk k=>⟨_,H,I.kept k,?_,q⟩;by_cases hj:j<i
 ·rw[if_pos hj,if_pos hj];exact⟨_,rfl⟩
 rw[if_neg hj,if_neg hj];exact⟨_,rfl⟩
end
structure Hu(h:Heap)(x dx C:Addr)(mA:Str->Option Value):Prop where
 obj:h.get? x=some (instObj C dx)
 ns:h.Ns1 dx mA
 ne:dx≠x
theorem OC{h:Heap}{dx:Addr}{mA:Str->Option Value}(n:h.Ns1 dx mA):∃od,h.get? dx=some od/\∀name,lookIn name od=some (mA name):=by
 obtain⟨o,es,ep,ho,hd,hk,_,hm⟩:=n;refine⟨o,ho,fun name=>?_⟩;have e:=hm name;unfold nsFind findBy at e;rw[<- Array.find?_toList]at e;unfold lookIn;rw[hd];dsimp only;split
 ·rename_i y q;rw[q]at e;exact congrArg some e
 rename_i q;rw[q]at e;have a:es.toList.any (·.refKey)=false:=by
  rw[List.any_eq_false];intro y hy;obtain⟨z,t,aba⟩:=hk y (Array.mem_toList_iff.mp hy);simp[DictEntry.refKey,aba]
 have a':¬es.toList.any (·.refKey)=true:=by rw[a];exact Bool.false_ne_true
 rw[if_neg a'];exact congrArg some e
theorem Hu.look{h:Heap}{x dx C:Addr}{mA:Str->Option Value}(I:Hu h x dx C mA):∃od,PySem.W.InstAt h x (instObj C dx) C (some od)/\∀name,lookIn name od=some (mA name):=
 let⟨od,ho,hl⟩:=OC I.ns
 ⟨od,⟨I.obj,rfl,rfl,ho⟩,hl⟩
section
variable{prog:Program}{w:World}{A:Around}{E:Value->Shared->Prop}{s:Shared}{K:Frag}{x dx C f:Addr}{mA:Str->Option Value}{name:Str}{v:Value}
theorem get_map{expr:Bool}{Q:Value->Shared->Prop}(X:K.In s.heap)(I:Hu s.heap x dx C mA)(hg:plainGet K C name=true)(hh:hasDictIn K C=true)
  (ha:findIn K (.ref C) name=some none)(hv:mA name=some v)(Wn:handedIn v=true)(h:Q v {s with toks:=s.toks+1}):
  wpAny (model prog w) A (getAttr (.ref x) name expr) Q E s:=by
 obtain⟨od,J,hl⟩:=I.look;exact PySem.W.get_value X J (plainGet_of hg).1 (PySem.W.findObj_own hh ha rfl (by rw[hl,hv])) Wn h
theorem Sf{pl:Sem Bool}{Q:Value×List Value->Shared->Prop}(X:K.In s.heap)(I:Hu s.heap x dx C mA)(hg:plainGet K C name=true)
  (hf:findIn K (.ref C) name=some (some (.ref f)))(ht:isFn K (.ref f)=true)(hv:mA name=none)(h:Q (.ref f,[.ref x]) s):
  wpAny (model prog w) A (getMethod (.ref x) name pl) Q E s:=by
 obtain⟨od,J,hl⟩:=I.look;exact PySem.W.method_fn X J (plainGet_of hg).1 (plainGet_of hg).2 hf (beq_iff_eq.mp ht) (by show(lookIn name od).map (·.isSome)=some false;rw[hl,hv];rfl) h
theorem Us{ns:List Str}{Q:Unit->Shared->Prop}(X:K.In s.heap)(I:Hu s.heap x dx C mA)
  (hs:findIn K (.ref C) "__setattr__"=some (some (.builtin "object.__setattr__")))(hp:plainOver K C=true)(ht:takerIn K C name=some none)(hh:hasDictIn K C=true)
  (hw:PySem.Within mA ns)(hsz:ns.length<=sizeLine)
  (h:∀h',Hu h' x dx C (fun y=>if y=name then some v else mA y)->Heap.SameBut dx s.heap h'->Q () {s with heap:=h',toks:=s.toks+2}):
  wpAny (model prog w) A (setAttr (.ref x) name v) Q E s:=by
 obtain⟨od,J,hl⟩:=I.look;refine PySem.W.set_plain X J hs (PySem.W.osa_open (s:={s with toks:=s.toks+1}) (r:=none) X J hp ht fun b=>?_);obtain⟨cd,hc,Y8⟩:=PySem.W.any_some hh;have hx:s.heap.get? x=some ⟨.ref C,some dx,.plain,#[]⟩:=I.obj;refine wpAny_bind (wpAny_pure (wpAny_bind (wpAny_bind (wpAny_loadPart hx (wpAny_bind (PySem.W.Looks.here (s:={s with toks:=s.toks+1}) (PySem.W.looks_clsIn X hc) ?_))))));rw[Y8];refine wpAny_pure (a:=some dx) (wpAny_bind (wpAny_pure (wpAny_bind ?_)));refine wpAny_nsSet1 (s:={s with toks:=s.toks+1}) I.ns fun h' Ut Oy=>?_;obtain⟨oD,esD,epD,hoD,hdD,hcD⟩:=Ut.count (PySem.Within.cons name v hw);refine wpAny_bind (wpAny_lookBehind hoD (by rw[hdD];exact pastItsLine_dict (Nat.le_trans hcD (by rw[List.length_cons];omega))) ?_);exact wpAny_pure (h _ ⟨(Oy.2 _ (Ne.symm I.ne)).trans I.obj,Ut,I.ne⟩ Oy)
theorem Sg{R:Result->Shared->Prop}{vs:List Value}{kw:List (Str×Value)}(X:K.In s.heap)(hm:makesIn K C=true)
  (hi:findIn K (.ref C) "__init__"=some (some (.ref f)))(hf:PySem.W.typeIn K (.ref f)=some (.type "function"))
  (h:codeAny (model prog w) (A.under (.builtin "type.__call__" ⟨.ref C::vs,kw⟩)) (.call (.ref f) ⟨.ref (s.heap.objs.size+1)::vs,kw⟩) (PySem.W.InitBack (s.heap.objs.size+1) R)
   {s with heap:=(s.heap.push emptyDict).push (instObj C s.heap.objs.size)}):
  codeAny (model prog w) A (.call (.ref C) ⟨vs,kw⟩) R s:=by
 obtain⟨hh,g,d,t,os⟩:=s;exact PySem.W.make_core (PySem.W.makes_of X hm) (PySem.W.looks_findIn X hi) (fun self=>PySem.W.bind_fn X self hf) (.inl rfl) h
end
def fD(f:Str)(v:V):List (Str×V)->List (Str×V)
 |[]=>[(f,v)]
 |(g,x)::r=>if g=f then(g,v)::r else(g,x)::fD f v r
theorem dI(f g:Str)(v:V):∀fs:List (Str×V),(fD f v fs).lookup g=if g=f then some v else fs.lookup g
 |[]=>by
  show List.lookup g [(f,v)]=_;by_cases h:g=f
  ·have hb:(g==f)=true:=beq_iff_eq.mpr h;simp only[List.lookup,hb,if_pos h]
  have hb:(g==f)=false:=beq_eq_false_iff_ne.mpr h;simp only[List.lookup,hb,if_neg h]
 |(k,x)::r=>by
  have ih:=dI f g v r;rw[show fD f v ((k,x)::r)=(if k=f then(k,v)::r else(k,x)::fD f v r)from rfl];by_cases hk:k=f
  ·rw[if_pos hk];by_cases h:g=k
   ·have hb:(g==k)=true:=beq_iff_eq.mpr h;simp only[List.lookup,hb,if_pos (h.trans hk)]
   have hb:(g==k)=false:=beq_eq_false_iff_ne.mpr h;simp only[List.lookup,hb,if_neg (fun e:g=f=>h (e.trans hk.symm))]
  rw[if_neg hk];by_cases h:g=k
  ·have hb:(g==k)=true:=beq_iff_eq.mpr h;simp only[List.lookup,hb,if_neg (fun e:g=f=>hk (h.symm.trans e))]
  have hb:(g==k)=false:=beq_eq_false_iff_ne.mpr h;simp only[List.lookup,hb];exact ih
theorem Bn(f:Str)(v:V):∀fs:List (Str×V),f∈(fD f v fs).map (·.1)/\∀g,g∈fs.map (·.1)->g∈(fD f v fs).map (·.1)
 |[]=>⟨by simp[fD],fun g h=>by simp at h⟩
 |(k,x)::r=>by
  obtain⟨i1,i2⟩:=Bn f v r;rw[show fD f v ((k,x)::r)=(if k=f then(k,v)::r else(k,x)::fD f v r)from rfl];by_cases hk:k=f
  ·rw[if_pos hk];subst hk;exact⟨by simp,fun g h=>by simpa using h⟩
  rw[if_neg hk];refine⟨?_,fun g h=>?_⟩
  ·rw[List.map_cons];exact List.mem_cons_of_mem _ i1
  rw[List.map_cons]at h ⊢;rcases List.mem_cons.mp h with e|e
  ·exact List.mem_cons.mpr (.inl e)
  exact List.mem_cons_of_mem _ (i2 g e)
theorem Cr(f:Str)(v:V):∀fs:List (Str×V),(fD f v fs).length<=fs.length+1
 |[]=>by simp[fD]
 |(k,x)::r=>by
  have ih:=Cr f v r;rw[show fD f v ((k,x)::r)=(if k=f then(k,v)::r else(k,x)::fD f v r)from rfl];by_cases hk:k=f
  ·rw[if_pos hk,List.length_cons,List.length_cons];omega
  rw[if_neg hk,List.length_cons,List.length_cons];omega
theorem AO.some_of{v:V}{o:Option Value}(r:AO (some v) o):∃u,o=some u/\RelV v u:=by
 cases o with
 |none=>exact(show False from r).elim
 |some u=>exact⟨u,rfl,r⟩
theorem AO.none_of{o:Option Value}(r:AO none o):o=none:=by
 cases o with
 |none=>rfl
 |some u=>exact(show False from r).elim
theorem OD{v:V}{u:Value}(r:RelV v u):handedIn u=true:=by
 cases v with
 |e7=>cases (show u=Value.none from r);rfl
 |bl b=>cases (show u=Value.bool b from r);rfl
 |int i=>obtain⟨t,e⟩:=(show ∃t,u=Value.int i t from r);cases e;rfl
 |str x=>obtain⟨t,e⟩:=(show ∃t,u=Value.str x t from r);cases e;rfl
 |Ac b=>obtain⟨t,e⟩:=(show ∃t,u=Value.bytes b t from r);cases e;rfl
 |Wa b=>obtain⟨t,e⟩:=(show ∃t,u=Value.float b t from r);cases e;rfl
 |ref a=>cases (show u=Value.ref a from r);rfl
 |ty n=>cases (show u=Value.type n from r);rfl
section
variable{P:Program}{w:World}{H H':Hp}{h h':Heap}{a C dx:Addr}{fs R5:List (Str×V)}
theorem Hv(cJ:kU P w H h)(e:H a=some (.ins C dx fs)):∃mA,Hu h a dx C mA/\(∀f,AO (fs.lookup f) (mA f))/\PySem.Within mA (fs.map (·.1))/\fs.length<=1000/\H dx=some (.own a):=by
 obtain⟨d,z,ne,ob,mA,n,r,q⟩:=(show gv P w H h a (.ins C dx fs)from cJ a _ e);exact⟨mA,⟨ob,n,ne⟩,r,q,z,d⟩
end
structure Ek(K:Frag)(C:Addr):Prop where
 pg:plainGet K C Str.empty=true
 hd:hasDictIn K C=true
 po:plainOver K C=true
 sa:findIn K (.ref C) "__setattr__"=some (some (.builtin "object.__setattr__"))
theorem Ek.get{K:Frag}{C:Addr}(c:Ek K C)(f:Str):plainGet K C f=true:=c.pg
def mV(K:Frag)(C:Addr)(f:Str):Prop:=findIn K (.ref C) f=some none
theorem mV.Zc{K:Frag}{C:Addr}{f:Str}(n:mV K C f):takerIn K C f=some none:=by
 unfold takerIn;rw[show findIn K (.ref C) f=some none from n];rfl
structure Meth(K:Frag)(C:Addr)(m:Str)(f:Addr):Prop where
 at_:findIn K (.ref C) m=some (some (.ref f))
 fn:isFn K (.ref f)=true
 kp:keepIn K (.ref f)=true
section
variable{X:Cx}{au:List (Addr×Obj)}{σ:St}{H:Hp}{s:Shared}{a C dx:Addr}{fs:List (Str×V)}{f:Str}{v:V}{A:Around}{E:Value->Shared->Prop}
theorem Fx{b:Bool}{Q:Value->Shared->Prop}(I:Inv X au σ H s)(e:H a=some (.ins C dx fs))(c:Ek X.K C)(n:mV X.K C f)(l:fs.lookup f=some v)
  (h:∀u s',Inv X au σ H s'->RelV v u->Q u s'):wpAny (model X.prog X.w) A (getAttr (.ref a) f b) Q E s:=by
 obtain⟨mA,O,r,_,_,_⟩:=Hv I.cJ e;obtain⟨u,hu,ru⟩:=AO.some_of (v:=v) (o:=mA f) (by rw[<- l];exact r f);exact get_map I.vW O (c.get f) c.hd n hu (OD ru) (h u _ (I.tok _) ru)
theorem Fy{m:Str}{g:Addr}{pl:Sem Bool}{Q:Value×List Value->Shared->Prop}(I:Inv X au σ H s)(e:H a=some (.ins C dx fs))(c:Ek X.K C)(k:Meth X.K C m g)(l:fs.lookup m=none)
  (h:Q (.ref g,[.ref a]) s):wpAny (model X.prog X.w) A (getMethod (.ref a) m pl) Q E s:=by
 obtain⟨mA,O,r,_,_,_⟩:=Hv I.cJ e;have hn:mA m=none:=AO.none_of (by rw[<- l];exact r m);exact Sf I.vW O (c.get m) k.at_ k.fn hn h
theorem Fz{y:V}{u:Value}{Q:Unit->Shared->Prop}(I:Inv X au σ H s)(e:H a=some (.ins C dx fs))(c:Ek X.K C)(n:mV X.K C f)(hl:fs.length<1000)(ry:RelV y u)
  (h:∀s',Inv X au σ (upd H a (.ins C dx (fD f y fs))) s'->Q () s'):wpAny (model X.prog X.w) A (setAttr (.ref a) f u) Q E s:=by
 obtain⟨mA,O,r,wi,_,ho⟩:=Hv I.cJ e;have hz:(fs.map (·.1)).length<=sizeLine:=by rw[List.length_map,sizeLine_eq];omega
 refine Us I.vW O c.sa c.po n.Zc c.hd wi hz fun h' O' sb=>h _ ?_;have hd:∃o,h'.get? dx=some o:=let⟨o,_,_,e',_⟩:=O'.ns;⟨o,e'⟩;refine I.write (x:=a) (e:=dx) (by rw[e];exact True.intro) (.inr ho) (fun b q hb z=>(sb.2 b hb).trans z) hd ?_;refine⟨by rw[aE O.ne];exact ho,?_,O.ne,O'.obj,_,O'.ns,fun g=>?_,fun g hg=>?_⟩
 ·have:=Cr f y fs;omega
 ·show AO ((fD f y fs).lookup g) (if g=f then some u else mA g);rw[dI];by_cases q:g=f
  ·rw[if_pos q,if_pos q];exact ry
  rw[if_neg q,if_neg q];exact r g
 by_cases q:g=f
 ·rw[q];exact(Bn f y fs).1
 refine(Bn f y fs).2 g (wi g fun z=>hg ?_);show(if g=f then some u else mA g)=none;rw[if_neg q];exact z
theorem Inv.made(I:Inv X au σ H s):Inv X au σ (upd (upd H s.heap.objs.size (.own (s.heap.objs.size+1))) (s.heap.objs.size+1) (.ins C s.heap.objs.size []))
  {s with heap:=(s.heap.push emptyDict).push (instObj C s.heap.objs.size)}:=by
 have e1:(s.heap.push emptyDict).get? s.heap.objs.size=some emptyDict:=Heap.get?_push_size s.heap rfl;have e2:((s.heap.push emptyDict).push (instObj C s.heap.objs.size)).get? (s.heap.objs.size+1)=some (instObj C s.heap.objs.size):=by
  have:=Heap.get?_push_size (s.heap.push emptyDict) (o:=instObj C s.heap.objs.size) rfl
  rwa [Heap.size_push]at this
 have e3:(s.heap.push emptyDict).Ns s.heap.objs.size (fun _=>none):=⟨emptyDict,#[],_,e1,rfl,(fun e he=>absurd he (by simp)),fun _=>rfl⟩;have I1:=I.laid (a:=s.heap.objs.size) (o:=.own (s.heap.objs.size+1)) (h':=s.heap.push emptyDict) (t':=s.toks) (fun b u q=>Heap.get?_push_of_some _ q) (Nat.le_refl _) ⟨_,e1⟩;refine I1.laid (a:=s.heap.objs.size+1) (o:=.ins C s.heap.objs.size []) (t':=s.toks) (fun b u q=>Heap.get?_push_of_some _ q) (Nat.le_of_eq (Heap.size_push _ _)) ?_;have ne:s.heap.objs.size≠s.heap.objs.size+1:=Nat.ne_of_lt (Nat.lt_succ_self _);refine⟨by rw[aE ne,aj],Nat.zero_le _,ne,e2,fun _=>none,(Heap.Ns1.of_empty e3).at fun o q=>Heap.get?_push_of_some _ q,fun _=>True.intro,fun y hy=>absurd rfl hy⟩
theorem Uu{prog:Program}{w:World}{env:Env}{e:Expr}{f:Str}{pos:Pos}{s:Shared}{Q:Value->Shared->Prop}(hb:attributeBase e f env (eval e env)=eval e env)
  (h:wpAny (model prog w) A (eval e env) (fun o s₁=>wpAny (model prog w) A (getAttr o f true) Q E s₁) E s):wpAny (model prog w) A (eval (.Attribute e f pos) env) Q E s:=
 Attribute_any_ h (by rw[arm_eval_Attribute,hb])
end
def xX(K:Frag)(ta:TE)(f:Str):TE:=fun σ H Q=>ta σ H fun x H1=>∃a C dx fs v,x= .ref a/\H1 a=some (.ins C dx fs)/\Ek K C/\mV K C f/\fs.lookup f=some v/\Q v H1
def bY(K:Frag)(ta tv:TE)(f:Str):TS:=fun D σ H=>tv σ H fun y H1=>ta σ H1 fun x H2=>∃a C dx fs,x= .ref a/\H2 a=some (.ins C dx fs)/\Ek K C/\mV K C f/\fs.length<1000/\
 D.nx σ (upd H2 a (.ins C dx (fD f y fs)))
def YQ(X:Cx)(op:Operator)(rd:V->V->Hp->VK->Prop):Prop:=
 ∀(au:List (Addr×Obj)) (s:Shared) (σ:St) (H:Hp) (x y:V) (u v:Value) (Q:VK),Inv X au σ H s->RelV x u->RelV y v->rd x y H Q->wpAny (model X.prog X.w) X.A (inplaceOp op u v) (EP X au σ Q) X.xe s
def aQ(K:Frag)(ta tv:TE)(rd:V->V->Hp->VK->Prop)(f:Str):TS:=fun D σ H=>ta σ H fun x H1=>∃a C dx fs v,x= .ref a/\H1 a=some (.ins C dx fs)/\Ek K C/\mV K C f/\fs.lookup f=some v/\
 tv σ H1 fun y H2=>rd v y H2 fun z H3=>∃Zd R5,H3 a=some (.ins C Zd R5)/\R5.length<1000/\D.nx σ (upd H3 a (.ins C Zd (fD f z R5)))
section
variable{X:Cx}{o e value:Expr}{f:Str}{pos pos' wQ:Pos}{ta tv:TE}
theorem bg(he:PE X e ta)(hb:attributeBase e f X.env (eval e X.env)=eval e X.env):PE X (.Attribute e f pos) (xX X.K ta f):=by
 intro au s σ H Q I h;refine Uu hb (c8 (he au s σ H _ I h) fun u s1 ⟨x,H1,I1,rx,a,C,dx,fs,v,ex,ea,c,n,l,q⟩=>?_);subst ex;obtain rfl:u=Value.ref a:=rx;exact Fx I1 ea c n l fun u' s2 I2 ru=>⟨v,H1,I2,ru,q⟩
theorem qV(ha:PE X o ta)(hv:PE X value tv)(hs:swapsWith value (some (.Attribute o f pos')) pos.line X.env=pure false):PS X (.Assign [.Attribute o f pos'] value pos) (bY X.K ta tv f):=by
 intro au s σ H D I h;refine plainObj_wpAny_Assign_Attribute (c8 (hv au s σ H _ I h) fun u s1 ⟨y,H1,I1,ry,q⟩=>c8 (ha au s1 σ H1 _ I1 q) fun ov s2 ⟨x,H2,I2,rx,a,C,dx,fs,ex,ea,c,n,l,q2⟩=>?_) hs;subst ex;obtain rfl:ov=Value.ref a:=rx;exact Fz I2 ea c n l ry fun s3 I3=>⟨σ,_,I3,q2⟩
theorem OE{op:Operator}{rd:V->V->Hp->VK->Prop}(ha:PE X o ta)(hv:PE X value tv)(hop:YQ X op rd):PS X (.AugAssign (.Attribute o f wQ) op value pos) (aQ X.K ta tv rd f):=by
 intro au s σ H D I h;refine wpAny_AugAssign_AttributeAny (c8 (ha au s σ H _ I h) fun ov s1 ⟨x,H1,I1,rx,a,C,dx,fs,v,ex,ea,c,n,l,q⟩=>?_);subst ex;obtain rfl:ov=Value.ref a:=rx;refine Fx I1 ea c n l fun u s2 I2 ru=>c8 (hv au s2 σ H1 _ I2 q) fun w3 s3 ⟨y,H2,I3,ry,q3⟩=>c8 (hop au s3 σ H2 v y u w3 _ I3 ru ry q3) fun w4 s4 ⟨z,H3,I4,rz,Zd,R5,ea',l',q4⟩=>?_;exact Fz I4 ea' c n l' rz fun s5 I5=>⟨σ,_,I5,q4⟩
def abb:V->V->Hp->VK->Prop:=fun x y H Q=>∃i j,x= .int i/\y= .int j/\Q (.int (i+j)) H
theorem Wo:YQ X .Add abb:=by
 rintro au s σ H x y u v Q I rx ry ⟨i,j,rfl,rfl,q⟩;obtain⟨t,rfl⟩:=(show ∃t,u=Value.int i t from rx);obtain⟨t',rfl⟩:=(show ∃t',v=Value.int j t' from ry);exact PyProof.Rows.iadd_int ⟨.int (i+j),H,I.tok _,⟨_,rfl⟩,q⟩
end
structure gH(k:Nat)(A:Around):Prop where
 hd:A.handled=none
 dp:A.depth+3*k+5<recursionLimit
 un:A.units+16*k+200<cLine
theorem gH.mono{j k:Nat}{A:Around}(r:gH k A)(h:j<=k):gH j A:=⟨r.hd,by have:=r.dp;omega,by have:=r.un;omega⟩
theorem gH.deeper{k:Nat}{A:Around}(r:gH (k+1) A)(env:Env):gH k (A.deeper env):=
 ⟨r.hd,by have:=r.dp;show A.depth+1+3*k+5<_;omega,by have:=r.un;show A.units+3+16*k+200<_;omega⟩
theorem ME{A:Around}{C:Addr}{us:List Value}{kw:List (Str×Value)}:(A.under (.builtin "type.__call__" ⟨.ref C::us,kw⟩)).depth=A.depth+1:=by
 first|rfl|simp[Around.under,Code.weight,Code.isCreation,Code.isGuard,Code.isCaller,Code.frames,Code.isFrame,guardIds]
theorem MF{A:Around}{C:Addr}{us:List Value}{kw:List (Str×Value)}:(A.under (.builtin "type.__call__" ⟨.ref C::us,kw⟩)).units=A.units+1:=by
 first|rfl|simp[Around.under,Code.cUnits,Code.frames,Code.isFrame]
theorem gH.make{k:Nat}{A:Around}(r:gH (k+1) A)(C:Addr)(us:List Value)(kw:List (Str×Value)):gH k (A.under (.builtin "type.__call__" ⟨.ref C::us,kw⟩)):=
 ⟨r.hd,by have:=r.dp;rw[ME];omega,by have:=r.un;rw[MF];omega⟩
theorem gH.depth{k:Nat}{A:Around}(r:gH k A):A.depth<recursionLimit:=by have:=r.dp;omega
theorem gH.units{k:Nat}{A:Around}(r:gH k A):A.units+64<cLine:=by have:=r.un;omega
def bK:TA:=fun _ H Q=>Q [] H
def bA(ta:TE)(tr:TA):TA:=fun σ H Q=>ta σ H fun x H1=>tr σ H1 fun xs H2=>Q (x::xs) H2
section
variable{X:Cx}{e:Expr}{es:List Expr}{te:TE}{t:TA}{pos:Pos}
theorem af:PA X [] bK:=fun _ _ _ _ H Q I h=>Calls.spliced_nil ⟨[],H,I,.nil,h⟩
theorem aa(ha:PE X e te)(hr:PA X es t)(hs:starEach (e::es) X.env=(false,eval e X.env)::starEach es X.env:=by rfl):PA X (e::es) (bA te t):=by
 intro pos au s σ H Q I h;rw[hs];show wpAny _ _ (spliced ((false,eval e X.env)::backTo pos (starEach es X.env))) _ _ s;refine Calls.spliced_cons (c8 (ha au s σ H _ I h) fun u s1 ⟨x,H1,I1,r1,q1⟩=>?_);exact c8 (hr pos au s1 σ H1 _ I1 q1) fun us s2 ⟨xs,H2,I2,r2,q2⟩=>⟨x::xs,H2,I2,.cons r1 r2,q2⟩
def bZ(t:TA):TE:=fun σ H Q=>t σ H fun xs H1=>xs.length<=sizeLine/\∀p,H1 p=none->Q (.ref p) (upd H1 p (.tup xs))
def cf(t:TA):TE:=fun σ H Q=>t σ H fun xs H1=>xs.length<=sizeLine/\∀p,H1 p=none->Q (.ref p) (upd H1 p (.lst xs))
theorem mW{x1}(h:PA X es t):PE X (.Tuple es x1 pos) (bZ t):=by
 intro au s σ H Q I hq;refine wpAny_Tuple_spliced (c8 (h pos au s σ H _ I hq) fun us s1 ⟨xs,H1,I1,r,z,q⟩=>⟨by rw[<- r.length];exact z,?_⟩);have hf:H1 s1.heap.objs.size=none:=I1.cJ.fresh (Nat.le_refl _);refine⟨.ref s1.heap.objs.size,upd H1 s1.heap.objs.size (.tup xs),I1.laid (t':=s1.toks) (fun b u e=>Heap.get?_push_of_some _ e) (Nat.le_refl _) ?_,rfl,q _ hf⟩;exact⟨z,us,r,⟨_,Heap.get?_push_size _ rfl,rfl,_,rfl⟩⟩
theorem aK(h:PA X es t):PE X (.List es pos) (cf t):=by
 intro au s σ H Q I hq;refine wpAny_List_spliced (c8 (h pos au s σ H _ I hq) fun us s1 ⟨xs,H1,I1,r,z,q⟩=>⟨by rw[<- r.length];exact z,?_⟩);have hf:H1 s1.heap.objs.size=none:=I1.cJ.fresh (Nat.le_refl _);refine⟨.ref s1.heap.objs.size,upd H1 s1.heap.objs.size (.lst xs),I1.laid (t':=s1.toks) (fun b u e=>Heap.get?_push_of_some _ e) (Nat.le_refl _) ?_,rfl,q _ hf⟩;exact⟨z,us,0,r,Heap.get?_push_size _ rfl⟩
end
abbrev Sp:=List V->Hp->VK->XK->Prop
abbrev Hw:=List Env->Hp->Shared->XK->Value->Shared->Prop
structure FA(P:Program)(w:World)(K:Frag)(mg:Str->Option Value)(ae:Heap)(A:Around)(bP:List Env)(s:Shared)(H:Hp):Prop where
 frames:A.frames=some bP
 mod:Mod K mg ae
 bs:∀b o,ae.get? b=some o->s.heap.get? b=some o/\H b=none
 Gb:ae.objs.size<=s.heap.objs.size
 rD:s.heap.FunFrames ae bP
 JE:∀b∈Bl bP,H b=none
 cJ:kU P w H s.heap
 bare:AllBare s.gens
def CE(bP:List Env)(P:Program)(w:World)(H:Hp)(s:Shared)(Q:VK)(u:Value)(s':Shared):Prop:=
 ∃v H',s'.os=s.os/\AllBare s'.gens/\Un (Bl bP) [] H H' s.heap s'.heap/\kU P w H' s'.heap/\RelV v u/\Q v H'
def CR(CX:Hw)(bP:List Env)(P:Program)(w:World)(H:Hp)(s:Shared)(Q:VK)(E:XK)(r:Result)(s':Shared):Prop:=
 match r with
 | .ok (.ret u)=>CE bP P w H s Q u s'
 | .ok _=>False
 | .error e=>CX bP H s E e s'
structure aM(P:Program)(w:World)(K:Frag)(mg:Str->Option Value)(ae:Heap)(CX:Hw)(k:Nat)(f:Addr)(fd:FuncData)(ps:List Str)(sp:Sp):Prop where
 len:∀vs H Q E,sp vs H Q E->vs.length=ps.length
 run:∀(A:Around) (bP:List Env) (s:Shared) (H:Hp) (args:Args) (us:List Value) (vs:List V) (Q:VK) (E:XK),gH k A->FA P w K mg ae A bP s H->BindsTo s fd args (ps.zip us)->Vals vs us->sp vs H Q E->
  codeAny (model P w) A (.call (.ref f) args) (CR CX bP P w H s Q E) s
theorem aM.mono{P:Program}{w:World}{K:Frag}{mg:Str->Option Value}{ae:Heap}{CX:Hw}{j k:Nat}{f:Addr}{fd:FuncData}{ps:List Str}{sp:Sp}(F:aM P w K mg ae CX j f fd ps sp)(h:j<=k):
  aM P w K mg ae CX k f fd ps sp:=⟨F.len,fun A bP s H args us vs Q E hr=>F.run A bP s H args us vs Q E (hr.mono h)⟩
theorem aM.imp{P:Program}{w:World}{K:Frag}{mg:Str->Option Value}{ae:Heap}{CX:Hw}{k:Nat}{f:Addr}{fd:FuncData}{ps:List Str}{sp Uv:Sp}(F:aM P w K mg ae CX k f fd ps sp)
  (h:∀vs H Q E,Uv vs H Q E->sp vs H Q E):aM P w K mg ae CX k f fd ps Uv:=
 ⟨fun vs H Q E q=>F.len vs H Q E (h _ _ _ _ q),fun A bP s H args us vs Q E hr he hb hv hs=>F.run A bP s H args us vs Q E hr he hb hv (h _ _ _ _ hs)⟩
theorem FA.make{P:Program}{w:World}{K:Frag}{mg:Str->Option Value}{ae:Heap}{A:Around}{bP:List Env}{s:Shared}{H:Hp}(e:FA P w K mg ae A bP s H)(C:Addr)(us:List Value)(kw:List (Str×Value)):
  FA P w K mg ae (A.under (.builtin "type.__call__" ⟨.ref C::us,kw⟩)) bP s H:=⟨by first|exact e.frames|(simpa [Around.under,Code.envs,Code.isFrame,pushEnvs]using e.frames),e.mod,e.bs,e.Gb,e.rD,e.JE,e.cJ,e.bare⟩
section
variable{X:Cx}{au:List (Addr×Obj)}{σ:St}{H:Hp}{s s':Shared}
theorem Inv.Uw(I:Inv X au σ H s):FA X.prog X.w X.K X.mg X.ae X.A X.stack s H:=
 ⟨I.ok.frames,I.ok.mod,I.bs,Nat.le_trans I.ok.Gb I.sz,I.stack,I.Mo,I.cJ,I.bare⟩
theorem Inv.after{Q:VK}{u:Value}(I:Inv X au σ H s)(h:CE X.stack X.prog X.w H s Q u s'):EP X au σ Q u s':=by
 obtain⟨v,H',os,bare,un,cJ,r,q⟩:=h;obtain⟨hh,g,d,t,os'⟩:=s';obtain rfl:os'=s.os:=os;exact⟨v,H',I.call (h':=hh) (g':=g) (d':=d) (t':=t) (ch:=[]) un cJ bare (fun b z=>absurd z (by simp)),r,q⟩
end
def bt(sp:Sp)(tD:List V)(E:XK)(t:TA):TE:=fun σ H Q=>t σ H fun vs H1=>sp (vs++tD) H1 Q E
def bp(C:Addr)(m:Str)(sp:Sp)(tD:List V)(E:XK)(ta:TE)(t:TA):TE:=fun σ H Q=>ta σ H fun x H1=>∃a dx fs,x= .ref a/\H1 a=some (.ins C dx fs)/\fs.lookup m=none/\
 t σ H1 fun vs H2=>sp (x::(vs++tD)) H2 Q E
def OG(C:Addr)(sp:Sp)(tD:List V)(E:XK)(t:TA):TE:=fun σ H Q=>t σ H fun vs H1=>∀x dx,H1 x=none->H1 dx=none->dx≠x->
 sp (.ref x::(vs++tD)) (upd (upd H1 dx (.own x)) x (.ins C dx [])) (fun v H2=>v= .e7/\Q (.ref x) H2) E
def Binds(K:Frag)(fd:FuncData)(ps:List Str)(ds:List Value):Prop:=
 ∀(s:Shared) (us:List Value),K.In s.heap->(us++ds).length=ps.length->BindsTo s fd ⟨us,[]⟩ (ps.zip (us++ds))
theorem Binds.all{K:Frag}{fd:FuncData}{ps:List Str}(h:∀us:List Value,us.length=ps.length->bindArgs fd ⟨us,[]⟩=pure (ps.zip us)):Binds K fd ps []:=fun s us _ hl=>by
 rw[List.append_nil]at hl ⊢;exact .of_eq (h us hl)
def Passes(CX:Hw)(X:Cx)(E:XK):Prop:=∀(au:List (Addr×Obj)) (σ:St) (H:Hp) (s:Shared) (e:Value) (s':Shared),Inv X au σ H s->CX X.stack H s E e s'->X.xe e s'
section
variable{X:Cx}{CX:Hw}{k:Nat}{f C:Addr}{fd:FuncData}{ps:List Str}{sp:Sp}{tD:List V}{ds:List Value}{E:XK}{x m:Str}{p pos apos:Pos}{e o:Expr}{es:List Expr}{ta:TE}{t:TA}
theorem G5{au:List (Addr×Obj)}{σ:St}{H:Hp}{s:Shared}{Q:VK}{us:List Value}{vs:List V}(F:aM X.prog X.w X.K X.mg X.ae CX k f fd ps sp)(hr:gH k X.A)(hb:Binds X.K fd ps ds)(hd:Vals tD ds)(hx:Passes CX X E)
  (I:Inv X au σ H s)(r:Vals vs us)(h:sp (vs++tD) H Q E):wpAny (model X.prog X.w) X.A (call (.ref f) us) (EP X au σ Q) X.xe s:=by
 have r2:Vals (vs++tD) (us++ds):=r.append hd;have hl:(us++ds).length=ps.length:=by rw[<- r2.length];exact F.len _ _ _ _ h
 refine wpAny_call (codeAny_mono (F.run X.A X.stack s H ⟨us,[]⟩ (us++ds) (vs++tD) Q E hr I.Uw (hb s us I.vW hl) r2 h) fun r s' hq=>?_);cases r with
 |error e=>exact hx au σ H s e s' I hq
 |ok fl=>
  cases fl with
  |ret u=>exact I.after hq
  |next=>exact False.elim hq
  |brk=>exact False.elim hq
  |cont=>exact False.elim hq
theorem Hx(F:aM X.prog X.w X.K X.mg X.ae CX k f fd ps sp)(hr:gH k X.A)(hg:Gl X x)(hm:X.mg x=some (.ref f))(hk:keepIn X.K (.ref f)=true)(hb:Binds X.K fd ps ds)(hd:Vals tD ds)(hx:Passes CX X E)
  (ha:PA X (e::es) t)(El:(x==("__debug__":Str))=false:=by decide)(he:starEach (e::es) X.env=(false,eval e X.env)::starEach es X.env:=by rfl)(hpl:(backTo pos (starEach es X.env)).any (·.1)=false:=by rfl):
  PE X (.Call (.Name x p) (e::es) [] pos) (bt sp tD E t):=by
 intro au s σ H Q I h;refine wpAny_Call_Name_kw (Cn I hg hm ?_ El);refine callWith_K (h₀:=X.ae) I.ok.mod.R6 hk (c8 (ha pos au s σ H _ I h) fun us s1 ⟨vs,H1,I1,r,q⟩=>⟨I1.vW,?_⟩) he hpl;exact G5 F hr hb hd hx I1 r q
theorem Ux{pl:Sem Bool}(he:PE X o ta)(c:Ek X.K C)(hm:Meth X.K C m f)(F:aM X.prog X.w X.K X.mg X.ae CX k f fd ps sp)(hr:gH k X.A)(hb:Binds X.K fd ps ds)(hd:Vals tD ds)(hx:Passes CX X E)(ha:PA X (e::es) t)
  (Ho:starEach (e::es) X.env=(false,eval e X.env)::starEach es X.env:=by rfl)(hpl:(backTo pos (starEach es X.env)).any (·.1)=false:=by rfl)
  (ht:eval (.Call (.Attribute o m apos) (e::es) [] pos) X.env=(do
   let ov <- eval o X.env
   standAt apos.atName
   let(f,first) <- holding [ov] (getMethod ov m pl)
   callWith pos f first (backTo pos (starEach (e::es) X.env)) (backToKw pos (keywordEach [] X.env))):=by rfl):
  PE X (.Call (.Attribute o m apos) (e::es) [] pos) (bp C m sp tD E ta t):=by
 intro au s σ H Q I h;refine methodCall_KW (pl:=pl) (c8 (he au s σ H _ I h) fun u s1 ⟨x,H1,I1,rx,a,dx,fs,ex,ea,l,q⟩=>?_) ht;subst ex;obtain rfl:u=Value.ref a:=rx;refine Fy I1 ea c hm l ?_;refine callWith_K (first:=[.ref a]) (h₀:=X.ae) I.ok.mod.R6 hm.kp (c8 (ha pos au s1 σ H1 _ I1 q) fun us s2 ⟨vs,H2,I2,r,q2⟩=>⟨I2.vW,?_⟩) Ho hpl;exact G5 (us:=.ref a::us) (vs:=.ref a::vs) F hr hb hd hx I2 (.cons rfl r) q2
theorem Sh{pl:Sem Bool}(he:PE X o ta)(c:Ek X.K C)(hm:Meth X.K C m f)(F:aM X.prog X.w X.K X.mg X.ae CX k f fd ps sp)(hr:gH k X.A)(hb:Binds X.K fd ps ds)(hd:Vals tD ds)(hx:Passes CX X E)
  (ht:eval (.Call (.Attribute o m apos) [] [] pos) X.env=(do
   let ov <- eval o X.env
   standAt apos.atName
   let(f,first) <- holding [ov] (getMethod ov m pl)
   callWith pos f first (backTo pos (starEach [] X.env)) (backToKw pos (keywordEach [] X.env))):=by rfl):
  PE X (.Call (.Attribute o m apos) [] [] pos) (bp C m sp tD E ta bK):=by
 intro au s σ H Q I h;refine methodCall_KW (pl:=pl) (c8 (he au s σ H _ I h) fun u s1 ⟨x,H1,I1,rx,a,dx,fs,ex,ea,l,q⟩=>?_) ht;subst ex;obtain rfl:u=Value.ref a:=rx;refine Fy I1 ea c hm l ?_;exact callWith_K0 (first:=[.ref a]) I1.vW hm.kp (G5 (us:=[.ref a]) (vs:=[.ref a]) F hr hb hd hx I1 (.cons rfl .nil) q)
structure Mk(K:Frag)(C f:Addr):Prop where
 makes:makesIn K C=true
 init:findIn K (.ref C) "__init__"=some (some (.ref f))
 fn:isFn K (.ref f)=true
 kp:keepIn K (.ref C)=true
theorem Si{au:List (Addr×Obj)}{σ:St}{H:Hp}{s:Shared}{Q:VK}{us:List Value}{vs:List V}(M:Mk X.K C f)(F:aM X.prog X.w X.K X.mg X.ae CX k f fd ps sp)(hr:gH (k+1) X.A)(hb:Binds X.K fd ps ds)(hd:Vals tD ds)
  (hx:Passes CX X E)(I:Inv X au σ H s)(r:Vals vs us)
  (h:∀x dx,H x=none->H dx=none->dx≠x->sp (.ref x::(vs++tD)) (upd (upd H dx (.own x)) x (.ins C dx [])) (fun v H2=>v= .e7/\Q (.ref x) H2) E):
  wpAny (model X.prog X.w) X.A (call (.ref C) us) (EP X au σ Q) X.xe s:=by
 have hq:=h (s.heap.objs.size+1) s.heap.objs.size (I.cJ.fresh (Nat.le_succ _)) (I.cJ.fresh (Nat.le_refl _)) (Nat.ne_of_lt (Nat.lt_succ_self _));have I2:=Inv.made (C:=C) I;have r2:Vals (V.ref (s.heap.objs.size+1)::(vs++tD)) (Value.ref (s.heap.objs.size+1)::(us++ds)):=.cons rfl (r.append hd);have hl:(Value.ref (s.heap.objs.size+1)::us++ds).length=ps.length:=by
  have e:=r2.length;rw[F.len _ _ _ _ hq]at e;exact e.symm
 refine wpAny_call (Sg (f:=f) I.vW M.makes M.init (beq_iff_eq.mp M.fn) (codeAny_mono (F.run _ X.stack _ _ ⟨Value.ref (s.heap.objs.size+1)::us,[]⟩ (Value.ref (s.heap.objs.size+1)::(us++ds)) _ _ E (hr.make C us [])
  (I2.Uw.make C us []) (hb _ (Value.ref (s.heap.objs.size+1)::us) I2.vW hl) r2 hq) fun r s' MG=>?_))
 cases r with
 |error e=>exact hx au σ _ _ e s' I2 MG
 |ok fl=>
  cases fl with
  |ret u=>
   obtain⟨v,H',I3,rv,ev,q3⟩:=I2.after MG;subst ev;exact⟨rv,⟨V.ref (s.heap.objs.size+1),H',I3,rfl,q3⟩⟩
  |next=>exact False.elim MG
  |brk=>exact False.elim MG
  |cont=>exact False.elim MG
theorem Sj(M:Mk X.K C f)(F:aM X.prog X.w X.K X.mg X.ae CX k f fd ps sp)(hr:gH (k+1) X.A)(hg:Gl X x)(hm:X.mg x=some (.ref C))(hb:Binds X.K fd ps ds)(hd:Vals tD ds)(hx:Passes CX X E)
  (El:(x==("__debug__":Str))=false:=by decide):PE X (.Call (.Name x p) [] [] pos) (OG C sp tD E bK):=by
 intro au s σ H Q I h;refine wpAny_Call_Name_kw (Cn I hg hm ?_ El);exact callWith_K0 I.vW M.kp (Si (us:=[]) M F hr hb hd hx I .nil h)
end
structure aC(N P:List Str)(sc:Scope):Prop where
 kind:sc.kind= .function
 co:sc.isCoroutine=false
 gen:sc.isGenerator=false
 nd:N.Nodup
 pre:N.take P.length=P
 par:∀x∈P,sc.names.lookup x=some .local∨sc.names.lookup x=some .cell
 Wq:∀y∈sc.names,y.2≠ .free
theorem Hy{kindOf:Str->Option NameKind}{x:Str}:∀{binds:List (Str×Value)} {m:Str->Option Value},(∀v,(x,v)∉binds)->bindL kindOf binds m x=m x
 |[],_,_=>rfl
 |(n,v)::r,m,h=>by
  unfold bindL;rw[Hy fun w hw=>h w (List.mem_cons_of_mem _ hw)];split
  ·have:x≠n:=by rintro rfl;exact h v List.mem_cons_self
   simp[this]
  rfl
theorem Hz{kindOf:Str->Option NameKind}{x:Str}:∀{binds:List (Str×Value)} {m:Str->Option Value},(∀v,(x,v)∉binds)->bindC kindOf binds m x=m x
 |[],_,_=>rfl
 |(n,v)::r,m,h=>by
  unfold bindC;rw[Hz fun w hw=>h w (List.mem_cons_of_mem _ hw)];split
  ·rfl
  have:x≠n:=by rintro rfl;exact h v List.mem_cons_self
  simp[this]
theorem HA{kindOf:Str->Option NameKind}{x:Str}{v:Value}:∀{P:List Str} {vs:List Value} {i:Nat} {m:Str->Option Value},P.Nodup->P[i]? =some x->vs[i]? =some v->kindOf x=some .local->
  bindL kindOf (P.zip vs) m x=some v
 |[],_,_,_,_,h,_,_=>by simp at h
 |_::_,[],_,_,_,_,h,_=>by simp at h
 |p::P,w::vs,0,m,nd,h1,h2,hk=>by
  simp at h1 h2;subst h1;subst h2;show bindL kindOf ((p,w)::P.zip vs) m p=_;unfold bindL;rw[Hy fun v hv=>(List.nodup_cons.mp nd).1 (List.of_mem_zip hv).1,if_pos hk];simp
 |p::P,w::vs,i+1,m,nd,h1,h2,hk=>by
  show bindL kindOf ((p,w)::P.zip vs) m x=_;unfold bindL;exact HA (i:=i) (List.nodup_cons.mp nd).2 (by simpa using h1) (by simpa using h2) hk
theorem HB{kindOf:Str->Option NameKind}{x:Str}{v:Value}:∀{P:List Str} {vs:List Value} {i:Nat} {m:Str->Option Value},P.Nodup->P[i]? =some x->vs[i]? =some v->kindOf x≠some .local->
  bindC kindOf (P.zip vs) m x=some v
 |[],_,_,_,_,h,_,_=>by simp at h
 |_::_,[],_,_,_,_,h,_=>by simp at h
 |p::P,w::vs,0,m,nd,h1,h2,hk=>by
  simp at h1 h2;subst h1;subst h2;show bindC kindOf ((p,w)::P.zip vs) m p=_;unfold bindC;rw[Hz fun v hv=>(List.nodup_cons.mp nd).1 (List.of_mem_zip hv).1,if_neg hk];simp
 |p::P,w::vs,i+1,m,nd,h1,h2,hk=>by
  show bindC kindOf ((p,w)::P.zip vs) m x=_;unfold bindC;exact HB (i:=i) (List.nodup_cons.mp nd).2 (by simpa using h1) (by simpa using h2) hk
def start(N:List Str)(vs:List V):St:=vs.map some++List.replicate (N.length - vs.length) none
def FC(CX:Hw)(P:Program)(w:World)(K:Frag)(mg:Str->Option Value)(ae:Heap)(N:List Str)(qual:Str)(scope:Scope)(f:Addr)(cd:Value)(A:Around)(bP:List Env)(s:Shared)(H:Hp)(E:XK):Cx where
 prog:=P
 w:=w
 K:=K
 mg:=mg
 ae:=ae
 A:=A.deeper (envOfC qual scope s.heap.objs.size f cd)
 N:=N
 tw:=s
 R7:=H
 env:=envOfC qual scope s.heap.objs.size f cd
 bP:=bP
 stack:=envOfC qual scope s.heap.objs.size f cd::bP
 ex:=[]
 calm:=true
 fn:=fun _=>true
 pn:=[]
 xe:=fun e s'=>wpAny (model P w) (A.deeper (envOfC qual scope s.heap.objs.size f cd)) («leaving» (envOfC qual scope s.heap.objs.size f cd) e) (fun _ OH=>CX bP H s E e OH) (fun e' OH=>CX bP H s E e' OH) s'
theorem Ks{sc:Scope}{n:Nat}{x:Str}(h:sc.names.lookup x=some .cell):∃c,(cellsFrom n sc.names []).lookup x=some c:=by
 have q:=cellsFrom_some sc.names n [] (.inl h);exact Option.isSome_iff_exists.mp q
theorem OI{CX:Hw}{P:Program}{w:World}{K:Frag}{mg:Str->Option Value}{ae:Heap}{N ps:List Str}{qual:Str}{scope:Scope}{f:Addr}{cd:Value}{A:Around}{bP:List Env}{s s1:Shared}{H:Hp}{E:XK}{us:List Value}{vs:List V}
  (S:aC N ps scope)(hd:A.handled=none)(e0:FA P w K mg ae A bP s H)(hl:vs.length=ps.length)(r:Vals vs us)
  (x:InCallC s s.heap.objs.size (bindL (envOfC qual scope s.heap.objs.size f cd).kindOf (ps.zip us) fun _=>none) (cellsFrom (s.heap.objs.size+1) scope.names []) (bindC (envOfC qual scope s.heap.objs.size f cd).kindOf (ps.zip us) fun _=>none) s1):
  Inv (FC CX P w K mg ae N qual scope f cd A bP s H E) [] (start N vs) H s1:=by
 have hpl:ps.length<=N.length:=by have:=congrArg List.length S.pre;rw[List.length_take]at this;omega
 obtain⟨h1,tk,rfl,hk⟩:=x.done;have MH:∀b:Addr,b∉(FC CX P w K mg ae N qual scope f cd A bP s H E).ex:=fun b z=>absurd (show b∈([]:List Addr)from z) (by simp);refine⟨⟨e0.mod,S.kind,rfl,rfl,Nat.le_refl _,fun y z c h1 h2=>?_,fun y hy=>?_,fun y c _ h=>?_,fun _=>hd,Around.frames_deeper e0.frames,.inr ⟨rfl,rfl⟩,fun b z=>absurd z (MH b),e0.bs,e0.Gb,fun b _ _=>MH b,fun b z=>absurd z (MH b),e0.rD,e0.JE⟩,
  rfl,e0.bare,Un.kept hk,⟨_,x.toInCall.ns,fun i y v h1 h2 h3=>?_⟩,fun y c h=>⟨_,x.cell y c h⟩,e0.cJ.fresh (Nat.le_refl _),fun y c h=>?_,fun p hp=>absurd (show p∈([]:List (Addr×Obj))from hp) (by simp),e0.cJ.kept hk,?_⟩
 ·exact name_of_addr x.apart (PySem.mem_of_lookup h1) (PySem.mem_of_lookup h2)
 ·have hy:scope.names.lookup y=some .cell∨scope.names.lookup y=some .free:=hy;rcases hy with hy|hy
  ·exact Ks hy
  exact absurd rfl (S.Wq _ (PySem.mem_of_lookup hy))
 ·exact Nat.le_of_lt (x.above y c (PySem.mem_of_lookup h))
 ·have hi:i<vs.length:=by
   unfold start at h2;by_cases hi:i<vs.length
   ·exact hi
   rw[List.getElem?_append_right (by simpa using hi)]at h2;rw[List.getElem?_replicate]at h2;split at h2 <;> cases h2
  have ha:vs[i]? =some v:=by
   unfold start at h2;rw[List.getElem?_append_left (by simpa using hi),List.getElem?_map]at h2;cases e:vs[i]? with
   |none=>rw[e]at h2;cases h2
   |some a=>rw[e]at h2;cases h2;rfl
  obtain⟨u,hu,rv⟩:=r.get ha;have hp:ps[i]? =some y:=by
   rw[<- S.pre,List.getElem?_take_of_lt (by omega)];exact h1
  have Wr:ps.Nodup:=by rw[<- S.pre];exact S.nd.sublist (List.take_sublist _ _)
  refine⟨u,rv,?_⟩;rcases S.par y (List.mem_of_getElem? hp)with k|k
  ·exact .inl ⟨k,HA Wr hp hu k⟩
  obtain⟨c,e⟩:=Ks (n:=s.heap.objs.size+1) k;refine .inr ⟨.inl k,c,e,?_⟩;have q:=x.cell y c e;rw[HB Wr hp hu (by show scope.names.lookup y≠_;rw[k];decide)]at q;exact q
 ·exact e0.cJ.fresh (Nat.le_of_lt (x.above y c (PySem.mem_of_lookup h)))
 unfold start;show _=N.length;rw[List.length_append,List.length_map,List.length_replicate];omega
theorem Uy{CX:Hw}{P:Program}{w:World}{K:Frag}{mg:Str->Option Value}{ae:Heap}{k:Nat}{f:Addr}{name qual:Str}{params:Arguments}{body:List Stmt}{scope:Scope}{dV kV doc pm fS ct oc:Value}{an od:Option Addr}
  {xY:Array (Option Value)}{N ps:List Str}{sp:Sp}(lk:K.lookup f=some ⟨oc,od,.func (fnOf name qual params body scope dV kV doc pm an fS ct),xY⟩)(pU:codeIn K fS qual=true)(S:aC N ps scope)
  (len:∀vs H Q E,sp vs H Q E->vs.length=ps.length)
  (wa:∀(A:Around) (bP:List Env) (s:Shared) (H:Hp) (vs:List V) (Q:VK) (E:XK),gH k (A.deeper (envOfC qual scope s.heap.objs.size f fS))->sp vs H Q E->
   ∃t,Bm (FC CX P w K mg ae N qual scope f fS A bP s H E) body t/\t {nx:=fun _ H'=>Q .e7 H',rt:=Q} (start N vs) H):
  aM P w K mg ae CX (k+1) f (fnOf name qual params body scope dV kV doc pm an fS ct) ps sp:=by
 refine⟨len,fun A bP s H args us vs Q E hr e0 hb r Cs=>?_⟩;have hl:=len _ _ _ _ Cs;have KX:K.In s.heap:=e0.mod.R6.keeps fun b o e=>(e0.bs b o e).1;have lim:s.heap.NoLimit:=e0.mod.nolimit.keeps fun b o e=>(e0.bs b o e).1;have Ze:∀y∈ps.zip us,scope.names.lookup y.1=some .local∨(scope.names.lookup y.1=some .cell/\((cellsFrom (s.heap.objs.size+1) scope.names []).lookup y.1).isSome=true):=fun⟨n,v⟩ hy=>by
  rcases S.par n (List.of_mem_zip hy).1 with q|q
  ·exact .inl q
  exact .inr ⟨q,cellsFrom_some _ _ _ (.inl q)⟩
 refine codeAny_call_function hr.depth (KX _ _ lk) rfl S.co S.gen rfl (PySem.W.codeRec_of KX pU) (hb _ _ _ _ ?_);refine wpAny_newFunctionEnv_cells S.kind Ze fun env he s1 x=>?_;subst he;refine⟨lim.keeps x.toInCall.keep,codeAny_func ?_⟩;obtain⟨t,ht,hq⟩:=wa A bP s H vs Q E (hr.deeper _) Cs;have I:Inv (FC CX P w K mg ae N qual scope f fS A bP s H E) [] (start N vs) H s1:=OI S hr.hd e0 hl r x;refine wpAny_mono (ht [] s1 (start N vs) H _ I hq) (fun fl s' hs=>?_) fun e s' hs=>hs;have fin:∀{σ':St} {H':Hp} {v:V} {u:Value},Inv (FC CX P w K mg ae N qual scope f fS A bP s H E) [] σ' H' s'->RelV v u->Q v H'->CE bP P w H s Q u s':=
  fun{σ' H' v u} J rv q=>⟨v,H',J.os,J.bare,J.ae,J.cJ,rv,q⟩
 cases fl with
 |ret u=>
  obtain⟨v,σ',H',J,rv,q⟩:=hs;exact fin J rv q
 |next=>
  obtain⟨σ',H',J,q⟩:=hs;exact fin (v:=V.e7) (u:=Value.none) J rfl q
 |brk=>
  obtain⟨_,_,_,q⟩:=hs;exact False.elim q
 |cont=>
  obtain⟨_,_,_,q⟩:=hs;exact False.elim q
section
variable{X:Cx}{x:Str}{p pos:Pos}{e:Expr}{es:List Expr}{t:TA}{id T:String}{r:List V->Hp->VK->Prop}
def dg(r:List V->Hp->VK->Prop)(t:TA):TE:=fun σ H Q=>t σ H fun vs H1=>r vs H1 Q
theorem aT(hc:vZ X (.builtin id) r)(hg:Gl X x)(hm:X.mg x=none)(hv:bootBuiltins x=some (.builtin id))(ha:PA X (e::es) t)(hn:x≠"__name__":=by decide)(El:(x==("__debug__":Str))=false:=by decide)
  (he:starEach (e::es) X.env=(false,eval e X.env)::starEach es X.env:=by rfl)(hpl:(backTo pos (starEach es X.env)).any (·.1)=false:=by rfl):PE X (.Call (.Name x p) (e::es) [] pos) (dg r t):=by
 intro au s σ H Q I h;refine wpAny_Call_Name_kw (zJ I hg hm hv ?_ hn El);exact PyProof.Rows.callWith_builtin1 (c8 (ha pos au s σ H _ I h) fun us s1 ⟨vs,H1,I1,r1,q1⟩=>hc au s1 σ H1 vs us Q I1 r1 q1) he hpl
theorem rF(hc:vZ X (.type T) r)(hg:Gl X x)(hm:X.mg x=none)(hv:bootBuiltins x=some (.type T))(ha:PA X (e::es) t)(hn:x≠"__name__":=by decide)(El:(x==("__debug__":Str))=false:=by decide)
  (he:starEach (e::es) X.env=(false,eval e X.env)::starEach es X.env:=by rfl)(hpl:(backTo pos (starEach es X.env)).any (·.1)=false:=by rfl):PE X (.Call (.Name x p) (e::es) [] pos) (dg r t):=by
 intro au s σ H Q I h;refine wpAny_Call_Name_kw (zJ I hg hm hv ?_ hn El);exact PyProof.Rows.callWith_type1 (c8 (ha pos au s σ H _ I h) fun us s1 ⟨vs,H1,I1,r1,q1⟩=>hc au s1 σ H1 vs us Q I1 r1 q1) he hpl
end
end L2
namespace HT
open PySem PyProof.Rows
section
variable{prog:Program}{w:World}{A:Around}{E:Value->Shared->Prop}{s:Shared}
theorem Uz{t b:Addr}{vs ws:List Value}{Q:Value->Shared->Prop}(ht:IsTup s.heap t vs.toArray)(hb:IsTup s.heap b ws.toArray)(hv:vs≠[])
  (h1:ws=[]->Q (.ref t) s)(h2:ws≠[]->Q (.ref s.heap.objs.size) {s with heap:=s.heap.push {cls:=.type "tuple",data:=.seq (vs++ws).toArray}})
  (hsz:vs.length+ws.length<=sizeLine):wpAny (model prog w) A (binaryOp .Add (.ref t) (.ref b)) Q E s:=by
 obtain⟨⟨cls,dd,data,sl⟩,ho,hc,n,hd⟩:=id ht;obtain⟨⟨abZ,dd2,data2,sl2⟩,Ws,hc2,n2,hd2⟩:=id hb;simp only at hc hd hc2 hd2;subst hc hd hc2 hd2;have e:vs.toArray++ws.toArray=(vs++ws).toArray:=by simp
 by_cases hw:ws=[]
 ·exact concat_meets ⟨_,ho,rfl⟩ ⟨_,Ws,rfl⟩ noFill_tuple_add seq_tuple_add PySem.F.slot_tuple_add PySem.F.entry_tuple_add (PySem.F.args_tuple_add_2 _ _)
   (tuple_addW1 t b vs.toArray ws.toArray n n2 dd dd2 sl sl2 (by simpa using hv) (by simp[hw])) ⟨ho,Ws,h1 hw⟩
 refine concat_meets ⟨_,ho,rfl⟩ ⟨_,Ws,rfl⟩ noFill_tuple_add seq_tuple_add PySem.F.slot_tuple_add PySem.F.entry_tuple_add (PySem.F.args_tuple_add_2 _ _)
  (tuple_addW2 t b vs.toArray ws.toArray n n2 dd dd2 sl sl2 (by simpa using hv) (by simpa using hw) (by rw[List.size_toArray,List.size_toArray];exact hsz)) ⟨ho,Ws,?_⟩
 rw[e];exact h2 hw
def xZ(n d:Nat):Option Int->Nat
 |none=>d
 |some v=>if v<0 then(v+(n:Int)).toNat else min v.toNat n
theorem Sk(n d:Nat):xZ n d none=d:=rfl
theorem HC(n d k:Nat):xZ n d (some (k:Int))=min k n:=by
 show(if(k:Int)<0 then((k:Int)+(n:Int)).toNat else min (k:Int).toNat n)=min k n;rw[if_neg (by omega),Int.toNat_natCast]
end
end HT
namespace L2
open PySem PySem.Spec PyProof.Rows
abbrev TO:=St->Hp->(Option Int->Hp->Prop)->Prop
def PO(X:Cx)(e:Option Expr)(t:TO):Prop:=
 ∀(au:List (Addr×Obj)) (s:Shared) (σ:St) (H:Hp) (Q:Option Int->Hp->Prop),Inv X au σ H s->t σ H Q->
  wpAny (model X.prog X.w) X.A (evalPart e X.env) (fun u s'=>∃o H',Inv X au σ H' s'/\IsPart u o/\Q o H') X.xe s
def aR:TO:=fun _ H Q=>Q none H
def bB(t:TE):TO:=fun σ H Q=>t σ H fun x H1=>∃i,x= .int i/\Q (some i) H1
section
variable{X:Cx}{e:Expr}{te:TE}{lo hi:Option Expr}{tl th:TO}{pos p2:Pos}
theorem ya:PO X none aR:=by
 intro au s σ H Q I h;rw[evalPart_none];exact wpAny_pure ⟨none,H,I,.none,h⟩
theorem dB(h:PE X e te):PO X (some e) (bB te):=by
 intro au s σ H Q I hw;rw[evalPart_some];refine c8 (h au s σ H _ I hw) fun u s1 ⟨x,H1,I1,r1,q1⟩=>?_;obtain⟨i,rfl,q⟩:=q1;obtain⟨t,rfl⟩:=r1;exact⟨some i,H1,I1,.int i t,q⟩
def SlR(X:Cx)(r:V->Option Int->Option Int->Hp->VK->Prop):Prop:=
 ∀(au:List (Addr×Obj)) (s:Shared) (σ:St) (H:Hp) (x:V) (v vl vu:Value) (lo hi:Option Int) (sl:Addr) (Q:VK),Inv X au σ H s->RelV x v->s.heap.IsSliceOf sl vl vu .none->IsPart vl lo->IsPart vu hi->r x lo hi H Q->
  ∃T id,typeLookup (.type T) "__getitem__"=pure (some (.builtin id))/\s.TypeIs v T/\wpAny (model X.prog X.w) X.A (getItem v (.ref sl)) (EP X au σ Q) X.xe s
def dn(r:V->Option Int->Option Int->Hp->VK->Prop)(te:TE)(tl th:TO):TE:=fun σ H Q=>te σ H fun x H1=>tl σ H1 fun l H2=>th σ H2 fun u H3=>r x l u H3 Q
theorem fF{r:V->Option Int->Option Int->Hp->VK->Prop}(hr:SlR X r)(he:PE X e te)(hl:PO X lo tl)(hu:PO X hi th):PE X (.Subscript e (.Slice lo hi none p2) pos) (dn r te tl th):=by
 intro au s σ H Q I h;refine Subscript_ (c8 (he au s σ H _ I h) fun v s1 ⟨x,H1,I1,r1,q1⟩=>?_);refine wpAny_Slice (c8 (hl au s1 σ H1 _ I1 q1) fun vl s2 ⟨l,H2,I2,pl,q2⟩=>c8 (hu au s2 σ H2 _ I2 q2) fun vu s3 ⟨u,H3,I3,pu,q3⟩=>?_);rw[evalPart_none];refine wpAny_pure ?_;have I4:Inv X au σ H3 {s3 with heap:=s3.heap.push {cls:=.type "slice",data:=.fields #[vl,vu,.none]}}:=I3.kept (t':=s3.toks) fun b ob q=>Heap.get?_push_of_some _ q;obtain⟨T,id,hT,ht,hg⟩:=hr au {s3 with heap:=s3.heap.push {cls:=.type "slice",data:=.fields #[vl,vu,.none]}} σ H3 x v vl vu l u s3.heap.objs.size Q I4 r1 (Heap.IsSliceOf.new ..) pl pu q3;show wpAny (model X.prog X.w) X.A (subscriptTail e (.Slice lo hi none p2) v (.ref s3.heap.objs.size)) (EP X au σ Q) X.xe {s3 with heap:=s3.heap.push {cls:=.type "slice",data:=.fields #[vl,vu,.none]}};exact tail_any (ops:=[.ref s3.heap.objs.size,v]) ht hT hg (by with_unfolding_all rfl)
def lg(xs:List V)(lo hi:Option Int):List V:=(xs.drop (HT.xZ xs.length 0 lo)).take (HT.xZ xs.length xs.length hi - HT.xZ xs.length 0 lo)
theorem Ld(xs:List V)(lo hi:Option Int):(lg xs lo hi).length<=xs.length:=by
 unfold lg;rw[List.length_take,List.length_drop];omega
def Zf(K:Frag):R2:=fun x y H Q=>∃a b xs ys,x= .ref a/\y= .ref b/\ik K H a xs/\ik K H b ys/\xs≠[]/\xs.length+ys.length<=sizeLine/\
 (ys=[]->Q (.ref a) H)/\(ys≠[]->∀p,H p=none->Q (.ref p) (upd H p (.tup (xs++ys))))
theorem Vals.HD{xs:List V}{us:List Value}(r:Vals xs us):us=[]↔xs=[]:=by
 cases r with
 |nil=>simp
 |cons _ _=>simp
theorem UA:mU X (binaryOp .Add) (Zf X.K):=by
 intro au s σ H x y v u Q I rx ry h;obtain⟨a,b,xs,ys,rfl,rfl,ha,hb,hx,hz,q1,q2⟩:=h;cases rx;cases ry;obtain⟨its,r1,p1,_⟩:=I.tuple ha;obtain⟨oo,r2,p2,_⟩:=I.tuple hb;refine HT.Uz p1 p2 (fun z=>hx (r1.HD.mp z)) (fun z=>⟨.ref a,H,I,rfl,q1 (r2.HD.mp z)⟩) (fun z=>?_) (by rw[<- r1.length,<- r2.length];exact hz);refine⟨.ref s.heap.objs.size,_,I.laid (t':=s.toks) (o:=.tup (xs++ys)) (fun b ob q=>Heap.get?_push_of_some _ q) (Nat.le_refl _) ?_,rfl,q2 (fun w=>z (r2.HD.mpr w)) _ (I.cJ.fresh (Nat.le_refl _))⟩;exact⟨by rw[List.length_append];exact hz,_,r1.append r2,IsTup.new _ _⟩
end
def MI(n:Nat)(i:Int):Option Nat:=if 0<=i then(if i<n then some i.toNat else none)else if -(n:Int)<=i then some (i+n).toNat else none
def cW{α:Type}(xs:List α)(i:Int):Option α:=(MI xs.length i).bind fun j=>xs[j]?
theorem MJ{n:Nat}{i:Int}{j:Nat}(h:MI n i=some j):seqIndex? i n=some j/\j<n/\ -(n:Int)<=i/\i<n:=by
 unfold MI at h;by_cases h0:0<=i
 ·rw[if_pos h0]at h;by_cases h1:i<n
  ·rw[if_pos h1]at h;have e:i.toNat=j:=Option.some.inj h;exact⟨by rw[seqIndex_of h0 h1,e],by omega,by omega,h1⟩
  rw[if_neg h1]at h;cases h
 rw[if_neg h0]at h;by_cases h1: -(n:Int)<=i
 ·rw[if_pos h1]at h;have e:(i+n).toNat=j:=Option.some.inj h;exact⟨by rw[seqIndex_neg (by omega) h1,e],by omega,h1,by omega⟩
 rw[if_neg h1]at h;cases h
theorem MK{α:Type}{xs:List α}{i:Int}{v:α}(h:cW xs i=some v):∃j,seqIndex? i xs.length=some j/\xs[j]? =some v/\j<xs.length/\ -(xs.length:Int)<=i/\i<xs.length:=by
 unfold cW at h;cases e:MI xs.length i with
 |none=>rw[e]at h;cases h
 |some j=>
  rw[e]at h;obtain⟨h1,h2,h3,h4⟩:=MJ e;exact⟨j,h1,h,h2,h3,h4⟩
theorem Ct{α:Type}{xs:List α}{j:Nat}{v:α}(h:xs[j]? =some v):cW xs (j:Int)=some v:=by
 have hj:j<xs.length:=(List.getElem?_eq_some_iff.mp h).1;have e:MI xs.length (j:Int)=some j:=by
  unfold MI;rw[if_pos (by omega),if_pos (by omega)];simp
 unfold cW;rw[e];exact h
def UB(b:Expr):Prop:=∀o i,subscripted b false o i=operate [o,i] (getItem o i)
def Wt(X:Cx)(r:R2):Prop:=
 ∀(value slice:Expr) (au:List (Addr×Obj)) (s:Shared) (σ:St) (H:Hp) (x y:V) (v u:Value) (Q:VK),Inv X au σ H s->RelV x v->RelV y u->r x y H Q->
  subscripted slice false v u=operate [v,u] (getItem v u)->wpAny (model X.prog X.w) X.A (subscriptTail value slice v u) (EP X au σ Q) X.xe s
def Zg(X:Cx)(id:String)(r:V->List V->Hp->VK->Prop):Prop:=
 ∀(au:List (Addr×Obj)) (s:Shared) (σ:St) (H:Hp) (x:V) (xs:List V) (v:Value) (us:List Value) (Q:VK),Inv X au σ H s->RelV x v->Vals xs us->r x xs H Q->
  wpAny (model X.prog X.w) X.A (call (.builtin id) (v::us)) (EP X au σ Q) X.xe s
section
variable{X:Cx}{a b:Expr}{ta tb:TE}{pos:Pos}
theorem aD{r:R2}(hr:Wt X r)(ha:PE X a ta)(hb:PE X b tb)(hs:UB b):PE X (.Subscript a b pos) (c6 r ta tb):=by
 intro au s σ H Q I h;exact Subscript_ (Um ha hb I h fun v u s2 x y H2 I2 rx ry q=>hr a b au s2 σ H2 x y v u Q I2 rx ry q (hs _ _))
def ML(K:Frag):R2:=fun x y H Q=>∃p xs i v,x= .ref p/\y= .int i/\aG K H p xs/\cW xs i=some v/\Q v H
def Rz(K:Frag):R2:=fun x y H Q=>∃p xs i v,x= .ref p/\y= .int i/\ik K H p xs/\cW xs i=some v/\Q v H
theorem aA:Wt X (ML X.K):=by
 intro value slice au s σ H x y v u Q I rx ry h hs;obtain⟨p,xs,i,z,rfl,rfl,hq,he,q⟩:=h;cases rx;obtain⟨t,rfl⟩:=ry;obtain⟨its,r,pl,hz⟩:=I.list hq;obtain⟨j,h1,h2,h3,h4,h5⟩:=MK he;obtain⟨w,ew,tE⟩:=r.get h2;have hl:=r.length;have hn:=Cq;have fin:EP X au σ Q w s:=⟨z,H,I,tE,q⟩;by_cases h0:0<=i
 ·have hj:i.toNat=j:=by
   rw[seqIndex_of h0 h5]at h1;exact Option.some.inj h1
  exact item_listR pl.isList h0 (by omega) (by rw[hj];simpa using ew) fin hs
 have hj:(i+(its.toArray.size:Int)).toNat=j:=by
  rw[seqIndex_neg (by omega) h4]at h1;rw[List.size_toArray,<- hl];exact Option.some.inj h1
 exact subscriptTail_builtinR (x:=w) pl.isList.typeIs slot_list_getitem.lookup
  (wpAny_getItem_list_neg (Q:=fun r s'=>r=w/\EP X au σ Q r s') pl.isList (by omega) (by rw[List.size_toArray] <;> omega) (by omega) (by rw[hj];simpa using ew) ⟨rfl,fin⟩) hs
theorem gX:Wt X (Rz X.K):=by
 intro value slice au s σ H x y v u Q I rx ry h hs;obtain⟨p,xs,i,z,rfl,rfl,hq,he,q⟩:=h;cases rx;obtain⟨t,rfl⟩:=ry;obtain⟨its,r,pl,hz⟩:=I.tuple hq;obtain⟨j,h1,h2,h3,h4,h5⟩:=MK he;obtain⟨w,ew,tE⟩:=r.get h2;have hl:=r.length;have hn:=Cq;have fin:EP X au σ Q w s:=⟨z,H,I,tE,q⟩;exact subscriptTail_builtinR (x:=w) pl.typeIs slot_tuple_getitem.lookup
  (getItem_tuple (j:=j) (Q:=fun r s'=>r=w/\EP X au σ Q r s') pl (by omega) (by omega) (by rw[List.size_toArray,<- hl];exact h1) (by simpa using ew) ⟨rfl,fin⟩) hs
theorem MM(its:List Value)(n j:Nat)(u:Value):Obj.mapSeq (·.setIfInBounds j u) {cls:=.type "list",data:=.seq its.toArray n}={cls:=.type "list",data:=.seq (its.set j u).toArray n}:=by
 simp[Obj.mapSeq]
theorem Inv.lst{au:List (Addr×Obj)}{σ:St}{H:Hp}{s:Shared}{p:Addr}{xs:List V}(I:Inv X au σ H s)(h:H p=some (.lst xs)):
  ∃(its:List Value) (n:Nat),Vals xs its/\s.heap.get? p=some {cls:=.type "list",data:=.seq its.toArray n}/\xs.length<=sizeLine:=by
 obtain⟨z,its,n,r,e⟩:=I.cJ p _ h;exact⟨its,n,r,e,z⟩
theorem Inv.Wu{au:List (Addr×Obj)}{σ:St}{H:Hp}{s:Shared}{p:Addr}{xs ys:List V}{its its':List Value}{n n':Nat}{f:Obj->Obj}(I:Inv X au σ H s)(h:H p=some (.lst xs))
  (ho:s.heap.get? p=some {cls:=.type "list",data:=.seq its.toArray n})(hf:f {cls:=.type "list",data:=.seq its.toArray n}={cls:=.type "list",data:=.seq its'.toArray n'})(r:Vals ys its')(hz:ys.length<=sizeLine)(t:Nat):
  Inv X au σ (upd H p (.lst ys)) {s with heap:=s.heap.update p f,toks:=t}:=by
 have e:(s.heap.update p f).get? p=some {cls:=.type "list",data:=.seq its'.toArray n'}:=by
  rw[Heap.get?_update_self f ho (by rw[hf] <;> rfl),hf]
 refine I.write (x:=p) (e:=p) (by rw[h];trivial) (.inl rfl) (fun b u hb q=>(Heap.get?_update_other _ _ (Ne.symm hb)).trans q) ⟨_,e⟩ ?_;exact⟨hz,its',n',r,e⟩
def UC:V->V->V->Hp->(Hp->Prop)->Prop:=fun o i v H Q=>∃p xs k j,o= .ref p/\i= .int k/\H p=some (.lst xs)/\MI xs.length k=some j/\Q (upd H p (.lst (xs.set j v)))
theorem set_list:Ui X UC:=by
 intro au s σ H o i v ov iv u Q I ro ri rv h;obtain⟨p,xs,k,j,rfl,rfl,hp,hj,q⟩:=h;cases ro;obtain⟨t,rfl⟩:=ri;obtain⟨its,n,r,ho,hz⟩:=I.lst hp;obtain⟨h1,h2,h3,h4⟩:=MJ hj;have hl:=r.length;have hn:=Cq;have I':Inv X au σ (upd H p (.lst (xs.set j v))) {s with heap:=s.heap.update p (Obj.mapSeq (·.setIfInBounds j u))}:=
  I.Wu hp ho (MM its n j u) (r.set rv j) (by rw[List.length_set];exact hz) s.toks
 by_cases h0:0<=k
 ·have hk:k.toNat=j:=by
   rw[seqIndex_of h0 h4]at h1;exact Option.some.inj h1
  exact PySem.W.ki_setAt ho h0 (by omega) (by rw[List.size_toArray,<- hl];exact h4) (by rw[hk];exact⟨_,I',q⟩)
 have hk:(k+(its.toArray.size:Int)).toNat=j:=by
  rw[seqIndex_neg (by omega) h3]at h1;rw[List.size_toArray,<- hl];exact Option.some.inj h1
 exact PySem.W.ki_setBack ho (by omega) (by rw[List.size_toArray,<- hl];exact h3) (by omega) (by rw[hk];exact⟨_,I',q⟩)
theorem JG(lo hi:Option Int)(n:Nat):(sliceBounds lo hi none n).1=((HT.xZ n 0 lo:Nat):Int)/\(sliceBounds lo hi none n).2.1=((HT.xZ n n hi:Nat):Int)/\(sliceBounds lo hi none n).2.2=1:=by
 refine⟨?_,?_,rfl⟩
 ·cases lo with
  |none=>simp[sliceBounds,HT.xZ]
  |some i=>
   simp only[sliceBounds,HT.xZ,Option.getD_none,show(1:Int)>0 by decide,if_true];by_cases h:i<0
   ·simp only[h,if_true] <;> omega
   simp only[h,if_false] <;> omega
 cases hi with
 |none=>simp[sliceBounds,HT.xZ]
 |some i=>
  simp only[sliceBounds,HT.xZ,Option.getD_none,show(1:Int)>0 by decide,if_true];by_cases h:i<0
  ·simp only[h,if_true] <;> omega
  simp only[h,if_false] <;> omega
theorem HE(its:List Value)(lo hi:Option Int):slicePick its.toArray lo hi none=((its.drop (HT.xZ its.length 0 lo)).take (HT.xZ its.length its.length hi - HT.xZ its.length 0 lo)).toArray:=by
 obtain⟨h1,h2,h3⟩:=JG lo hi its.toArray.size;unfold slicePick;rw[h1,h2,h3];simp only[sliceRange_one,pick_run,List.size_toArray] <;> rfl
def abc(K:Frag):V->Option Int->Option Int->Hp->VK->Prop:=fun x lo hi H Q=>∃a xs,x= .ref a/\aG K H a xs/\∀p,H p=none->Q (.ref p) (upd H p (.lst (lg xs lo hi)))
theorem gI:SlR X (abc X.K):=by
 intro au s σ H x v vl vu lo hi sl Q I rx hs pl pu h;obtain⟨a,xs,rfl,hx,q⟩:=h;cases rx;obtain⟨its,r,ht,hz⟩:=I.list hx;have hlen:=r.length;refine⟨"list",_,slot_list_getitem.lookup,ht.isList.typeIs,?_⟩;refine wpAny_getItem_list_slice ht.isList hs pl pu .none (by simp) ?_ (by rw[List.size_toArray] <;> omega);rw[HE,<- hlen];refine⟨.ref s.heap.objs.size,_,I.laid (t':=s.toks) (o:=.lst (lg xs lo hi)) (fun b ob q=>Heap.get?_push_of_some _ q) (Nat.le_refl _) ?_,rfl,q _ (I.cJ.fresh (Nat.le_refl _))⟩;exact⟨Nat.le_trans (Ld xs lo hi) hz,_,0,(r.drop (HT.xZ xs.length 0 lo)).take (HT.xZ xs.length xs.length hi - HT.xZ xs.length 0 lo),Heap.get?_push_size _ rfl⟩
def jE:V->Bool
 | .e7=>true
 | .bl _=>true
 | .int _=>true
 | .str _=>true
 |_=>false
def MN:V->V->Bool
 | .e7,.e7=>true
 | .bl a,.bl b=>a==b
 | .bl a,.int b=>(if a then 1 else 0)==b
 | .int a,.bl b=>a==(if b then 1 else 0)
 | .int a,.int b=>a==b
 | .str a,.str b=>a==b
 |_,_=>false
theorem Wv{A:Around}{s:Shared}{y x:V}{u v:Value}(ry:RelV y u)(rx:RelV x v)(fy:jE y=true)(fx:jE x=true):SeqAt.EqAt A s u v (MN y x):=by
 cases y with
 |e7=>
  cases ry;cases x with
  |e7=>cases rx;exact SeqAt.EqAt.same _
  |bl b=>cases rx;exact SeqAt.EqAt.none_bool b
  |int b=>obtain⟨t,rfl⟩:=rx;exact SeqAt.EqAt.none_int b t
  |str b=>obtain⟨t,rfl⟩:=rx;exact SeqAt.EqAt.none_str b t
  |_=>exact absurd (show false=true from fx) Bool.false_ne_true
 |bl a=>
  cases ry;cases x with
  |e7=>cases rx;exact SeqAt.EqAt.bool_none a
  |bl b=>cases rx;exact SeqAt.EqAt.bool_bool a b
  |int b=>obtain⟨t,rfl⟩:=rx;exact SeqAt.EqAt.bool_int a b t
  |str b=>obtain⟨t,rfl⟩:=rx;exact SeqAt.EqAt.bool_str a b t
  |_=>exact absurd (show false=true from fx) Bool.false_ne_true
 |int a=>
  obtain⟨t',rfl⟩:=ry;cases x with
  |e7=>cases rx;exact SeqAt.EqAt.int_none a t'
  |bl b=>cases rx;exact SeqAt.EqAt.int_bool a t' b
  |int b=>obtain⟨t,rfl⟩:=rx;exact SeqAt.EqAt.int_int a t' b t
  |str b=>obtain⟨t,rfl⟩:=rx;exact SeqAt.EqAt.int_str a t' b t
  |_=>exact absurd (show false=true from fx) Bool.false_ne_true
 |str a=>
  obtain⟨t',rfl⟩:=ry;cases x with
  |e7=>cases rx;exact SeqAt.EqAt.str_none a t'
  |bl b=>cases rx;exact SeqAt.EqAt.str_bool a t' b
  |int b=>obtain⟨t,rfl⟩:=rx;exact SeqAt.EqAt.str_int a t' b t
  |str b=>obtain⟨t,rfl⟩:=rx;exact SeqAt.EqAt.str_str a t' b t
  |_=>exact absurd (show false=true from fx) Bool.false_ne_true
 |_=>exact absurd (show false=true from fy) Bool.false_ne_true
def UD(x:V)(u:Value):Bool:=match u with
 | .none=>MN .e7 x
 | .bool b=>MN (.bl b) x
 | .int i _=>MN (.int i) x
 | .str z _=>MN (.str z) x
 |_=>false
theorem G6{x y:V}{u:Value}(r:RelV y u)(f:jE y=true):UD x u=MN y x:=by
 cases y with
 |e7=>cases r;rfl
 |bl b=>cases r;rfl
 |int i=>obtain⟨t,rfl⟩:=r;rfl
 |str z=>obtain⟨t,rfl⟩:=r;rfl
 |_=>exact absurd (show false=true from f) Bool.false_ne_true
theorem Em{A:Around}{s:Shared}{x:V}{v:Value}(rx:RelV x v)(fx:jE x=true):∀{xs:List V} {us:List Value},Vals xs us->xs.all jE=true->∀u∈us,SeqAt.EqAt A s u v (UD x u)
 |_,_,.nil,_=>fun u hu=>by cases hu
 |y::xs,u::us,.cons r t,f=>fun u' hu=>by
  rw[List.all_cons,Bool.and_eq_true]at f;rcases List.mem_cons.mp hu with rfl|hu
  ·rw[G6 r f.1];exact Wv r rx f.1 fx
  exact Em rx fx t f.2 u' hu
theorem a6:vZ X (.builtin "len") (fun xs H Q=>∃p ys,xs=[.ref p]/\(aG X.K H p ys∨ik X.K H p ys)/\Q (.int ys.length) H):=by
 intro au s σ H xs us Q I r h;obtain⟨p,ys,rfl,hq,q⟩:=h;obtain⟨u,rfl,rx⟩:=vals1 r;cases rx;have hn:=Cq;rcases hq with hq|hq
 ·obtain⟨its,r',pl,hz⟩:=I.list hq;have hlen:=r'.length;exact Calls.call_len_list pl.isList (by simp only[List.size_toArray] <;> omega) ⟨.int ys.length,H,I.tok _,⟨s.toks+1,by rw[List.size_toArray,hlen]⟩,q⟩
 obtain⟨its,r',pl,hz⟩:=I.tuple hq;have hlen:=r'.length;exact len_tuple pl (by simp only[List.size_toArray] <;> omega) ⟨.int ys.length,H,I.tok _,⟨s.toks+1,by rw[List.size_toArray,hlen]⟩,q⟩
theorem lJ:vZ X (.type "list") (fun xs H Q=>∃p ys,xs=[.ref p]/\(aG X.K H p ys∨ik X.K H p ys)/\∀l,H l=none->Q (.ref l) (upd H l (.lst ys))):=by
 intro au s σ H xs us Q I r h;obtain⟨p,ys,rfl,hq,q⟩:=h;obtain⟨u,rfl,rx⟩:=vals1 r;cases rx;have fin:∀(its:List Value),Vals ys its->ys.length<=sizeLine->∀(h':Heap) (c':Nat),(∀b o',s.heap.get? b=some o'->h'.get? b=some o')->
   h'.get? s.heap.objs.size=some {cls:=.type "list",dict:=none,data:=.seq its.toArray c',slots:= #[]}->EP X au σ Q (.ref s.heap.objs.size) {s with heap:=h'}:=fun its r' hz h' c' kp e=>
  ⟨.ref s.heap.objs.size,_,I.laid (t':=s.toks) kp (Nat.le_refl _) (show gv X.prog X.w _ h' _ (.lst ys)from⟨hz,its,c',r',e⟩),rfl,q _ (I.cJ.fresh (Nat.le_refl _))⟩
 rcases hq with hq|hq
 ·obtain⟨its,r',pl,hz⟩:=I.list hq;have hlen:=r'.length;obtain⟨o,ho,hc,n,hd⟩:=pl.isList;exact call_list_seq p (.inl rfl) ho hc hd (fun h' c' kp e=>fin its r' hz h' c' kp e) (by simp only[List.size_toArray] <;> omega)
 obtain⟨its,r',pl,hz⟩:=I.tuple hq;have hlen:=r'.length;obtain⟨o,ho,hc,n,hd⟩:=pl;exact call_list_seq p (.inr rfl) ho hc hd (fun h' c' kp e=>fin its r' hz h' c' kp e) (by simp only[List.size_toArray] <;> omega)
def tyV(K:Frag)(T:String)(x:V)(H:Hp):Prop:=match x with
 | .str _=>T="str"
 | .int _=>T="int"
 | .ref p=>(T="list"/\∃xs,aG K H p xs)∨(T="tuple"/\∃o,K.lookup p=some o/\o.cls= .type "tuple"/\o.dict=none)∨
   (T="dict"/\((∃kvs,H p=some (.dK kvs))∨∃kvs,H p=some (.dT kvs)))∨(T="set"/\∃S n,H p=some (.set S n))
 |_=>False
theorem Ww{au:List (Addr×Obj)}{σ:St}{H:Hp}{s:Shared}{T:String}{x:V}{v:Value}(I:Inv X au σ H s)(r:RelV x v)(ty:tyV X.K T x H):
  s.TypeIs v T/\∀a,v= .ref a->∃ob,s.heap.get? a=some ob/\ob.dict=none:=by
 cases x with
 |str z=>
  obtain⟨t,rfl⟩:=r;cases (show T="str" from ty);exact⟨typeIs_str s z t,fun _ e=>nomatch e⟩
 |int i=>
  obtain⟨t,rfl⟩:=r;cases (show T="int" from ty);exact⟨typeIs_int s i t,fun _ e=>nomatch e⟩
 |ref p=>
  cases r;rcases ty with⟨rfl,xs,hq⟩|⟨rfl,o,hk,hc,hd⟩|⟨rfl,hk⟩|⟨rfl,S,n,hk⟩
  ·obtain⟨its,_,pl,_⟩:=I.list hq;refine⟨pl.isList.typeIs,fun a e=>?_⟩;cases e;obtain⟨o,n,e,c,hd,_⟩:=pl;exact⟨o,e,hd⟩
  ·refine⟨⟨o,I.vW p o hk,hc⟩,fun a e=>?_⟩;cases e;exact⟨o,I.vW _ o hk,hd⟩
  ·have z:∃o,s.heap.get? p=some o/\o.ExactDict:=by
    rcases hk with⟨kvs,hk⟩|⟨kvs,hk⟩
    ·obtain⟨_,_,_,_,o,_,_,e,ex,_⟩:=I.cJ p _ hk;exact⟨o,e,ex⟩
    obtain⟨_,_,_,_,o,_,_,e,ex,_⟩:=I.cJ p _ hk;exact⟨o,e,ex⟩
   obtain⟨o,e,ex⟩:=z;refine⟨⟨o,e,ex.1⟩,fun a e2=>?_⟩;cases e2;exact⟨o,e,ex.2.1⟩
  obtain⟨o,_,_,_,e,ex,_⟩:=I.cJ p _ hk;refine⟨⟨o,e,ex.1⟩,fun a e2=>?_⟩;cases e2;exact⟨o,e,ex.2.1⟩
 |_=>exact False.elim ty
def dq(K:Frag)(T:String)(r:V->List V->Hp->VK->Prop)(to:TE)(t:TA):TE:=fun σ H Q=>to σ H fun x H1=>tyV K T x H1/\t σ H1 fun xs H2=>r x xs H2 Q
variable{o e:Expr}{es:List Expr}{to:TE}{t:TA}{name:Str}{apos Cu:Pos}{T id:String}{r:V->List V->Hp->VK->Prop}
theorem uA(pa:PlainAttrs T)(slot:Slot T name id)(hty:typeOf (.builtin id)=pure (.type "method_descriptor"))(hm:Zg X id r)(ho:PE X o to)(ha:PA X (e::es) t)
  (Zh:attributeBase o name X.env (eval o X.env)=eval o X.env:=by rfl)
  (abd:((backTo Cu (starEach (e::es) X.env)).all (fun x=>!x.1)&&(backToKw Cu (keywordEach [] X.env)).all (fun x=>x.1.isSome)
   &&decide ((e::es).length+([]:List Keyword).length+(if([]:List Keyword).isEmpty then 0 else 1)<30))=true:=by rfl)
  (Zi:(apos.endLine==Cu.line)=true:=by rfl)(hs:starEach (e::es) X.env=(false,eval e X.env)::starEach es X.env:=by rfl)(Wx:(backTo Cu (starEach es X.env)).any (·.1)=false:=by rfl):
  PE X (.Call (.Attribute o name apos) (e::es) [] Cu) (dq X.K T r to t):=by
 intro au s σ H Q I h;refine wpAny_Call_method_late Zh abd Zi rfl (c8 (ho au s σ H _ I h) fun v s1 ⟨x,H1,I1,r1,ty,q1⟩=>?_);obtain⟨h1,h2⟩:=Ww I1 r1 ty;refine⟨T,id,pa,slot,hty,h1,h2,?_⟩;have hA:=ha Cu au s1 σ H1 _ I1 q1;rw[hs]at hA ⊢;refine Calls.callWith_builtin (by show(false||(backTo Cu (starEach es X.env)).any (·.1))=false;rw[Wx] <;> rfl) (Calls.evalArgs_plain ?_);exact c8 hA fun us s2 ⟨vs,H2,I2,r2,q2⟩=>hm au s2 σ H2 x vs v us Q I2 r1 r2 q2
end
def Zj(X:Cx)(id:String)(r:V->List V->Hp->VK->Prop):Prop:=
 ∀(au:List (Addr×Obj)) (s:Shared) (σ:St) (H:Hp) (x:V) (xs:List V) (v:Value) (us:List Value) (Q:VK),Inv X au σ H s->RelV x v->Vals xs us->r x xs H Q->
  wpAny (model X.prog X.w) X.A (call (.builtin id) (v::us)) (EP X au σ Q) X.xe s
theorem Vals.one:∀{x:V} {us:List Value},Vals [x] us->∃u,us=[u]/\RelV x u
 |_,_,.cons r .nil=>⟨_,rfl,r⟩
theorem Vals.rep{xs:List V}{us:List Value}(h:Vals xs us):∀k:Nat,Vals (List.replicate k xs).flatten (List.replicate k us).flatten
 |0=>.nil
 |k+1=>by
  rw[List.replicate_succ,List.replicate_succ,List.flatten_cons,List.flatten_cons];exact Vals.append h (Vals.rep h k)
theorem foldl_rep(its:List Value):∀(k:Nat) (acc:List Value),
  List.foldl (fun x1 x2=>x1++x2) acc.toArray (List.replicate k its.toArray)=(acc++(List.replicate k its).flatten).toArray
 |0,acc=>by simp
 |k+1,acc=>by
  have e:acc.toArray++its.toArray=(acc++its).toArray:=by simp
  have e2:(acc++its)++(List.replicate k its).flatten=acc++(List.replicate (k+1) its).flatten:=by
   rw[List.replicate_succ,List.flatten_cons,List.append_assoc]
  rw[<- e2,<- foldl_rep its k (acc++its),<- e,List.replicate_succ,List.foldl_cons]
section
variable{X:Cx}{au:List (Addr×Obj)}{σ:St}{H:Hp}{s:Shared}{l b:Addr}{xs ys zs:List V}
theorem Inv.UE{its its':List Value}{n:Nat}{f:Array Value->Array Value}{t':Nat}(I:Inv X au σ H s)(hH:H l=some (.lst xs))
  (e:s.heap.get? l=some {cls:=.type "list",data:=.seq its.toArray n})(hf:f its.toArray=its'.toArray)(hv:Vals ys its')(hz:ys.length<=sizeLine):
  Inv X au σ (upd H l (.lst ys)) {s with heap:=s.heap.update l (Obj.mapSeq f),toks:=t'}:=by
 have q:=PySem.IsL.update e f;rw[hf]at q;refine I.write (x:=l) (e:=l) (by rw[hH];exact trivial) (.inl rfl) (fun b' u hb hu=>(Heap.get?_update_other s.heap (Obj.mapSeq f) (Ne.symm hb)).trans hu) ⟨_,q⟩ ?_;exact⟨hz,its',_,hv,q⟩
theorem Inv.YR{its:List Value}{t':Nat}(I:Inv X au σ H s)(hv:Vals ys its)(hz:ys.length<=sizeLine):
  Inv X au σ (upd H s.heap.objs.size (.lst ys)) {s with heap:=s.heap.push {cls:=.type "list",data:=.seq its.toArray},toks:=t'}:=
 I.laid (fun _ _ q=>Heap.get?_push_of_some _ q) (Nat.le_refl _) ⟨hz,its,0,hv,Heap.get?_push_size _ rfl⟩
theorem Inv.fresh(I:Inv X au σ H s):H s.heap.objs.size=none:=I.cJ.fresh (Nat.le_refl _)
theorem Inv.HF(I:Inv X au σ H s)(hH:H l=some (.lst xs)):xs.length<=sizeLine/\∃(its:List Value) (n:Nat),Vals xs its/\xs.length=its.length/\s.heap.get? l=some {cls:=.type "list",data:=.seq its.toArray n}:=by
 obtain⟨z,its,n,r,e⟩:=I.cJ l _ hH;exact⟨z,its,n,r,r.length,e⟩
theorem En{n:Nat}(h:n<=sizeLine):Builtin.List.listTooLong n=false:=by
 unfold Builtin.List.listTooLong;exact decide_eq_false (by omega)
end
section
variable{X:Cx}
def MO:V->List V->Hp->VK->Prop:=fun x vs H Q=>∃l xs y,x= .ref l/\vs=[y]/\H l=some (.lst xs)/\xs.length<sizeLine/\Q .e7 (upd H l (.lst (xs++[y])))
theorem rG:Zj X "list.append" MO:=by
 intro au s σ H x vs v us Q I rx rv h;obtain⟨l,xs,y,rfl,rfl,hH,hz,q⟩:=h;cases rx;obtain⟨u,rfl,ru⟩:=rv.one;obtain⟨z,its,n,r,hl,e⟩:=I.HF hH;refine call_meets F.slot_list_append ⟨_,e,rfl⟩ F.entry_list_append (F.args_list_append_2 _ _) (PySem.list_append l its.toArray n u (by rw[List.size_toArray];omega)) ⟨e,?_⟩;refine⟨.e7,_,I.UE (its':=its++[u]) hH e (by simp) (r.append (.cons ru .nil)) ?_,rfl,q⟩;rw[List.length_append,List.length_singleton];omega
def UG:V->List V->Hp->VK->Prop:=fun x vs H Q=>∃l b xs zs,x= .ref l/\vs=[.ref b]/\H l=some (.lst xs)/\H b=some (.lst zs)/\xs.length+zs.length<=sizeLine/\Q .e7 (upd H l (.lst (xs++zs)))
theorem OJ:Zj X "list.extend" UG:=by
 intro au s σ H x vs v us Q I rx rv h;obtain⟨l,b,xs,zs,rfl,rfl,hH,hB,hz,q⟩:=h;cases rx;obtain⟨u,rfl,ru⟩:=rv.one;cases ru;obtain⟨z,its,n,r,hl,e⟩:=I.HF hH;obtain⟨z2,oo,n2,r2,Zk,e2⟩:=I.HF hB;have hsz:its.toArray.size+oo.toArray.size<=sizeLine:=by rw[List.size_toArray,List.size_toArray];omega
 have HG:¬(!its.toArray.isEmpty&&Builtin.List.listTooLong (its.toArray.size+oo.toArray.size))=true:=by
  rw[En hsz,Bool.and_false];exact Bool.false_ne_true
 refine call_meets F.slot_list_extend ⟨_,e,rfl⟩ F.entry_list_extend (F.args_list_extend_2 _ _)
  (AutoSeq1.list_extend_list_list_0 l its.toArray n b oo.toArray n2 HG (by rw[List.size_toArray];omega) (by omega)) ⟨e,e2,?_⟩
 refine⟨.e7,_,I.UE (its':=its++oo) hH e (by simp) (r.append r2) ?_,rfl,q⟩;rw[List.length_append];omega
def YS:R2:=fun x y H Q=>∃l b xs zs,x= .ref l/\y= .ref b/\H l=some (.lst xs)/\H b=some (.lst zs)/\xs.length+zs.length<=sizeLine/\∀p,H p=none->Q (.ref p) (upd H p (.lst (xs++zs)))
theorem lW:mU X (binaryOp .Add) YS:=by
 intro au s σ H x y v u Q I rx ry h;obtain⟨l,b,xs,zs,rfl,rfl,hH,hB,hz,q⟩:=h;cases rx;cases ry;obtain⟨z,its,n,r,hl,e⟩:=I.HF hH;obtain⟨z2,oo,n2,r2,Zk,e2⟩:=I.HF hB;refine PySem.P.add_list e e2 ?_ (by rw[List.size_toArray,List.size_toArray];omega);have ea:its.toArray++oo.toArray=(its++oo).toArray:=by simp
 rw[ea];exact⟨.ref _,_,I.YR (t':=s.toks) (r.append r2) (by rw[List.length_append];omega),rfl,q _ I.fresh⟩
def YT:R2:=fun x y H Q=>∃l k xs,x= .ref l/\y= .int k/\H l=some (.lst xs)/\ -(2 ^ 63)<=k/\k<2 ^ 63/\xs.length*k.toNat<=sizeLine/\
 ∀p,H p=none->Q (.ref p) (upd H p (.lst (List.replicate k.toNat xs).flatten))
theorem len_rep{α:Type}(xs:List α)(k:Nat):(List.replicate k xs).flatten.length=k*xs.length:=by
 induction k with
 |zero=>simp
 |succ k ih=>rw[List.replicate_succ,List.flatten_cons,List.length_append,ih,Nat.succ_mul,Nat.add_comm]
theorem qW:mU X (binaryOp .Mult) YT:=by
 intro au s σ H x y v u Q I rx ry h;obtain⟨l,k,xs,rfl,rfl,hH,h1,h2,hz,q⟩:=h;cases rx;obtain⟨t,rfl⟩:=ry;obtain⟨z,its,n,r,hl,e⟩:=I.HF hH;have hlen:its.toArray.size*k.toNat<=sizeLine:=by rw[List.size_toArray,<- hl];exact hz
 have abe:¬its.toArray.size*k.toNat>(2 ^ 63 - 1)/8:=by
  have:(sizeLine:Nat)<=(2 ^ 63 - 1)/8:=by decide
  omega
 have hfit:¬(!Builtin.List.listFitsIndex k)=true:=by
  rw[fitsIndex_both h1 h2];exact Bool.false_ne_true
 have HG:¬Builtin.List.listTooLong (its.toArray.size*k.toNat)=true:=by
  rw[En hlen];exact Bool.false_ne_true
 have abf:List.foldl (fun x1 x2=>x1++x2) #[] (List.replicate (if its.toArray.isEmpty=true then 0 else k.toNat) its.toArray)=(List.replicate k.toNat its).flatten.toArray:=by
  have f0:∀m:Nat,List.foldl (fun x1 x2=>x1++x2) #[] (List.replicate m its.toArray)=(List.replicate m its).flatten.toArray:=fun m=>by
   have:=foldl_rep its m [];rw[List.nil_append]at this;exact this
  rw[f0];cases its with
  |nil=>simp
  |cons a r'=>rw[if_neg (by simp)]
 refine wpAny_binaryOp_repeat_ref (T:="list") (U:="int") (by decide) ⟨_,e,rfl⟩ (fun s'=>typeIs_int s' k t) noFill_list_mul F.fills_int_mul F.slot_int_rmul repeat_list F.slot_int_index.lookup
  (call_meets F.slot_int_rmul (typeIs_int s k t) F.entry_int_rmul (F.args_int_rmul_2 _ _) (int___rmul___int_list k t l its.toArray n)
   ⟨e,rfl,⟨_,e,rfl⟩,call_meets F.slot_list_mul ⟨_,e,rfl⟩ F.entry_list_mul (F.args_list_mul_2 _ _) (AutoListH.list___mul___list_int_3 l its.toArray n k t hfit abe HG) ⟨e,?_⟩⟩)
 rw[abf];exact⟨.ref _,_,I.YR (t':=s.toks) (r.rep k.toNat) (by rw[len_rep,Nat.mul_comm];exact hz),rfl,q _ I.fresh⟩
end
section
variable{prog:Program}{w:World}{A:Around}{E:Value->Shared->Prop}{s:Shared}
set_option maxRecDepth 100000 in
end
theorem Vals.ints:∀{ns:List Int} {us:List Value},Vals (ns.map V.int) us->IntsAre us ns
 |[],us,h=>by
  rw[List.map_nil]at h;cases h;exact IntsAre.nil
 |n::ns,us,h=>by
  rw[List.map_cons]at h;cases h with
  |cons r t=>
   obtain⟨k,rfl⟩:=r;exact IntsAre.cons n k (Vals.ints t)
theorem Vals.Zl:∀{bs:List Bool} {us:List Value},Vals (bs.map V.bl) us->us=bs.map Value.bool
 |[],us,h=>by
  rw[List.map_nil]at h;cases h;rfl
 |b::bs,us,h=>by
  rw[List.map_cons]at h;cases h with
  |cons r t=>
   cases r;rw[Vals.Zl t,List.map_cons]
theorem Vals.RA{a:Addr}{us:List Value}(r:Vals [V.ref a] us):us=[Value.ref a]:=by
 cases r with
 |cons r t=>
  cases t;cases r;rfl
section
variable{prog:Program}{w:World}{A:Around}{E:Value->Shared->Prop}{s:Shared}{l:Addr}{its:List Value}{ns:List Int}{Q:Value->Shared->Prop}
theorem UH(hh:A.handled=none)(hl:s.heap.IsList l its.toArray)(hi:IntsAre its ns)
  (h:∀h' tk t',(∀b o,s.heap.get? b=some o->h'.get? b=some o)->Q (.int ns.sum t') {s with heap:=h',toks:=tk}):wpAny (model prog w) A (call (.builtin "sum") [.ref l]) Q E s:=by
 obtain⟨xs,e⟩:=hi.allInts.items;have hn:numsOf (intItems xs).toList=ns:=by rw[<- e];exact hi.numsOf
 rw[nums_intItems]at hn;rw[e]at hl;refine PySem.sum_intListG hh hl fun h' tk t' hk=>?_;have:=h h' tk t' hk;rw[preSum_eq,List.take_of_length_le (by simp),hn];exact this
theorem UI(hh:A.handled=none)(hl:s.heap.IsList l its.toArray)(hi:IntsAre its ns)(om:0<ns.length)
  (h:∀h' tk M t',(∀b o,s.heap.get? b=some o->h'.get? b=some o)->M∈ns->(∀a,a∈ns->a<=M)->Q (.int M t') {s with heap:=h',toks:=tk}):wpAny (model prog w) A (call (.builtin "max") [.ref l]) Q E s:=by
 obtain⟨xs,e⟩:=hi.allInts.items;have hn:numsOf (intItems xs).toList=ns:=by rw[<- e];exact hi.numsOf
 rw[nums_intItems]at hn;subst hn;rw[e]at hl;have hsz:0<xs.size:=by simpa using om
 refine PySem.max_intList hh hl hsz fun v h' tk hv hk=>?_;obtain⟨t,rfl⟩:=intItems_at hv;obtain⟨h1,h2⟩:=argBest_gt (numAt xs) (xs.size - 1);refine h h' tk _ t hk ?_ fun a ha=>?_
 ·rw[numAt_eq];exact PySem.getD_mem (by rw[List.length_map,Array.length_toList];omega)
 obtain⟨j,hj,rfl⟩:=mem_getD ha;rw[List.length_map,Array.length_toList]at hj;rw[<- numAt_eq];exact h2 j (by omega)
end
section
variable{X:Cx}
def UJ(K:Frag):List V->Hp->VK->Prop:=fun vs H Q=>∃(a:Addr) (ns:List Int),vs=[V.ref a]/\aG K H a (ns.map V.int)/\Q (.int ns.sum) H
def YU(K:Frag):List V->Hp->VK->Prop:=fun vs H Q=>∃(a:Addr) (ns:List Int),vs=[V.ref a]/\aG K H a (ns.map V.int)/\0<ns.length/\∀m,m∈ns->(∀y,y∈ns->y<=m)->Q (.int m) H
theorem fg(hc:X.calm=true):vZ X (.builtin "sum") (UJ X.K):=by
 intro au s σ H vs us Q I r h;obtain⟨a,ns,rfl,hs,q⟩:=h;obtain⟨its,rv,hl,_⟩:=I.list hs;rw[Vals.RA r];exact UH (I.ok.hd hc) hl.isList rv.ints fun h' tk t' hk=>⟨.int _,H,I.kept hk,⟨_,rfl⟩,q⟩
theorem Wy(hc:X.calm=true):vZ X (.builtin "max") (YU X.K):=by
 intro au s σ H vs us Q I r h;obtain⟨a,ns,rfl,hs,om,q⟩:=h;obtain⟨its,rv,hl,_⟩:=I.list hs;rw[Vals.RA r];exact UI (I.ok.hd hc) hl.isList rv.ints om fun h' tk m t' hk h1 h2=>⟨.int _,H,I.kept hk,⟨_,rfl⟩,q m h1 h2⟩
end
section
variable{X:Cx}
def Wz(K:Frag):V->List V->Hp->VK->Prop:=fun x xs H Q=>∃(a:Addr) (ys:List V) (y:V) (j:Nat) (z:V),x=V.ref a/\xs=[y]/\aG K H a ys/\jE y=true/\ys.all jE=true/\ys[j]? =some z/\MN z y=true/\
 (∀(m:Nat) (z':V),m<j->ys[m]? =some z'->MN z' y=false)/\Q (.int (j:Nat)) H
theorem MP{ys:List V}(f:ys.all jE=true){j:Nat}{z:V}(h:ys[j]? =some z):jE z=true:=List.all_eq_true.mp f z (List.mem_of_getElem? h)
theorem Sl:Zg X "list.index" (Wz X.K):=by
 intro au s σ H x xs v us Q I rx Zm h;obtain⟨a,ys,y,j,z,rfl,rfl,hs,fy,Zn,hz,hzj,mQ,q⟩:=h;cases rx;cases Zm with
 |cons ry rt=>
  rename_i uy ut;cases rt;obtain⟨its,rv,⟨⟨cls,dd,data,sl⟩,n,ho,hc,hdn,hd⟩,hlen⟩:=I.list hs;simp only at hc hd;subst hc hd;obtain⟨u,hu,ru⟩:=rv.get hz;obtain⟨hjl,hje⟩:=List.getElem?_eq_some_iff.mp hu;have hvl:=rv.length;have hj:j<its.toArray.size:=by simpa using hjl
  have hsl:=sizeLine_eq;refine call_meets PySem.F.slot_list_index ⟨_,ho,rfl⟩ PySem.F.entry_list_index (PySem.F.args_list_index_2 _ _)
   (SeqAt.list_indexAt a its.toArray n dd sl uy (UD y) j hj (by omega) ?_ ?_) ⟨ho,fun u' Zo=>Em ry fy rv Zn u' (by simpa using Zo),?_⟩
  ·have e1:its.toArray[j]=u:=by simpa using hje
   rw[e1,G6 ru (MP Zn hz)];exact hzj
  ·intro m hm hmj;have WA:m<its.length:=by simpa using hm
   have hmy:m<ys.length:=by omega
   have Zp:ys[m]? =some ys[m]:=List.getElem?_eq_getElem hmy;obtain⟨u2,Zq,Zr⟩:=rv.get Zp;obtain⟨_,hme⟩:=List.getElem?_eq_some_iff.mp Zq;have e1:its.toArray[m]=u2:=by simpa using hme
   rw[e1,G6 Zr (MP Zn Zp)];exact mQ m _ hmj Zp
  exact⟨.int (j:Nat),H,I.tok _,⟨_,rfl⟩,q⟩
end
theorem Kt{prog:Program}{w:World}{A:Around}{E:Value->Shared->Prop}{s:Shared}{l:Addr}{items:Array Value}{Q:Value->Shared->Prop}(hl:s.heap.IsList l items)
  (h:∀s₂:Shared,s₂={s with heap:=s.heap.push {cls:=.type "list_iterator",data:=.fields #[.ref l,.int 0 0]}}->
   (s₂.heap.IsListIter s.heap.objs.size l 0/\s₂.heap.IsList l items)->l≠s.heap.objs.size->Q (.ref s.heap.objs.size) s₂):wpAny (model prog w) A (pyIter (.ref l)) Q E s:=by
 have hlt:l<s.heap.objs.size:=by obtain⟨_,e,_⟩:=hl;exact Heap.lt_size e
 exact wpAny_pyIter_list hl (h _ rfl ⟨⟨_,Heap.get?_push_size _ rfl,rfl,rfl⟩,hl.push _⟩ (Nat.ne_of_lt hlt))
theorem Cv{prog:Program}{w:World}{A:Around}{bs:List Bool}{its:List Value}(e:its=bs.map Value.bool):
  TruthOf prog w A (fun i v=>its.toArray[i]? =some v) (fun i=>bs.getD i false):=fun i v s Q E hv hq=>by
 have Wn:its[i]? =some v:=by simpa using hv
 rw[e,List.getElem?_map]at Wn;obtain⟨b,hb,rfl⟩:=Option.map_eq_some_iff.mp Wn;have hg:bs.getD i false=b:=by rw[List.getD_eq_getElem?_getD,hb] <;> rfl
 have MG:Q (bs.getD i false) s:=hq;rw[hg]at MG;exact wpAny_truthy_bool MG
theorem any_range:∀bs:List Bool,(List.range bs.length).any (fun i=>bs.getD i false)=bs.any id
 |[]=>rfl
 |b::bs=>by
  rw[List.length_cons,List.range_succ_eq_map,List.any_cons,List.any_map,List.any_cons,<- any_range bs]
  all_goals rfl
theorem all_range:∀bs:List Bool,(List.range bs.length).all (fun i=>bs.getD i false)=bs.all id
 |[]=>rfl
 |b::bs=>by
  rw[List.length_cons,List.range_succ_eq_map,List.all_cons,List.all_map,List.all_cons,<- all_range bs]
  all_goals rfl
section
variable{X:Cx}
def abg(K:Frag):List V->Hp->VK->Prop:=fun vs H Q=>∃(a:Addr) (bs:List Bool),vs=[V.ref a]/\aG K H a (bs.map V.bl)/\Q (.bl (bs.any id)) H
def abh(K:Frag):List V->Hp->VK->Prop:=fun vs H Q=>∃(a:Addr) (bs:List Bool),vs=[V.ref a]/\aG K H a (bs.map V.bl)/\Q (.bl (bs.all id)) H
theorem WB(hc:X.calm=true):vZ X (.builtin "any") (abg X.K):=by
 intro au s σ H vs us Q I r h;obtain⟨a,bs,rfl,hs,q⟩:=h;obtain⟨its,rv,hl,_⟩:=I.list hs;rw[Vals.RA r];have hb:=rv.Zl;refine call_any_walk (Kt hl.isList fun s₂ e2 st om=>?_);subst e2;refine⟨_,_,_,_,_,_,_,rfl,Walks.list (A:=X.A.in1) (I.ok.hd hc) _ a om its.toArray,st,Cv hb,fun h' tk hk=>?_⟩;refine⟨.bl _,H,I.kept fun b o eo=>hk b o (fun hmem=>?_) (Heap.get?_push_of_some _ eo),?_,q⟩
 ·rcases List.mem_cons.mp hmem with e1|hmem
  ·exact absurd (e1▸Heap.lt_size eo) (Nat.lt_irrefl _)
  cases hmem
 show Value.bool _=Value.bool _;rw[<- any_range,hb,List.size_toArray,List.length_map]
theorem G7(hc:X.calm=true):vZ X (.builtin "all") (abh X.K):=by
 intro au s σ H vs us Q I r h;obtain⟨a,bs,rfl,hs,q⟩:=h;obtain⟨its,rv,hl,_⟩:=I.list hs;rw[Vals.RA r];have hb:=rv.Zl;refine call_all_walk (Kt hl.isList fun s₂ e2 st om=>?_);subst e2;refine⟨_,_,_,_,_,_,_,rfl,Walks.list (A:=X.A.in1) (I.ok.hd hc) _ a om its.toArray,st,Cv hb,fun h' tk hk=>?_⟩;refine⟨.bl _,H,I.kept fun b o eo=>hk b o (fun hmem=>?_) (Heap.get?_push_of_some _ eo),?_,q⟩
 ·rcases List.mem_cons.mp hmem with e1|hmem
  ·exact absurd (e1▸Heap.lt_size eo) (Nat.lt_irrefl _)
  cases hmem
 show Value.bool _=Value.bool _;rw[<- all_range,hb,List.size_toArray,List.length_map]
end
mutual
inductive Dp(K:Frag)(H:Hp):V->PyData->Prop
 |e7:Dp K H .e7 .none
 |bl (b:Bool):Dp K H (.bl b) (.bool b)
 |int (i:Int):Dp K H (.int i) (.int i)
 |str (x:Str):Dp K H (.str x) (.str x)
 |lst {a:Addr} {xs:List V} {ds:List PyData}:aG K H a xs->Bo K H xs ds->Dp K H (.ref a) (.list ds)
 |tup {a:Addr} {xs:List V} {ds:List PyData}:ik K H a xs->Bo K H xs ds->Dp K H (.ref a) (.tuple ds)
inductive Bo(K:Frag)(H:Hp):List V->List PyData->Prop
 |nil:Bo K H [] []
 |cons {v:V} {vs:List V} {d:PyData} {ds:List PyData}:Dp K H v d->Bo K H vs ds->Bo K H (v::vs) (d::ds)
end
section
variable{X:Cx}{au:List (Addr×Obj)}{σ:St}{H:Hp}{s:Shared}
mutual
theorem Dp.reads(I:Inv X au σ H s):∀(d:PyData) (v:V) (u:Value),Dp X.K H v d->RelV v u->∃as,Reads s.heap u d as
 | .none,_,_,h,r=>by
  cases h;cases r;exact⟨_,Reads.none⟩
 | .bool b,_,_,h,r=>by
  cases h;cases r;exact⟨_,Reads.bool b⟩
 | .int i,_,_,h,r=>by
  cases h;obtain⟨t,rfl⟩:=r;exact⟨_,Reads.int i t⟩
 | .str x,_,_,h,r=>by
  cases h;obtain⟨t,rfl⟩:=r;exact⟨_,Reads.str x t⟩
 | .list ds,_,_,h,r=>by
  cases h with
  |lst hs ha=>
   cases r;obtain⟨its,rv,⟨o,n,ho,hc,_,hd⟩,_⟩:=I.list hs;obtain⟨as,hr⟩:=Dp.readsAll I ds _ its ha rv;exact⟨_,Reads.list ho hc hd hr⟩
 | .tuple ds,_,_,h,r=>by
  cases h with
  |tup hs ha=>
   cases r;obtain⟨its,rv,⟨o,ho,hc,n,hd⟩,_⟩:=I.tuple hs;obtain⟨as,hr⟩:=Dp.readsAll I ds _ its ha rv;exact⟨_,Reads.tuple ho hc hd hr⟩
 | .dict _,_,_,h,_=>by cases h
theorem Dp.readsAll(I:Inv X au σ H s):∀(ds:List PyData) (vs:List V) (us:List Value),Bo X.K H vs ds->Vals vs us->∃as,ReadsAll s.heap us ds as
 |[],_,_,h,r=>by
  cases h;cases r;exact⟨_,ReadsAll.nil⟩
 |d::ds,_,_,h,r=>by
  cases h with
  |cons h1 h2=>
   cases r with
   |cons r1 r2=>
    obtain⟨as,q1⟩:=Dp.reads I d _ _ h1 r1;obtain⟨bs,q2⟩:=Dp.readsAll I ds _ _ h2 r2;exact⟨_,ReadsAll.cons q1 q2⟩
end
end
abbrev RB(h:Heap)(c:Addr)(v:Option Value):Prop:=h.IsCell c v
def abi(scope sc:Scope):Scope:=
 {scope with names:=scope.names.map fun(n,k)=>if(k== .free&&sc.kind== .function&&sc.names.lookup n==some .cell)then(n,.cell)else(n,k)}
def fo(cells:List (Str×Addr)):List (Str×NameKind)->List (Str×Addr)->List (Str×Addr)
 |[],acc=>acc
 |(n,k)::r,acc=>if k== .free then fo cells r ((n,(cells.lookup n).getD 0)::acc)else fo cells r acc
theorem AQ(env:Env)(f:Str×NameKind->List (Str×Addr)->Sem (ForInStep (List (Str×Addr))))
  (hf:∀n k c,f (n,k) c=if k== .free then(do let a <- cellOf env n;pure (.yield ((n,a)::c)))else pure (.yield c)):
  ∀(names:List (Str×NameKind)) (acc:List (Str×Addr)),(∀y∈names,y.2= .free->∃c,env.cells.lookup y.1=some c)->forIn names acc f=pure (fo env.cells names acc)
 |[],acc,_=>by rw[List.forIn_nil];rfl
 |(n,k)::r,acc,h=>by
  rw[List.forIn_cons,hf];have ih:=fun acc=>AQ env f hf r acc fun y hy=>h y (List.mem_cons_of_mem _ hy);unfold fo;by_cases hk:(k==NameKind.free)=true
  ·rw[if_pos hk,if_pos hk];obtain⟨c,hc⟩:=h (n,k) List.mem_cons_self (by simpa using hk);have e:cellOf env n=pure c:=by unfold cellOf;rw[hc]
   rw[e];have e2:(env.cells.lookup n).getD 0=c:=by rw[hc];rfl
   rw[e2];exact ih _
  rw[if_neg hk,if_neg hk];exact ih _
theorem MQ{scope:Scope}{env:Env}(h:∀y∈scope.names,y.2= .free->∃c,env.cells.lookup y.1=some c):closureFor scope env=pure (fo env.cells scope.names []):=by
 simp only[closureFor];rw[AQ env _ (fun n k c=>rfl) scope.names [] h];rfl
theorem mem_lookup{α:Type}:∀{l:List (Str×α)} {n:Str} {c:α},(n,c)∈l->∃c',l.lookup n=some c'
 |(k,v)::r,n,c,h=>by
  rw[List.lookup_cons];cases hb:n==k with
  |true=>exact⟨_,rfl⟩
  |false=>
   rcases List.mem_cons.mp h with e|h
   ·cases e;simp at hb
   exact mem_lookup h
theorem qX{cells:List (Str×Addr)}:∀{names:List (Str×NameKind)} {acc:List (Str×Addr)} {n:Str} {c:Addr},(n,c)∈fo cells names acc->(n,c)∈acc∨((n,.free)∈names/\c=(cells.lookup n).getD 0)
 |[],_,_,_,h=>.inl h
 |(m,k)::r,acc,n,c,h=>by
  unfold fo at h;split at h
  ·rename_i hk;have hk:k= .free:=by simpa using hk
   rcases qX h with h|⟨h1,h2⟩
   ·rcases List.mem_cons.mp h with e|h
    ·cases e;exact .inr ⟨hk▸List.mem_cons_self,rfl⟩
    exact .inl h
   exact .inr ⟨List.mem_cons_of_mem _ h1,h2⟩
  rcases qX h with h|⟨h1,h2⟩
  ·exact .inl h
  exact .inr ⟨List.mem_cons_of_mem _ h1,h2⟩
theorem wb{cells:List (Str×Addr)}:∀{names:List (Str×NameKind)} {acc:List (Str×Addr)} {p:Str×Addr},p∈acc->p∈fo cells names acc
 |[],_,_,h=>h
 |(m,k)::r,acc,p,h=>by
  unfold fo;split
  ·exact wb (List.mem_cons_of_mem _ h)
  exact wb h
theorem wc{cells:List (Str×Addr)}:∀{names:List (Str×NameKind)} {acc:List (Str×Addr)} {n:Str},(n,.free)∈names->(n,(cells.lookup n).getD 0)∈fo cells names acc
 |(m,k)::r,acc,n,h=>by
  unfold fo;rcases List.mem_cons.mp h with e|h
  ·cases e;exact wb List.mem_cons_self
  split
  ·exact wc h
  exact wc h
theorem rH:∀{names:List (Str×NameKind)} {h:Heap} {acc:List (Str×Addr)} {x:Str} {c:Addr},(x,c)∈cellsFrom h.objs.size names acc->
  (x,c)∈acc∨((x,.cell)∈names/\h.objs.size<=c/\RB (pushCells h names) c none)
 |[],_,_,_,_,h=>.inl h
 |(n,k)::r,h,acc,x,c,hm=>by
  unfold cellsFrom at hm;unfold pushCells;split at hm
  ·rename_i hk;rw[if_pos hk];have hk:k= .cell:=by simpa using hk
   rw[<- Heap.size_push h {cls:=.type "cell",data:=.cell none}]at hm;rcases rH hm with hm|⟨h1,h2,h3⟩
   ·rcases List.mem_cons.mp hm with e|hm
    ·cases e;exact .inr ⟨hk▸List.mem_cons_self,Nat.le_refl _,_,pushCells_keeps r _ _ _ (Heap.get?_push_size _ rfl),rfl⟩
    exact .inl hm
   rw[Heap.size_push]at h2;exact .inr ⟨List.mem_cons_of_mem _ h1,Nat.le_of_succ_le h2,h3⟩
  rename_i hk;rw[if_neg hk];rcases rH hm with hm|⟨h1,h2,h3⟩
  ·exact .inl hm
  exact .inr ⟨List.mem_cons_of_mem _ h1,h2,h3⟩
theorem wd:∀{names:List (Str×NameKind)} {n:Nat} {acc:List (Str×Addr)} {p:Str×Addr},p∈acc->p∈cellsFrom n names acc
 |[],_,_,_,h=>h
 |(m,k)::r,n,acc,p,h=>by
  unfold cellsFrom;split
  ·exact wd (List.mem_cons_of_mem _ h)
  exact wd h
theorem Bp:∀{names:List (Str×NameKind)} {n:Nat} {acc:List (Str×Addr)} {x:Str},(x,.cell)∈names->∃c,(x,c)∈cellsFrom n names acc
 |(m,k)::r,n,acc,x,h=>by
  unfold cellsFrom;rcases List.mem_cons.mp h with e|h
  ·cases e;exact⟨n,wd List.mem_cons_self⟩
  split
  ·exact Bp h
  exact Bp h
theorem Bq:∀{names:List (Str×NameKind)} {h:Heap} {acc:List (Str×Addr)} {x y:Str} {c:Addr},(∀p∈acc,p.2<h.objs.size)->(∀x y c,(x,c)∈acc->(y,c)∈acc->x=y)->
  (x,c)∈cellsFrom h.objs.size names acc->(y,c)∈cellsFrom h.objs.size names acc->x=y
 |[],_,_,_,_,_,_,hi,h1,h2=>hi _ _ _ h1 h2
 |(n,k)::r,h,acc,x,y,c,hl,hi,h1,h2=>by
  unfold cellsFrom at h1 h2;split at h1
  ·rename_i hk;rw[if_pos hk]at h2;rw[<- Heap.size_push h {cls:=.type "cell",data:=.cell none}]at h1 h2;refine Bq (h:=h.push _) (fun p hp=>?_) (fun x y c a b=>?_) h1 h2
   ·rw[Heap.size_push];rcases List.mem_cons.mp hp with rfl|hp
    ·exact Nat.lt_succ_self _
    exact Nat.lt_succ_of_lt (hl p hp)
   rcases List.mem_cons.mp a with e|a <;> rcases List.mem_cons.mp b with e'|b
   ·cases e;cases e';rfl
   ·cases e;exact absurd (hl _ b) (Nat.lt_irrefl _)
   ·cases e';exact absurd (hl _ a) (Nat.lt_irrefl _)
   exact hi _ _ _ a b
  rename_i hk;rw[if_neg hk]at h2;exact Bq hl hi h1 h2
theorem Le{M:Model}{A:Around}{E:Value->Shared->Prop}{s:Shared}{scope:Scope}{globals:Addr}{closure:List (Str×Addr)}{qual:Str}{func:Option Addr}{code:Value}{around:Env}{builtins:Addr}{Q:Env->Shared->Prop}
  (h:Q (newEnv scope s.heap.objs.size globals (cellsFrom (s.heap.objs.size+1) scope.names closure) qual func code (some around) builtins)
   {s with heap:=pushCells (s.heap.push {cls:=.type "dict",data:=.dict #[]}) scope.names}):
  wpAny M A (newFunctionEnv scope globals closure [] qual func code (some around) builtins) Q E s:=by
 simp only[newFunctionEnv,Option.isSome_some,if_true];refine wpAny_bind (wpAny_alloc ?_);refine wpAny_bind (wpAny_layCells _ (fun n k c=>rfl) scope.names closure _ _ ?_);rw[show({s with heap:=s.heap.push {cls:=.type "dict",data:=.dict #[]}}:Shared).heap.objs.size=s.heap.objs.size+1 from Heap.size_push ..];rw[List.forIn_nil];exact wpAny_bind (wpAny_pure (wpAny_pure h))
theorem we{sc:Scope}:∀{names:List (Str×NameKind)} {x:Str} {k:NameKind},
  (names.map fun(n,k)=>if(k==NameKind.free&&sc.kind== .function&&sc.names.lookup n==some .cell)then(n,NameKind.cell)else(n,k)).lookup x=some k->
  ∃k',names.lookup x=some k'/\(k=k'∨(k'= .free/\k= .cell))
 |[],_,_,h=>by simp at h
 |(n,k₀)::r,x,k,h=>by
  have ih:=@we sc r x k;have h':List.lookup x ((if(k₀==NameKind.free&&sc.kind== .function&&sc.names.lookup n==some .cell)=true then(n,NameKind.cell)else(n,k₀))::(r.map _))=some k:=h;cases hx:x==n with
  |true=>
   simp only[List.lookup_cons,hx];by_cases hc:(k₀==NameKind.free&&sc.kind== .function&&sc.names.lookup n==some .cell)=true
   ·rw[if_pos hc]at h';simp only[List.lookup_cons,hx]at h';cases h';simp only[Bool.and_eq_true,beq_iff_eq]at hc;exact⟨k₀,rfl,.inr ⟨hc.1.1,rfl⟩⟩
   rw[if_neg hc]at h';simp only[List.lookup_cons,hx]at h';cases h';exact⟨_,rfl,.inl rfl⟩
  |false=>
   simp only[List.lookup_cons,hx];by_cases hc:(k₀==NameKind.free&&sc.kind== .function&&sc.names.lookup n==some .cell)=true
   ·rw[if_pos hc]at h';simp only[List.lookup_cons,hx]at h';exact ih h'
   rw[if_neg hc]at h';simp only[List.lookup_cons,hx]at h';exact ih h'
structure HH(N:List Str)(sc scope:Scope)(own:List (Str×Nat)):Prop where
 kind:scope.kind= .function
 uniq:∀y∈scope.names,scope.names.lookup y.1=some y.2
 ix:∀p∈own,N[p.2]? =some p.1
 free:∀y∈scope.names,y.2= .free->sc.names.lookup y.1=some .cell∨sc.names.lookup y.1=some .free
 own:∀y∈scope.names,y.2= .local∨y.2= .cell->y.1∈own.map (·.1)∨y.1∉N
def wipe(σ:St):List Nat->St
 |[]=>σ
 |v::vs=>(wipe σ vs).set v none
theorem wg(σ:St):∀vs:List Nat,(wipe σ vs).length=σ.length
 |[]=>rfl
 |v::vs=>by unfold wipe;rw[List.length_set,wg σ vs]
theorem Br{σ:St}{i:Nat}{x:V}:∀{vs:List Nat},(wipe σ vs)[i]? =some (some x)->σ[i]? =some (some x)/\i∉vs
 |[],h=>⟨h,by simp⟩
 |v::vs,h=>by
  unfold wipe at h;by_cases hi:v=i
  ·subst hi;by_cases hv:v<(wipe σ vs).length
   ·rw[List.getElem?_set_self hv]at h;cases h
   rw[List.getElem?_eq_none (by simpa using hv)]at h;cases h
  rw[List.getElem?_set_ne hi]at h;obtain⟨h1,h2⟩:=Br h;exact⟨h1,by simp only[List.mem_cons,not_or];exact⟨fun e=>hi e.symm,h2⟩⟩
abbrev Cx.wj(X:Cx)(s:Shared)(H:Hp)(scope:Scope)(iN:Env)(fp:List Addr):Cx:={X with tw:=s,R7:=H,env:=iN,bP:=X.stack,ex:=fp,fn:=fun x=>scope.names.lookup x==some .cell,pn:=[],xe:=fun _ _=>False}
section
variable{X:Cx}{au:List (Addr×Obj)}{σ:St}{H:Hp}{s:Shared}
theorem Lf{scope:Scope}{own:List (Str×Nat)}{fp:List Addr}(I:Inv X au σ H s)(ok:HH X.N X.env.scope scope own)(hN:X.N.Nodup)(Sn:∀b∈fp,wR X au H b/\b<s.heap.objs.size):
  Inv (X.wj s H scope (compEnvC scope (cellsFrom (s.heap.objs.size+1) scope.names (fo X.env.cells scope.names [])) s.heap.objs.size X.env) fp) [] (wipe σ (own.map (·.2))) H {s with heap:=pushCells (s.heap.push {cls:=.type "dict",data:=.dict #[]}) scope.names}:=by
 have Eg:∀y∈scope.names,y.2= .free->∃c,X.env.cells.lookup y.1=some c:=fun y hy e=>by
  rcases ok.free y hy e with k|k
  ·exact I.ok.has _ (.inl k)
  exact I.ok.has _ (.inr k)
 generalize HI:compEnvC scope (cellsFrom (s.heap.objs.size+1) scope.names (fo X.env.cells scope.names [])) s.heap.objs.size X.env=iN;have kp:∀b o,s.heap.get? b=some o->(pushCells (s.heap.push {cls:=.type "dict",data:=.dict #[]}) scope.names).get? b=some o:=fun b o e=>pushCells_keeps _ _ _ _ (Heap.get?_push_of_some _ e);have hL:iN.locals=s.heap.objs.size:=by rw[<- HI];rfl
 have hcl:iN.cells=cellsFrom (s.heap.objs.size+1) scope.names (fo X.env.cells scope.names []):=by rw[<- HI];rfl
 have Zs:iN.scope=abi scope X.env.scope:=by rw[<- HI];rfl
 rw[<- Heap.size_push s.heap {cls:=.type "dict",data:=.dict #[]}]at hcl;have cm:∀{y c},(y,c)∈fo X.env.cells scope.names []->X.env.cells.lookup y=some c/\c<s.heap.objs.size:=fun{y c} hm=>by
  rcases qX hm with hm|⟨h1,rfl⟩
  ·cases hm
  obtain⟨c,hc⟩:=Eg _ h1 rfl;rw[hc];obtain⟨w,z⟩:=I.cell _ _ hc;exact⟨rfl,z.lt⟩
 have mem:∀{y c},iN.cells.lookup y=some c->(X.env.cells.lookup y=some c/\c<s.heap.objs.size)∨(s.heap.objs.size+1<=c/\RB (pushCells (s.heap.push {cls:=.type "dict",data:=.dict #[]}) scope.names) c none):=fun{y c} e=>by
  rw[hcl]at e;rcases rH (PySem.mem_of_lookup e)with hm|⟨_,h2,h3⟩
  ·exact .inl (cm hm)
  rw[Heap.size_push]at h2;exact .inr ⟨h2,h3⟩
 have look:∀{y},scope.names.lookup y=some .free->∃c,iN.cells.lookup y=some c/\X.env.cells.lookup y=some c:=fun{y} hl=>by
  have hy:(y,NameKind.free)∈scope.names:=PySem.mem_of_lookup hl;obtain⟨c',e'⟩:=mem_lookup (wd (names:=scope.names) (n:=(s.heap.push {cls:=.type "dict",data:=.dict #[]}).objs.size) (wc (cells:=X.env.cells) (acc:=[]) hy));rw[<- hcl]at e';refine⟨c',e',?_⟩;rw[hcl]at e';rcases rH (PySem.mem_of_lookup e')with hm|⟨h1,_,_⟩
  ·exact(cm hm).1
  have:=ok.uniq _ h1;rw[hl]at this;cases this
 have okB:(X.wj s H scope iN fp).Ok:=by
  refine⟨I.ok.mod,by show iN.scope.kind=_;rw[Zs];exact ok.kind,by show iN.globals=_;rw[<- HI];exact I.ok.glob,by show iN.builtins=_;rw[<- HI];exact I.ok.blt,by show s.heap.objs.size<=iN.locals;rw[hL];exact Nat.le_refl _,
   fun y z c e1 e2=>?_,fun y hy=>?_,fun y c z e=>?_,I.ok.hd,I.ok.frames,.inl rfl,fun b hb=>⟨?_,fun y c e z=>?_⟩,I.bs,Nat.le_trans I.ok.Gb I.sz,fun b o e hb=>?_,fun b hb z=>?_,I.stack,I.Mo⟩
  ·have e1:iN.cells.lookup y=some c:=e1;have e2:iN.cells.lookup z=some c:=e2;rw[hcl]at e1 e2;refine Bq (fun p hp=>?_) (fun y z c a b=>I.ok.inj y z c (cm a).1 (cm b).1) (PySem.mem_of_lookup e1) (PySem.mem_of_lookup e2);rw[Heap.size_push];exact Nat.lt_succ_of_lt (cm (y:=p.1) (c:=p.2) hp).2
  ·show ∃c,iN.cells.lookup y=some c;have key:∀k,iN.kindOf y=some k->(k= .cell∨k= .free)->∃c,iN.cells.lookup y=some c:=fun k hk Zt=>by
    unfold Env.kindOf at hk;rw[Zs]at hk;obtain⟨k',e,r⟩:=we hk;have:k'= .cell∨k'= .free:=by
     rcases r with rfl|⟨rfl,_⟩
     ·exact Zt
     exact .inr rfl
    rcases this with rfl|rfl
    ·obtain⟨c,hm⟩:=Bp (n:=(s.heap.push {cls:=.type "dict",data:=.dict #[]}).objs.size) (acc:=fo X.env.cells scope.names []) (PySem.mem_of_lookup e);obtain⟨c',e'⟩:=mem_lookup hm;exact⟨c',by rw[hcl];exact e'⟩
    obtain⟨c,h1,_⟩:=look e;exact⟨c,h1⟩
   rcases hy with hy|hy
   ·exact key _ hy (.inl rfl)
   exact key _ hy (.inr rfl)
  ·have z:(scope.names.lookup y==some NameKind.cell)=true:=z;have z:scope.names.lookup y=some .cell:=by simpa using z
   have e:iN.cells.lookup y=some c:=e;rw[hcl]at e;rcases rH (PySem.mem_of_lookup e)with hm|⟨_,h2,_⟩
   ·rcases qX hm with hm|⟨h1,_⟩
    ·cases hm
    have q:=ok.uniq _ h1;rw[z]at q;cases q
   rw[Heap.size_push]at h2;exact Nat.le_of_succ_le h2
  ·show b≠iN.locals;rw[hL];exact Nat.ne_of_lt (Sn b hb).2
  ·have e:iN.cells.lookup y=some c:=e;rcases mem e with⟨h1,_⟩|⟨h1,_⟩
   ·exact(Sn b hb).1.2.2.2.2.1 y c h1 z
   have h2:s.heap.objs.size+1<=b:=by rw[<- z];exact h1
   exact absurd (Nat.lt_of_lt_of_le (Sn b hb).2 (Nat.le_of_succ_le h2)) (Nat.lt_irrefl _)
  ·rcases(Sn b hb).1.2.2.2.1 with z|z
   ·exact I.ok.Ml b o e z
   exact absurd (Nat.lt_of_lt_of_le (Heap.lt_size e) (Nat.le_trans I.ok.Gb z)) (Nat.lt_irrefl _)
  rcases List.mem_cons.mp (I.G2 b z)with z|z
  ·exact(Sn b hb).1.2.1 z
  exact(Sn b hb).1.2.2.1 z
 refine⟨okB,rfl,I.bare,Un.kept kp,⟨fun _=>none,?_,fun i y av e1 e2 e3=>?_⟩,fun y c e=>?_,?_,fun y c e=>?_,fun p hp=>?_,I.cJ.kept kp,by rw[wg];exact I.len⟩
 ·show Heap.Ns _ iN.locals _;rw[hL];exact Heap.Ns.keeps (Heap.Ns.new ..) fun b o e=>pushCells_keeps _ _ _ _ e
 ·obtain⟨e2,om⟩:=Br e2;have WC:scope.names.lookup y=some .free/\(iN.kindOf y=some .cell∨iN.kindOf y=some .free):=by
   have key:∀k,iN.scope.names.lookup y=some k->k= .local∨k= .cell∨k= .free->scope.names.lookup y=some .free/\(iN.kindOf y=some .cell∨iN.kindOf y=some .free):=fun k hk Zt=>by
    have hk0:=hk;rw[Zs]at hk;obtain⟨k',e,r⟩:=we hk;have no:¬(k'= .local∨k'= .cell):=fun hh=>by
     rcases ok.own _ (PySem.mem_of_lookup e) hh with e'|e'
     ·obtain⟨p,hp,hpy⟩:=List.mem_map.mp e';have e3:=ok.ix p hp;have:p.1=y:=hpy;rw[this]at e3;exact om (List.mem_map.mpr ⟨p,hp,Ef hN e3 e1⟩)
     exact e' (List.mem_of_getElem? e1)
    rcases r with rfl|⟨rfl,rfl⟩
    ·rcases Zt with rfl|rfl|rfl
     ·exact absurd (.inl rfl) no
     ·exact absurd (.inr rfl) no
     exact⟨e,.inr hk0⟩
    exact⟨e,.inl hk0⟩
   have e3:Oq iN.scope y:=e3;rcases e3 with e3|e3|e3
   ·exact key _ e3 (.inl rfl)
   ·exact key _ e3 (.inr (.inl rfl))
   exact key _ e3 (.inr (.inr rfl))
  obtain⟨m,hn,hl⟩:=I.loc;have abj:Oq X.env.scope y:=(ok.free _ (PySem.mem_of_lookup WC.1) rfl).elim (fun k=>.inr (.inl k)) (fun k=>.inr (.inr k));obtain⟨w,r,q⟩:=hl i y av e1 e2 abj;refine⟨w,r,.inr ⟨WC.2,?_⟩⟩;obtain⟨c,h1,h2⟩:=look WC.1;rcases q with⟨k,_⟩|⟨_,c',e',z⟩
  ·have k:X.env.scope.names.lookup y=some .local:=k;rcases ok.free _ (PySem.mem_of_lookup WC.1) rfl with k'|k' <;> rw[show X.env.scope.names.lookup y=_ from k']at k <;> cases k
  rw[h2]at e';cases e';exact⟨c,h1,z.keeps kp⟩
 ·have e:iN.cells.lookup y=some c:=e;rcases mem e with⟨h1,_⟩|⟨_,z⟩
  ·obtain⟨w,z⟩:=I.cell y c h1;exact⟨w,z.keeps kp⟩
  exact⟨_,z⟩
 ·show H iN.locals=none;rw[hL];exact I.cJ.fresh (Nat.le_refl _)
 ·have e:iN.cells.lookup y=some c:=e;rcases mem e with⟨h1,_⟩|⟨h1,_⟩
  ·exact I.oB y c h1
  exact I.cJ.fresh (Nat.le_of_succ_le h1)
 exact absurd (show p∈([]:List (Addr×Obj))++[]from hp) (by simp)
theorem WD{E:Value->Shared->Prop}{D:Addr}{xs:List V}{y:V}{v:Value}{Q:Value->Shared->Prop}(I:Inv X au σ H s)(hD:H D=some (.lst xs))(hz:xs.length<sizeLine)(r:RelV y v)
  (h:∀s',Inv X au σ (upd H D (.lst (xs++[y]))) s'->Q .none s'):wpAny (model X.prog X.w) X.A (call (.builtin "list.append") [.ref D,v]) Q E s:=by
 obtain⟨hz',its,n,ri,e⟩:=I.cJ D _ hD;have hl:=ri.length;refine append_at (hsz:=by rw[List.size_toArray];omega) e fun h' sb Ad=>?_;refine h {s with heap:=h'} (I.write (t':=s.toks) (by rw[hD];trivial) (.inl rfl) (fun b u hb q=>(sb.2 b hb).trans q) ⟨_,Ad⟩ ⟨by rw[List.length_append];exact hz,its++[v],n+1,ri.append (.cons r .nil),?_⟩);rw[Ad];simp
def UK(X:Cx)(ifs:List Expr)(t:TT):Prop:=
 ∀(au:List (Addr×Obj)) (s:Shared) (σ:St) (H:Hp) (Q:Bool->Hp->Prop),Inv X au σ H s->t σ H Q->
  wpAny (model X.prog X.w) X.A (forIn ifs true fun c r=>if r=true then do let ok <- isTrue c X.env (eval c X.env);pure (ForInStep.yield ok)else pure (ForInStep.yield r)) (TP X au σ Q) X.xe s
def cj:TT:=fun _ H Q=>Q true H
theorem fq:UK X [] cj:=fun _ _ _ H _ I h=>wpAny_tests_nil ⟨H,I,h⟩
theorem yb{c:Expr}{t:TT}(h:PT X c t):UK X [c] t:=fun au s σ H Q I hw=>wpAny_tests_one (h au s σ H Q I hw)
end
theorem Ku{α:Type}{t:Sem α}{Q Q':α->Shared->Prop}{M:Model}{A:Around}{E:Value->Shared->Prop}{s:Shared}(h:wpAny M A t Q (fun _ _=>False) s)(hQ:∀a s,Q a s->Q' a s):wpAny M A t Q' E s:=wpAny_mono h hQ fun _ _ z=>False.elim z
theorem JH{prog:Program}{w:World}{A:Around}{R:Result->Shared->Prop}{s:Shared}{elt target iter:Expr}{ifs:List Expr}{scope:Scope}{pos:Pos}{it acc:Value}{env:Env}(I:Nat->Shared->Prop)
  (turn:∀n s,I n s->wpAny (model prog w) A (pyNext it) (fun r s₁=>match r with
   |none=>R (.ok .next) s₁
   |some v=>wpAny (model prog w) A (letOwnedTupleGo target it v) (fun _ abk=>wpAny (model prog w) A (assign target env v) (fun _ s₂=>
     wpAny (model prog w) A (forIn ifs true fun c r=>if r=true then do let ok <- isTrue c env (eval c env);pure (ForInStep.yield ok)else pure (ForInStep.yield r)) (fun ok s₃=>
      if ok=true then wpAny (model prog w) A (eval elt env) (fun x s₄=>
       wpAny (model prog w) A (call (.builtin "list.append") [acc,x]) (fun _ s₅=>∃m,m<n/\I m s₅) (notedBy (model prog w) A env fun e s'=>R (.error e) s') s₄) (notedBy (model prog w) A env fun e s'=>R (.error e) s') s₃
      else ∃m,m<n/\I m s₃) (notedBy (model prog w) A env fun e s'=>R (.error e) s') s₂) (notedBy (model prog w) A env fun e s'=>R (.error e) s') abk) (notedBy (model prog w) A env fun e s'=>R (.error e) s') s₁) (notedBy (model prog w) A env fun e s'=>R (.error e) s') s)
  (n:Nat)(h:I n s):
  codeAny (model prog w) A (.compLoop (.ListComp elt [⟨target,iter,ifs,0⟩] scope pos) 0 it acc env) R s:=by
 refine codeAny_loop rfl I (fun n s hI=>?_) n h;show wpAny _ A ((compTurn (.ListComp elt [⟨target,iter,ifs,0⟩] scope pos) 0 it acc env).onRaise (fun x=>do noteFrame x env;theTreesLotGoes x)) _ _ s;refine wpAny_noted ?_;rw[compTurn_list];refine wpAny_bind (wpAny_standAt (wpAny_bind (wpAny_mono (turn n s hI) (fun r s₁ h₁=>?_) fun _ _ h'=>h')));cases r with
 |none=>exact wpAny_pure h₁
 |some v=>
  refine wpAny_bind (wpAny_mono h₁ (fun _ abk abW=>?_) fun _ _ h'=>h');refine wpAny_bind (wpAny_mono abW (fun _ s₂ h₂=>wpAny_bind (wpAny_mono h₂ (fun ok s₃ h₃=>?_) fun _ _ h'=>h')) fun _ _ h'=>h');cases ok with
  |false=>exact wpAny_pure ⟨rfl,h₃⟩
  |true=>
   exact wpAny_bind (wpAny_bind (wpAny_mono h₃ (fun x s₄ h₄=>wpAny_bind (wpAny_mono h₄ (fun _ s₅ h₅=>wpAny_pure (wpAny_pure ⟨rfl,h₅⟩)) fun _ _ h'=>h')) fun _ _ h'=>h'))
section
variable{X:Cx}
def HJ(wi:TI)(g:TG)(tt:TT)(te:TE)(vs:List Nat):TE:=fun σ H Q=>wi σ H fun J H1=>∀D,H1 D=none->∃W:Nat->Nat->Hp->Prop,(∃m,W 0 m (upd H1 D (.lst [])))/\∀i m H,W i m H->
 (J.stop i H/\Q (.ref D) H)∨(J.go i H/\∃Nx:Hp->Prop,(∀H',Nx H'->∃m',m'<m/\W (i+1) m' H')/\∀x H',J.Mw i H x H'->g x (wipe σ vs) H' fun σ2 H2=>wipe σ2 vs=wipe σ vs/\tt σ2 H2 fun b H3=>
  if b=true then te σ2 H3 fun y H4=>∃acc,H4 D=some (.lst acc)/\acc.length<sizeLine/\Nx (upd H4 D (.lst (acc++[y])))else Nx H3)
theorem MR{au:List (Addr×Obj)}{s:Shared}{σ:St}{H:Hp}{Q:VK}{elt tg iter:Expr}{ifs:List Expr}{scope:Scope}{own:List (Str×Nat)}{pos pos':Pos}{wi:TI}{g:TG}{tt:TT}{te:TE}{use:Option (Value->Sem Unit)}{Qf:Value->Shared->Prop}
  (hc:X.calm=true)(hN:X.N.Nodup)(I:Inv X au σ H s)(hi:PI X tg iter wi)(ok:HH X.N X.env.scope scope own)
  (hg:∀(s:Shared) (H:Hp) (C:Addr) (cl:List (Str×Addr)) (fp:List Addr),PG (X.wj s H scope (compEnvC scope cl C X.env) fp) tg g)(ht:∀(s:Shared) (H:Hp) (C:Addr) (cl:List (Str×Addr)) (fp:List Addr),UK (X.wj s H scope (compEnvC scope cl C X.env) fp) ifs tt)
  (he:∀(s:Shared) (H:Hp) (C:Addr) (cl:List (Str×Addr)) (fp:List Addr),PE (X.wj s H scope (compEnvC scope cl C X.env) fp) elt te)(hs:∀x,foldedSetIterable iter X.env x=pure x)
  (h:HJ wi g tt te (own.map (·.2)) σ H Q)
  (hRR:∀D C s' m H',Inv X au σ H' s'->Q (.ref D) H'->s'.heap.Ns C m->wR X au H' C->compPost (model X.prog X.w) X.A X.xe use Qf (.ref D) C (.ok .next) s'):
  wpAny (model X.prog X.w) X.A (comprehension (.ListComp elt [⟨tg,iter,ifs,0⟩] scope pos) scope X.env pos' (newList []) false (eval iter X.env) use) Qf X.xe s:=by
 have Eg:∀y∈scope.names,y.2= .free->∃c,X.env.cells.lookup y.1=some c:=fun y hy e=>by
  rcases ok.free y hy e with k|k
  ·exact I.ok.has _ (.inl k)
  exact I.ok.has _ (.inr k)
 refine wpAny_comprehension_free (use:=use) rfl hs (MQ Eg) ok.kind (fun y hy e=>by rw[ok.uniq y hy,e])
  (c8 (hi au s σ H _ I h) fun xv s1 hx=>c8 hx fun Zb s2 h2=>?_)
 obtain⟨it,fp,tn,J,H2,e,I2,T,Wl,f2,q⟩:=h2;subst e;refine wpAny_newObj_type (Le ?_) (by show 0<=sizeLine;decide);generalize hD:s2.heap.objs.size=D;have hDn:H2 D=none:=I2.cJ.fresh (Nat.le_of_eq hD);obtain⟨W,⟨m0,w0⟩,turn⟩:=q D hDn;generalize hs3:({s2 with heap:=s2.heap.push {cls:=.type "list",data:=.seq ([]:List Value).toArray}}:Shared)=s3;have I3:Inv X au σ (upd H2 D (.lst [])) s3:=by
  rw[<- hs3];refine I2.laid (t':=s2.toks) (fun b o e=>Heap.get?_push_of_some _ e) (Nat.le_of_eq hD) ⟨Nat.zero_le _,[],0,.nil,?_⟩;rw[<- hD];exact Heap.get?_push_size _ rfl
 have h3:s3.heap=s2.heap.push {cls:=.type "list",data:=.seq ([]:List Value).toArray}:=by rw[<- hs3]
 have sz:∀b∈fp,b<s2.heap.objs.size:=fun b hb=>by
  obtain⟨o,e,_⟩:=T.obj _ _ Wl b hb;exact Heap.lt_size e
 have f3:∀b∈fp,wR X au (upd H2 D (.lst [])) b/\b<s3.heap.objs.size:=fun b hb=>by
  have hlt:=sz b hb;refine⟨⟨?_,(f2 b hb).2⟩,by rw[h3,Heap.size_push];exact Nat.lt_succ_of_lt hlt⟩;rw[aE (by rw[<- hD];exact Nat.ne_of_lt hlt)];exact(f2 b hb).1
 have Wm:tn 0 s3.heap:=T.keep _ _ _ Wl fun b _ o e=>by rw[h3];exact Heap.get?_push_of_some _ e
 have I4:=Lf I3 ok hN f3;have pg:=hg s3 (upd H2 D (.lst [])) s3.heap.objs.size (cellsFrom (s3.heap.objs.size+1) scope.names (fo X.env.cells scope.names [])) fp;have pt:=ht s3 (upd H2 D (.lst [])) s3.heap.objs.size (cellsFrom (s3.heap.objs.size+1) scope.names (fo X.env.cells scope.names [])) fp;have pe:=he s3 (upd H2 D (.lst [])) s3.heap.objs.size (cellsFrom (s3.heap.objs.size+1) scope.names (fo X.env.cells scope.names [])) fp;show codeAny _ _ (.compStart (.ListComp elt [⟨tg,iter,ifs,0⟩] scope pos) 0 (.ref it) (.ref D) (compEnvC scope (cellsFrom (s3.heap.objs.size+1) scope.names (fo X.env.cells scope.names [])) s3.heap.objs.size X.env)) (compPost (model X.prog X.w) X.A X.xe use Qf (.ref D) s3.heap.objs.size) {s3 with heap:=pushCells (s3.heap.push {cls:=.type "dict",data:=.dict #[]}) scope.names};have nfp:∀b∈fp,(upd H2 D (.lst [])) b=none:=fun b hb=>(f3 b hb).1.1;generalize hce:compEnvC scope (cellsFrom (s3.heap.objs.size+1) scope.names (fo X.env.cells scope.names [])) s3.heap.objs.size X.env=ce at I4 pg pt pe ⊢;have cL:ce.locals=s3.heap.objs.size:=by subst hce;rfl
 generalize hH3:upd H2 D (.lst [])=H3 at I3 I4 pg pt pe w0 nfp f3;generalize hs4:({s3 with heap:=pushCells (s3.heap.push {cls:=.type "dict",data:=.dict #[]}) scope.names}:Shared)=s4 at I4 ⊢;have WE:tn 0 s4.heap:=T.keep _ _ _ Wm fun b _ o e=>by rw[<- hs4];exact pushCells_keeps _ _ _ _ (Heap.get?_push_of_some _ e)
 have Hq:∀{σ':St} {H':Hp} {s':Shared},Inv (X.wj s3 H3 scope ce fp) [] σ' H' s'->(∀b∈fp,H' b=none)->∀b∈fp,wR (X.wj s3 H3 scope ce fp) [] H' b:=fun{σ' H' s'} I' hn b hb=>
  ⟨hn b hb,(I'.ok.We b hb).1,I'.ok.Mm b hb,.inl hb,fun x c e=>(I'.ok.We b hb).2 x c e,fun p hp=>absurd (show p∈([]:List (Addr×Obj))++[]from hp) (by simp)⟩
 have loop:codeAny (model X.prog X.w) X.A (.compLoop (.ListComp elt [⟨tg,iter,ifs,0⟩] scope pos) 0 (.ref it) (.ref D) ce) (compPost (model X.prog X.w) X.A X.xe use Qf (.ref D) s3.heap.objs.size) s4:=by
  refine JH (fun n s'=>∃i H',Inv (X.wj s3 H3 scope ce fp) [] (wipe σ (own.map (·.2))) H' s'/\tn i s'.heap/\(∀b∈fp,H' b=none)/\W i n H') ?_ m0 ⟨0,H3,I4,WE,nfp,w0⟩;rintro n s5 ⟨i,H5,I5,Sd,n5,w5⟩;rcases turn i n H5 w5 with⟨stop,qq⟩|⟨go,Nx,hNx,step⟩
  ·have td:=T.done (X.wj s3 H3 scope ce fp) rfl rfl rfl hc i [] s5 _ H5 (fun _ _=>False) I5 (Hq I5 n5) Sd stop;refine Ku td fun r s6 ⟨hr,I6⟩=>?_;subst hr;have I7:Inv X au σ H5 s6:=I3.Ue (ch:=fp) I6.os I6.ae I6.cJ I6.bare fun b hb=>⟨(f3 b hb).1.2.2.2.1,(f3 b hb).1.2.1,(f3 b hb).1.2.2.2.2.1,(f3 b hb).1.2.2.2.2.2⟩;have nC:H5 s3.heap.objs.size=none:=by
    have z:H5 ce.locals=none:=I6.free;rw[cL]at z;exact z
   obtain⟨m,hn,_⟩:=I6.loc;have hn:s6.heap.Ns ce.locals m:=hn;rw[cL]at hn;exact hRR D s3.heap.objs.size s6 m H5 I7 qq hn (I3.Ko (Nat.le_refl _) nC)
  have ti:=T.item (X.wj s3 H3 scope ce fp) rfl rfl rfl hc i [] s5 _ H5 (fun _ _=>False) I5 (Hq I5 n5) Sd go;refine Ku ti fun r s6 ⟨u,hr,h6⟩=>?_;subst hr;refine Ku h6 fun _ s7 ⟨x,H7,I7,r7,y7,Zu,n7⟩=>?_;have I7':=I7.pinned (Hq I7 n7) (T.obj _ _ Zu);refine Ku (pg _ s7 _ H7 x u _ I7' r7 (step x H7 y7)) fun _ s8 ⟨σ8,H8,I8,hw8,q8⟩=>?_;refine Ku (pt _ s8 σ8 H8 _ I8 q8) fun b s9 ⟨H9,I9,q9⟩=>?_;have fin:∀{s':Shared} {H':Hp},Inv (X.wj s3 H3 scope ce fp) ([]++Cp fp s7.heap) σ8 H' s'->Nx H'->∃m,m<n/\∃i H',Inv (X.wj s3 H3 scope ce fp) [] (wipe σ (own.map (·.2))) H' s'/\tn i s'.heap/\(∀b∈fp,H' b=none)/\W i m H':=fun{s' H'} I' nx=>by
   obtain⟨m',hm,w'⟩:=hNx H' nx;have YV:∀b∈fp,∀o,s7.heap.get? b=some o->s'.heap.get? b=some o/\H' b=none:=fun b hb o e=>
    let z:=I'.pin (b,o) (List.mem_append_right _ (List.mem_append_right _ (xV hb e)))
    ⟨z.1,z.2.1⟩
   have hl:(wipe σ (own.map (·.2))).length=σ8.length:=by rw[<- hw8,wg]
   refine⟨m',hm,i+1,H',(I'.zL (au:=[])).weak hl (fun j v e=>?_),T.keep _ _ _ Zu fun b hb o e=>(YV b hb o e).1,fun b hb=>?_,w'⟩
   ·rw[<- hw8]at e;exact(Br e).1
   obtain⟨o,e,_⟩:=T.obj _ _ Zu b hb;exact(YV b hb o e).2
  cases b with
  |false=>
   simp only[Bool.false_eq_true,if_false]at q9 ⊢;exact fin I9 q9
  |true=>
   simp only[if_true]at q9 ⊢;refine Ku (pe _ s9 σ8 H9 _ I9 q9) fun z WG ⟨yv,H10,I10,MS,acc,abl,abm,nx⟩=>?_;exact WD (X:=X.wj s3 H3 scope ce fp) I10 abl abm MS fun s11 I11=>fin I11 nx
 exact codeAny_compStart_list loop (T.self X.A 0 _ _ _ WE loop)
theorem lh{elt tg iter:Expr}{ifs:List Expr}{scope:Scope}{own:List (Str×Nat)}{pos:Pos}{wi:TI}{g:TG}{tt:TT}{te:TE}(hc:X.calm=true)(hN:X.N.Nodup)(hi:PI X tg iter wi)(ok:HH X.N X.env.scope scope own)
  (hg:∀(s:Shared) (H:Hp) (C:Addr) (cl:List (Str×Addr)) (fp:List Addr),PG (X.wj s H scope (compEnvC scope cl C X.env) fp) tg g)(ht:∀(s:Shared) (H:Hp) (C:Addr) (cl:List (Str×Addr)) (fp:List Addr),UK (X.wj s H scope (compEnvC scope cl C X.env) fp) ifs tt)
  (he:∀(s:Shared) (H:Hp) (C:Addr) (cl:List (Str×Addr)) (fp:List Addr),PE (X.wj s H scope (compEnvC scope cl C X.env) fp) elt te)(hs:∀x,foldedSetIterable iter X.env x=pure x:=by intro _;rfl):
  PE X (.ListComp elt [⟨tg,iter,ifs,0⟩] scope pos) (HJ wi g tt te (own.map (·.2))):=by
 intro au s σ H Q I h;rw[eval_ListComp];refine MR hc hN I hi ok hg ht he hs h fun D C s' m H' I' q hn f=>⟨m,hn,fun MT sb=>?_⟩;obtain⟨f0,f1,f2,f3,f4,f5⟩:=f;exact⟨.ref D,H',I'.turned (t':=s'.toks) (fun b o hb e=>(sb.2 b hb).trans e) f0 f1 f3 f4 f5,rfl,q⟩
theorem j2{i:Nat}{y:Str}{py:Pos}{elt tg iter:Expr}{ifs:List Expr}{scope:Scope}{own:List (Str×Nat)}{pos YW:Pos}{wi:TI}{g:TG}{tt:TT}{te:TE}(hc:X.calm=true)(hN:X.N.Nodup)(hy:X.N[i]? =some y)(hyl:X.env.scope.names.lookup y=some .local)
  (kn:swapsWith (.ListComp elt [⟨tg,iter,ifs,0⟩] scope pos) (some (.Name y py)) YW.line X.env=pure true)(hi:PI X tg iter wi)(ok:HH X.N X.env.scope scope own)
  (hg:∀(s:Shared) (H:Hp) (C:Addr) (cl:List (Str×Addr)) (fp:List Addr),PG (X.wj s H scope (compEnvC scope cl C X.env) fp) tg g)(ht:∀(s:Shared) (H:Hp) (C:Addr) (cl:List (Str×Addr)) (fp:List Addr),UK (X.wj s H scope (compEnvC scope cl C X.env) fp) ifs tt)
  (he:∀(s:Shared) (H:Hp) (C:Addr) (cl:List (Str×Addr)) (fp:List Addr),PE (X.wj s H scope (compEnvC scope cl C X.env) fp) elt te)(hs:∀x,foldedSetIterable iter X.env x=pure x:=by intro _;rfl):
  PS X (.Assign [.Name y py] (.ListComp elt [⟨tg,iter,ifs,0⟩] scope pos) YW) (bN (HJ wi g tt te (own.map (·.2))) (bc i)):=by
 intro au s σ H D I h;rw[exec_Assign_Name_used _ _ _ _ kn];refine wpAny_bind (wpAny_standAt (wpAny_bind ?_));show wpAny _ X.A (do let _ <- comprehension (.ListComp elt [⟨tg,iter,ifs,0⟩] scope pos) scope X.env (firstIterPos [⟨tg,iter,ifs,0⟩] pos) (newList []) false (eval iter X.env) (some (assign (.Name y py) X.env))) _ _ s;have h:HJ wi g tt te (own.map (·.2)) σ H (fun x H1=>bc i x σ H1 D.nx):=h;refine wpAny_bind (c8 (MR (Qf:=fun _ s'=>SP X au D .next s') hc hN I hi ok hg ht he hs h fun L C s' m H' I' q hn f=>?_) fun _ s' hq=>wpAny_pure (wpAny_pure hq));show wpAny _ _ (assign (.Name y py) X.env (.ref L)) _ _ _;refine wpAny_assign_Name (Hl (v:=V.ref L) I' hN hy (.inl hyl) rfl (fun s2 I2 ⟨a,sb,ha⟩=>?_) (.inr hyl));obtain⟨f0,f1,f2,f3,f4,f5⟩:=f;have haC:C≠a:=by
  rcases ha with z|z
  ·rw[z];exact f1
  exact fun e=>f4 y a z e.symm
 refine⟨m,hn.sameBut sb haC,fun h3 sb3=>?_⟩;exact⟨_,H',I2.turned (t':=s2.toks) (fun b o hb e=>(sb3.2 b hb).trans e) f0 f1 f3 f4 f5,q⟩
end
def YX(N:List Str)(sc scope:Scope)(own:List (Str×Nat)):Bool:=
 (match scope.kind with| .function=>true|_=>false)&&(scope.names.all fun y=>decide (scope.names.lookup y.1=some y.2))&&(own.all fun p=>decide (N[p.2]? =some p.1))&&
  (scope.names.all fun y=>match y.2 with
   | .free=>(match sc.names.lookup y.1 with|some .cell=>true|some .free=>true|_=>false)
   | .local=>decide (y.1∈own.map (·.1))||decide (y.1∉N)
   | .cell=>decide (y.1∈own.map (·.1))||decide (y.1∉N)
   |_=>true)
theorem c7{N:List Str}{sc scope:Scope}{own:List (Str×Nat)}(h:YX N sc scope own=true):HH N sc scope own:=by
 unfold YX at h;simp only[Bool.and_eq_true,List.all_eq_true,decide_eq_true_eq]at h;obtain⟨⟨⟨h1,h2⟩,h3⟩,h4⟩:=h;refine⟨?_,h2,h3,fun y hy e=>?_,fun y hy e=>?_⟩
 ·split at h1
  ·assumption
  cases h1
 ·have q:=h4 y hy;simp only[e]at q;split at q <;> first|exact .inl (by assumption)|exact .inr (by assumption)|cases q
 have q:=h4 y hy;rcases e with e|e <;> (simp only[e,Bool.or_eq_true,decide_eq_true_eq]at q;exact q)
theorem UL{P:Program}{w:World}{k:Key}{u:Value}(r:RelV (kV k) u):(lG P w).is k u=true:=by
 cases k with
 |inl i=>obtain⟨t,e⟩:=(show ∃t,u=Value.int i t from r);subst e;exact Ck P w i t
 |inr x=>obtain⟨t,e⟩:=(show ∃t,u=Value.str x t from r);subst e;exact K9 P w x t
def YY(i:Expr):Prop:=∀ov iv,subscripted i false ov iv=operate [ov,iv] (getItem ov iv)
theorem UM{prog:Program}{w:World}{A:Around}{E:Value->Shared->Prop}{s:Shared}{env:Env}{value slice:Expr}{pos:Pos}{T id:String}{Q:Value->Shared->Prop}
  (hl:typeLookup (.type T) "__getitem__"=pure (some (.builtin id)))(hs:YY slice)
  (h:wpAny (model prog w) A (eval value env) (fun o s₁=>wpAny (model prog w) A (eval slice env) (fun i s₂=>s₂.TypeIs o T/\wpAny (model prog w) A (getItem o i) Q E s₂) E s₁) E s):
  wpAny (model prog w) A (eval (.Subscript value slice pos) env) Q E s:=by
 refine Subscript_ (wpAny_mono h (fun o s₁ h₁=>wpAny_mono h₁ (fun i s₂ h₂=>?_) fun _ _ x=>x) fun _ _ x=>x);obtain⟨hT,h₂⟩:=h₂;unfold subscriptTail;refine wpAny_bind ?_;rw[getitemInPython_of_ne hT.not_modules];refine wpAny_bind (wpAny_specialOf hT hl ?_);have fin:wpAny (model prog w) A (subscripted slice false o i) (fun r s₃=>wpAny (model prog w) A (letTemporaryGo value o r >>= fun _=>pure r) Q E s₃) E s₂:=by
  rw[hs o i];exact wpAny_operating (wpAny_mono h₂ (fun r s₃ h₃=>wpAny_bind (wpAny_letTemporaryGo (wpAny_pure h₃))) fun _ _ x=>x)
 first
  |exact wpAny_pure (wpAny_bind fin)
  |exact wpAny_bind (wpAny_pure (wpAny_bind fin))
  |exact wpAny_bind fin
section
variable{X:Cx}{au:List (Addr×Obj)}{σ:St}{H:Hp}{s:Shared}{h':Heap}
theorem Inv.UN{t':Nat}{ch:List Addr}(I:Inv X au σ H s)(k:∀b o,b∉ch->s.heap.get? b=some o->h'.get? b=some o)(hf:∀b∈ch,wR X au H b):Inv X au σ H {s with heap:=h',toks:=t'}:=by
 have Mp:∀b u,H b=some u->b∉ch:=fun b u e z=>by
  have q:=(hf b z).1;rw[q]at e;cases e
 refine I.step (g':=s.gens) (d':=s.drawn) (ch:=ch) (fun b hb=>⟨(hf b hb).2.2.2.1,(hf b hb).2.1,(hf b hb).2.2.2.2.1,(hf b hb).2.2.2.2.2⟩) (fun b o _ _ hc e _=>k b o hc e) (fun b o _ _ hc e _=>⟨o.slots,k b o hc e⟩)
  (fun _ _ _ _ n=>n) (fun b o hc e=>⟨o,k b o hc e⟩) (fun _ _ e=>e) (fun _ _ _ e=>e) (fun b ps e=>⟨#[],by rw[e];simp⟩) (fun m hm=>?_) (fun b u e=>?_) I.bare
 ·obtain⟨o,es,ep,ho,r⟩:=hm;exact⟨o,es,ep,k _ o (fun z=>(hf _ z).2.1 rfl) ho,r⟩
 refine(I.cJ b u e).xS (fun c v hc q=>k c v ?_ q) (fun _ q=>q) fun _ _ q=>q;rcases hc with z|z
 ·rw[z];exact Mp b u e
 exact Mp c _ z
theorem Inv.HK{t':Nat}{ch:List Addr}{T:Addr}{ob:HO}(I:Inv X au σ H s)(k:∀b o,b∉ch->s.heap.get? b=some o->h'.get? b=some o)(hf:∀b∈ch,wR X au H b)(hT:s.heap.objs.size<=T)
  (new:gv X.prog X.w (upd H T ob) h' T ob):Inv X au σ (upd H T ob) {s with heap:=h',toks:=t'}:=by
 have hn:H T=none:=I.cJ.fresh hT;have Mp:∀b u,H b=some u->b∉ch:=fun b u e z=>by
  have q:=(hf b z).1;rw[q]at e;cases e
 refine I.step (g':=s.gens) (d':=s.drawn) (ch:=ch) (fun b hb=>⟨(hf b hb).2.2.2.1,(hf b hb).2.1,(hf b hb).2.2.2.2.1,(hf b hb).2.2.2.2.2⟩) (fun b o _ _ hc e _=>k b o hc e) (fun b o _ _ hc e _=>⟨o.slots,k b o hc e⟩)
  (fun b o _ e n=>?_) (fun b o hc e=>⟨o,k b o hc e⟩) (fun b xs e=>?_) (fun b o u e=>?_) (fun b ps e=>⟨#[],?_⟩) (fun m hm=>?_) (fun b u e=>?_) I.bare
 ·rw[aE (Nat.ne_of_lt (Nat.lt_of_lt_of_le (Heap.lt_size e) hT))];exact n
 ·rw[aE (a7 e hn)];exact e
 ·rw[aE (a7 e hn)];exact e
 ·rw[aE (a7 e hn),e];simp
 ·obtain⟨o,es,ep,ho,r⟩:=hm;exact⟨o,es,ep,k _ o (fun z=>(hf _ z).2.1 rfl) ho,r⟩
 by_cases hb:b=T
 ·subst hb;rw[aj]at e;cases e;exact new
 rw[aE hb]at e;refine(I.cJ b u e).xS (fun c v hc q=>k c v ?_ q) (fun c q=>by rw[aE (a7 q hn)];exact q) fun c xs q=>by rw[aE (a7 q hn)];exact q
 rcases hc with z|z
 ·rw[z];exact Mp b u e
 exact Mp c _ z
end
def Ite(K:Frag)(a:Addr):It:=
 ⟨fun i H=>∃(xs:List V) (x:V),aG K H a xs/\xs[i]? =some x,fun i H v H'=>∃T x,v= .ref T/\H T=none/\H'=upd H T (.tup [.int (i:Nat),x])/\∀xs,aG K H a xs->xs[i]? =some x,fun i H=>∃xs:List V,aG K H a xs/\xs.length<=i⟩
theorem OK{P:Program}{w:World}{K:Frag}{elts:List Expr}{kk:Nat}{wQ:Pos}(a e it:Addr):
  Turn P w K (.Tuple elts kk wQ) (Ite K a) [e,it] e (fun i h=>(∃old,IsEnum h e it ((i:Nat):Int) old)/\h.IsListIter it a i/\e≠it) where
 mem:=by simp
 obj:=fun i h st b hb=>by
  obtain⟨⟨old,he⟩,⟨o,ho,hc,hd⟩,_⟩:=st;have e':b=e∨b=it:=by simpa using hb
  rcases e' with z|z
  ·rw[z];exact⟨_,he,fun v q=>nomatch q⟩
  rw[z];exact⟨o,ho,fun v q=>by rw[hd]at q;cases q⟩
 keep:=fun i h h' st k=>let⟨⟨old,he⟩,hi,om⟩:=st;⟨⟨old,k e (by simp) _ he⟩,hi.at fun o q=>k it (by simp) o q,om⟩
 item:=by
  intro X hP hw hK hc i au s σ H E I hf st hg;subst hP hw hK;obtain⟨⟨old,he⟩,hit,om⟩:=st;obtain⟨xs,x,hq,hx⟩:=hg;obtain⟨its,rv,p,hz⟩:=I.list hq;obtain⟨u,hu,ru⟩:=rv.get hx;have hel:e<s.heap.objs.size:=Heap.lt_size he;have WH:it<s.heap.objs.size:=by obtain⟨_,q,_⟩:=hit;exact Heap.lt_size q
  refine wpAny_pyNext_enum_item he hit p.isList (x:=u) (by simpa using hu) om fun h' ho abn hT hsz hk=>?_;refine⟨_,rfl,wpAny_letOwnedTupleGo_enum (s:={s with heap:=h',toks:=s.toks+1}) ho fun MT he' sb=>?_⟩;have Zv:MT.get? s.heap.objs.size=some {cls:=.type "tuple",data:=.seq #[.int i s.toks,u]}:=(sb.2 _ (Nat.ne_of_gt hel)).trans hT;have new:gv X.prog X.w (upd H s.heap.objs.size (.tup [.int (i:Nat),x])) MT s.heap.objs.size (.tup [.int (i:Nat),x]):=
   ⟨by show 2<=sizeLine;decide,[.int i s.toks,u],.cons ⟨_,rfl⟩ (.cons ru .nil),⟨_,Zv,rfl,_,rfl⟩⟩
  have I1:Inv X au σ (upd H s.heap.objs.size (.tup [.int (i:Nat),x])) {s with heap:=MT,toks:=s.toks+1}:=
   I.HK (ch:=[e,it]) (fun b ob hb q=>(sb.2 b (fun z=>hb (by simp[z]))).trans (hk b ob (fun z=>hb (by simp[z])) (fun z=>hb (by simp[z])) q)) hf (Nat.le_refl _) new
  refine⟨.ref s.heap.objs.size,_,I1,rfl,⟨_,x,rfl,I.cJ.fresh (Nat.le_refl _),rfl,fun ys hy=>by rw[I.zK hy hq];exact hx⟩,⟨⟨u,?_⟩,abn.at fun o q=>(sb.2 it (Ne.symm om)).trans q,om⟩,fun b hb=>?_⟩
  ·have e1:((i+1:Nat):Int)=(i:Int)+1:=by omega
   rw[e1];exact he'
  have pX:b<s.heap.objs.size:=by
   have e':b=e∨b=it:=by simpa using hb
   rcases e' with z|z
   ·rw[z];exact hel
   rw[z];exact WH
  rw[aE (Nat.ne_of_lt pX)];exact(hf b hb).1
 done:=by
  intro X hP hw hK hc i au s σ H E I hf st hg;subst hP hw hK;obtain⟨⟨old,he⟩,hit,om⟩:=st;obtain⟨xs,hq,hx⟩:=hg;obtain⟨its,rv,p,hz⟩:=I.list hq;obtain⟨f0,f1,f2,f3,f4,f5⟩:=hf it (by simp);have hl:=rv.length;exact wpAny_pyNext_enum_end (I.ok.hd hc) he hit p.isList (by simp;omega) fun h' eb=>⟨rfl,I.turned (t':=s.toks) (fun b o hb q=>eb b o hb q) f0 f1 f3 f4 f5⟩
 self:=fun A i s Q E st h=>let⟨⟨_,he⟩,_⟩:=st;wpAny_pyIter_enum he h
def OL(K:Frag)(ta:TA):TI:=fun σ H R=>ta σ H fun vs H1=>∃a xs,vs=[.ref a]/\aG K H1 a xs/\R (Ite K a) H1
theorem Cw{X:Cx}{e:Expr}{ta:TA}{p pos wQ:Pos}{elts:List Expr}{kk:Nat}(hg:Gl X "enumerate")(hm:X.mg "enumerate"=none)(ha:PA X [e] ta)(hs:starEach [e] X.env=[(false,eval e X.env)]:=by rfl):
  PI X (.Tuple elts kk wQ) (.Call (.Name "enumerate" p) [e] [] pos) (OL X.K ta):=by
 intro au s σ H R I h;refine Call_ (zJ I hg hm boot_enumerate (PyProof.Rows.callWith_type1 (c8 (ha pos au s σ H _ I h) fun us s1 ⟨vs,H1,I1,r1,q1⟩=>?_) hs rfl));obtain⟨a,xs,ex,hq,q⟩:=q1;subst ex;cases r1 with
 |cons r rr=>
  cases rr;cases r;obtain⟨its,rv,p',hz⟩:=I1.list hq;refine call_enumerate_list p'.isList fun h' he hit hsz hk=>wpAny_pyIter_enum he ?_;have I2:Inv X au σ H1 {s1 with heap:=h'}:=I1.kept (t':=s1.toks) hk;refine⟨s1.heap.objs.size+1,[s1.heap.objs.size+1,s1.heap.objs.size],_,_,H1,rfl,I2,OK a (s1.heap.objs.size+1) s1.heap.objs.size,⟨⟨.none,he⟩,hit,Nat.succ_ne_self _⟩,fun b hb=>?_,q⟩;have e':b=s1.heap.objs.size+1∨b=s1.heap.objs.size:=by simpa using hb
  have hle:s1.heap.objs.size<=b:=by
   rcases e' with z|z
   ·rw[z];exact Nat.le_add_right _ _
   rw[z];exact Nat.le_refl _
  exact I1.Ko hle (I1.cJ.fresh hle)
theorem OM:bootBuiltins "zip"=some (.type "zip"):=by decide +kernel
def Zw(K:Frag)(a b:Addr):It:=
 ⟨fun i H=>∃(xs ys:List V) (x y:V),aG K H a xs/\aG K H b ys/\xs[i]? =some x/\ys[i]? =some y,
  fun i H v H'=>∃T x y,v= .ref T/\H T=none/\H'=upd H T (.tup [x,y])/\(∀xs,aG K H a xs->xs[i]? =some x)/\∀ys,aG K H b ys->ys[i]? =some y,
  fun i H=>∃xs ys:List V,aG K H a xs/\aG K H b ys/\(xs.length<=i∨ys.length<=i)⟩
theorem So{P:Program}{w:World}{K:Frag}{elts:List Expr}{kk:Nat}{wQ:Pos}{a b z TI TO i1 i2:Addr}(D:ZipApart z TI TO i1 i2 a b):
  Turn P w K (.Tuple elts kk wQ) (Zw K a b) [z,TI,TO,i1,i2] z (fun i h=>IsZip h z TI TO .none/\IsPair h TI (.ref i1) (.ref i2)/\(∃x y,IsPair h TO x y)/\h.IsListIter i1 a i/\h.IsListIter i2 b i) where
 mem:=by simp
 obj:=fun i h st c hc=>by
  obtain⟨hz,HL,⟨x,y,JI⟩,⟨o1,e1,_,d1⟩,⟨o2,e2,_,d2⟩⟩:=st;have e':c=z∨c=TI∨c=TO∨c=i1∨c=i2:=by simpa using hc
  rcases e' with q|q|q|q|q
  ·rw[q];exact⟨_,hz,fun v q=>nomatch q⟩
  ·rw[q];exact⟨_,HL,fun v q=>nomatch q⟩
  ·rw[q];exact⟨_,JI,fun v q=>nomatch q⟩
  ·rw[q];exact⟨o1,e1,fun v q=>by rw[d1]at q;cases q⟩
  rw[q];exact⟨o2,e2,fun v q=>by rw[d2]at q;cases q⟩
 keep:=fun i h h' st k=>by
  obtain⟨hz,HL,⟨x,y,JI⟩,h1,h2⟩:=st;exact⟨k z (by simp) _ hz,k TI (by simp) _ HL,⟨x,y,k TO (by simp) _ JI⟩,h1.at fun o q=>k i1 (by simp) o q,h2.at fun o q=>k i2 (by simp) o q⟩
 item:=by
  intro X hP hw hK hc i au s σ H E I hf st hg;subst hP hw hK;obtain⟨hz,HL,⟨x0,y0,JI⟩,h1,h2⟩:=st;obtain⟨xs,ys,x,y,Sq,Sr,hx,hy⟩:=hg;obtain⟨its,rv,p,_⟩:=I.list Sq;obtain⟨oo,WI,p2,_⟩:=I.list Sr;obtain⟨u,hu,ru⟩:=rv.get hx;obtain⟨u2,Zq,Zr⟩:=WI.get hy;have hzl:z<s.heap.objs.size:=Heap.lt_size hz;refine wpAny_pyNext_zip_item D hz HL JI h1 h2 p.isList p2.isList (x:=u) (y:=u2) (by simpa using hu) (by simpa using Zq) fun h' z' TO' h1' h2' hT hsz hk=>?_;refine⟨_,rfl,wpAny_letOwnedTupleGo_zip (s:={s with heap:=h'}) z' fun MT z'' sb=>?_⟩;have Zv:MT.get? s.heap.objs.size=some {cls:=.type "tuple",data:=.seq #[u,u2]}:=(sb.2 _ (Nat.ne_of_gt hzl)).trans hT;have new:gv X.prog X.w (upd H s.heap.objs.size (.tup [x,y])) MT s.heap.objs.size (.tup [x,y]):=
   ⟨by show 2<=sizeLine;decide,[u,u2],.cons ru (.cons Zr .nil),⟨_,Zv,rfl,_,rfl⟩⟩
  have I1:Inv X au σ (upd H s.heap.objs.size (.tup [x,y])) {s with heap:=MT}:=
   I.HK (t':=s.toks) (ch:=[z,TI,TO,i1,i2]) (fun c o hb q=>(sb.2 c (fun q'=>hb (by simp[q']))).trans (hk c o (fun q'=>hb (by simp[q'])) (fun q'=>hb (by simp[q'])) (fun q'=>hb (by simp[q'])) (fun q'=>hb (by simp[q'])) q)) hf (Nat.le_refl _) new
  refine⟨.ref s.heap.objs.size,_,I1,rfl,⟨_,x,y,rfl,I.cJ.fresh (Nat.le_refl _),rfl,fun l hl=>by rw[I.zK hl Sq];exact hx,fun l hl=>by rw[I.zK hl Sr];exact hy⟩,⟨z'',?_,⟨u,u2,?_⟩,?_,?_⟩,fun c WJ=>?_⟩
  ·exact(sb.2 _ D.TIz).trans (hk _ _ D.TIz D.TITO D.TIi1 D.TIi2 HL)
  ·exact(sb.2 _ D.TOz).trans TO'
  ·exact h1'.at fun o q=>(sb.2 _ D.i1z).trans q
  ·exact h2'.at fun o q=>(sb.2 _ D.i2z).trans q
  have hlt:c<s.heap.objs.size:=by
   have e':c=z∨c=TI∨c=TO∨c=i1∨c=i2:=by simpa using WJ
   rcases e' with q|q|q|q|q
   ·rw[q];exact hzl
   ·rw[q];exact Heap.lt_size HL
   ·rw[q];exact Heap.lt_size JI
   ·rw[q];obtain⟨_,e1,_⟩:=h1;exact Heap.lt_size e1
   rw[q];obtain⟨_,e2,_⟩:=h2;exact Heap.lt_size e2
  rw[aE (Nat.ne_of_lt hlt)];exact(hf c WJ).1
 done:=by
  intro X hP hw hK hc i au s σ H E I hf st hg;subst hP hw hK;obtain⟨hz,HL,⟨x0,y0,JI⟩,h1,h2⟩:=st;obtain⟨xs,ys,Sq,Sr,abo⟩:=hg;obtain⟨its,rv,p,_⟩:=I.list Sq;obtain⟨oo,WI,p2,_⟩:=I.list Sr;have l1:=rv.length;have l2:=WI.length;have he:its.toArray[i]? =none∨oo.toArray[i]? =none:=by
   rcases abo with q|q
   ·exact .inl (by simp;omega)
   exact .inr (by simp;omega)
  exact wpAny_pyNext_zip_end (I.ok.hd hc) D hz HL JI h1 h2 p.isList p2.isList he fun h' hk=>⟨rfl,I.UN (t':=s.toks) (ch:=[z,TI,TO,i1,i2]) (fun c o hb q=>
   hk c o (fun q'=>hb (by simp[q'])) (fun q'=>hb (by simp[q'])) (fun q'=>hb (by simp[q'])) (fun q'=>hb (by simp[q'])) q) hf⟩
 self:=fun A i s Q E st h=>wpAny_pyIter_zip st.1 h
def UO(K:Frag)(ta:TA):TI:=fun σ H R=>ta σ H fun vs H1=>∃a b xs ys,vs=[.ref a,.ref b]/\aG K H1 a xs/\aG K H1 b ys/\R (Zw K a b) H1
theorem zN{X:Cx}{e e2:Expr}{ta:TA}{p pos wQ:Pos}{elts:List Expr}{kk:Nat}(hg:Gl X "zip")(hm:X.mg "zip"=none)(ha:PA X [e,e2] ta)
  (hs:starEach [e,e2] X.env=(false,eval e X.env)::starEach [e2] X.env:=by rfl)(hpl:(backTo pos (starEach [e2] X.env)).any (·.1)=false:=by rfl):
  PI X (.Tuple elts kk wQ) (.Call (.Name "zip" p) [e,e2] [] pos) (UO X.K ta):=by
 intro au s σ H R I h;refine Call_ (zJ I hg hm OM (PyProof.Rows.callWith_type1 (c8 (ha pos au s σ H _ I h) fun us s1 ⟨vs,H1,I1,r1,q1⟩=>?_) hs hpl));obtain⟨a,b,xs,ys,ex,Sq,Sr,q⟩:=q1;subst ex;cases r1 with
 |cons r rr=>
  cases rr with
  |cons r' rr=>
   cases rr;cases r;cases r';obtain⟨its,rv,p1,_⟩:=I1.list Sq;obtain⟨oo,WI,p2,_⟩:=I1.list Sr;have la:a<s1.heap.objs.size:=p1.lt;have lb:b<s1.heap.objs.size:=p2.lt;refine call_zip_2 p1.isList p2.isList fun h' hz HL JI h1 h2 hsz hk=>wpAny_pyIter_zip hz ?_;have I2:Inv X au σ H1 {s1 with heap:=h'}:=I1.kept (t':=s1.toks) hk;refine⟨s1.heap.objs.size+4,[s1.heap.objs.size+4,s1.heap.objs.size+2,s1.heap.objs.size+3,s1.heap.objs.size,s1.heap.objs.size+1],_,_,H1,rfl,I2,So (PySem.W.ktu_apart s1.heap.objs.size a b la lb),⟨hz,HL,⟨_,_,JI⟩,h1,h2⟩,fun c WJ=>?_,q⟩;have e':c=s1.heap.objs.size+4∨c=s1.heap.objs.size+2∨c=s1.heap.objs.size+3∨c=s1.heap.objs.size∨c=s1.heap.objs.size+1:=by simpa using WJ
   have hle:s1.heap.objs.size<=c:=by
    rcases e' with z|z|z|z|z
    ·rw[z];exact Nat.le_add_right _ _
    ·rw[z];exact Nat.le_add_right _ _
    ·rw[z];exact Nat.le_add_right _ _
    ·rw[z];exact Nat.le_refl _
    rw[z];exact Nat.le_add_right _ _
   exact I1.Ko hle (I1.cJ.fresh hle)
def inClass(s:Stmt)(j:Nat):Stmt:=match s with
 | .ClassDef _ _ _ body _ _ _ _ _ _ _=>body.getD j (.Pass ⟨0,0,0,0⟩)
 |_=>.Pass ⟨0,0,0,0⟩
def gJ(s:Stmt):Arguments:=match s with
 | .FunctionDef _ a _ _ _ _ _ _ _ _=>a
 |_=>{posonlyargs:=[],args:=[],vararg:=none,kwonlyargs:=[],kw_defaults:=[],kwarg:=none,defaults:=[]}
def fG(s:Stmt):List Stmt:=match s with
 | .FunctionDef _ _ b _ _ _ _ _ _ _=>b
 |_=>[]
def ay(s:Stmt):Scope:=match s with
 | .FunctionDef _ _ _ _ _ _ sc _ _ _=>sc
 |_=>{kind:=.function,names:=[],isGenerator:=false,isCoroutine:=false}
abbrev bo:Hw:=fun _ _ _ _ _ _=>False
abbrev E0:XK:=fun _ _ _=>False
theorem UP{X:Cx}:Passes bo X E0:=fun _ _ _ _ _ _ _ h=>h.elim
structure bD(K:Frag)(x qual:Str)(st:Stmt)(f:Addr)(fd:FuncData):Prop where
 ex:∃(oc:Value) (od:Option Addr) (kV doc pm:Value) (an:Option Addr) (fS ct:Value) (xY:Array (Option Value)),
  fd=fnOf x qual (gJ st) (fG st) (ay st) .none kV doc pm an fS ct/\K.lookup f=some ⟨oc,od,.func fd,xY⟩/\codeIn K fS qual=true
 kp:keepIn K (.ref f)=true
section
variable{P:Program}{w:World}{K:Frag}{mg:Str->Option Value}{ae:Heap}
theorem bD.ok{x qual:Str}{st:Stmt}{f:Addr}{fd:FuncData}{N ps:List Str}{k:Nat}{sp:Sp}(F:bD K x qual st f fd)(S:aC N ps (ay st))(len:∀vs H Q E,sp vs H Q E->vs.length=ps.length)
  (wa:∀(fS:Value) (A:Around) (bP:List Env) (s:Shared) (H:Hp) (vs:List V) (Q:VK) (E:XK),gH k (A.deeper (envOfC qual (ay st) s.heap.objs.size f fS))->sp vs H Q E->
   ∃t,Bm (FC bo P w K mg ae N qual (ay st) f fS A bP s H E).Hn (fG st) t/\t {nx:=fun _ H'=>Q .e7 H',rt:=Q} (start N vs) H):aM P w K mg ae bo (k+1) f fd ps sp:=by
 obtain⟨oc,od,kV,doc,pm,an,fS,ct,xY,rfl,lk,pU⟩:=F.ex;refine Uy lk pU S len fun A bP s H vs Q E hr Cs=>?_;obtain⟨t,h,q⟩:=wa fS A bP s H vs Q E hr Cs;exact⟨t,h.Hn,q⟩
theorem bD.binds{x qual:Str}{st:Stmt}{f:Addr}{fd:FuncData}{ps:List Str}(F:bD K x qual st f fd)
  (h:∀(kV doc pm:Value) (an:Option Addr) (fS ct:Value) (us:List Value),us.length=ps.length->bindArgs (fnOf x qual (gJ st) (fG st) (ay st) .none kV doc pm an fS ct) ⟨us,[]⟩=pure (ps.zip us)):Binds K fd ps []:=by
 obtain⟨oc,od,kV,doc,pm,an,fS,ct,xY,rfl,lk,pU⟩:=F.ex;exact .all (h kV doc pm an fS ct)
theorem RC{x qual:Str}{st:Stmt}{f:Addr}{oc:Value}{od an:Option Addr}{xY:Array (Option Value)}{kV doc pm fS ct:Value}(l:K.lookup f=some ⟨oc,od,.func (fnOf x qual (gJ st) (fG st) (ay st) .none kV doc pm an fS ct),xY⟩)
  (c:codeIn K fS qual=true)(k:keepIn K (.ref f)=true):bD K x qual st f (fnOf x qual (gJ st) (fG st) (ay st) .none kV doc pm an fS ct):=⟨⟨oc,od,kV,doc,pm,an,fS,ct,xY,rfl,l,c⟩,k⟩
end
section
variable{X:Cx}
theorem pv(i:Nat){x:Str}{pos:Pos}(hN:X.N[i]? =some x:=by rfl)(hv:Oq X.env.scope x:=by first|exact Or.inl rfl|exact Or.inr (Or.inl rfl)|exact Or.inr (Or.inr rfl))(hd:(x==("__debug__":Str))=false:=by decide)
  (pU:(x==("__classdict__":Str))=false:=by decide):PE X (.Name x pos) (bQ i):=Rl hN hv hd pU
end
theorem Cy{c A B:Prop} [Decidable c](h1:c->A)(h2:¬c->B):if c then A else B:=by
 by_cases h:c
 ·rw[if_pos h];exact h1 h
 rw[if_neg h];exact h2 h
def aq(H H':Hp):Prop:=∀b o,H b=some o->H' b=some o
theorem aq.refl(H:Hp):aq H H:=fun _ _ h=>h
theorem aq.trans{H H1 H2:Hp}(a:aq H H1)(b:aq H1 H2):aq H H2:=fun c o h=>b c o (a c o h)
theorem aq.free{H H':Hp}(e:aq H H'){l:Addr}(h:H' l=Option.none):H l=Option.none:=by
 cases q:H l with
 |none=>rfl
 |some o=>
  rw[e l o q]at h;cases h
theorem aq.seq{K:Frag}{H H':Hp}{a:Addr}{xs:List V}(e:aq H H')(h:aG K H a xs):aG K H' a xs:=by
 rcases h with(h|⟨o,h⟩)|h
 ·exact .inl (.inl (e _ _ h))
 ·exact .inl (.inr ⟨o,e _ _ h⟩)
 exact .inr h
open PySem.W (WData Codec OpenSpec Well WellAll ReadsW ReadsAllW)
mutual
inductive Dw(K:Frag)(H:Hp):V->WData->Prop
 |e7:Dw K H .e7 .none
 |bl (b:Bool):Dw K H (.bl b) (.bool b)
 |int (i:Int):Dw K H (.int i) (.int i)
 |str (x:Str):Dw K H (.str x) (.str x)
 |Ac (b:Array UInt8):Dw K H (.Ac b) (.bytes b.toList)
 |lst {a:Addr} {xs:List V} {ds:List WData}:aG K H a xs->qy K H xs ds->Dw K H (.ref a) (.list ds)
 |tup {a:Addr} {xs:List V} {ds:List WData}:ik K H a xs->qy K H xs ds->Dw K H (.ref a) (.tuple ds)
inductive qy(K:Frag)(H:Hp):List V->List WData->Prop
 |nil:qy K H [] []
 |cons {v:V} {vs:List V} {d:WData} {ds:List WData}:Dw K H v d->qy K H vs ds->qy K H (v::vs) (d::ds)
end
theorem Oa{K:Frag}{H:Hp}:∀ns:List Int,qy K H (ns.map V.int) (ns.map WData.int)
 |[]=>.nil
 |n::r=>.cons (.int n) (Oa r)
theorem Ob{K:Frag}{H:Hp}:∀(ns:List Int) (xs:List V),qy K H xs (ns.map WData.int)->xs=ns.map V.int
 |[],xs,h=>by
  cases h;rfl
 |n::r,xs,h=>by
  cases h with
  |cons h1 h2=>
   cases h1;rw[Ob r _ h2] <;> rfl
section
variable{P:Program}{w:World}{K:Frag}{H:Hp}{h:Heap}{R:WRecords}{cl:Str->Option Addr}
theorem Xq{a:Addr}{xs:List V}(cJ:kU P w H h)(KX:K.In h)(q:aG K H a xs):∃(its:List Value) (o:Obj) (n:Nat),Vals xs its/\h.get? a=some o/\o.cls= .type "list"/\o.data= .seq its.toArray n:=by
 rcases q with q|⟨o,its,n,e,hc,_,hd,_,hv⟩
 ·obtain⟨_,its,n,hv,e⟩:=(show gv P w H h a (.lst xs)from q.ok cJ);exact⟨its,_,n,hv,e,rfl,rfl⟩
 exact⟨its.toList,o,n,hv,KX _ _ e,hc,by simp[hd]⟩
theorem Xr{a:Addr}{xs:List V}(cJ:kU P w H h)(KX:K.In h)(q:ik K H a xs):∃(its:List Value) (o:Obj) (n:Nat),Vals xs its/\h.get? a=some o/\o.cls= .type "tuple"/\o.data= .seq its.toArray n:=by
 rcases q with q|⟨o,its,n,e,hc,hd,_,hv⟩
 ·obtain⟨_,its,hv,o,e,hc,n,hd⟩:=(show gv P w H h a (.tup xs)from q.ok cJ);exact⟨its,o,n,hv,e,hc,hd⟩
 exact⟨its.toList,o,n,hv,KX _ _ e,hc,by simp[hd]⟩
mutual
theorem Dw.reads(cJ:kU P w H h)(KX:K.In h):∀(d:WData) (v:V) (u:Value),Dw K H v d->RelV v u->∃as,ReadsW R cl h u d as
 | .none,_,_,x,r=>by
  cases x;cases r;exact⟨_,ReadsW.none⟩
 | .bool b,_,_,x,r=>by
  cases x;cases r;exact⟨_,ReadsW.bool b⟩
 | .int i,_,_,x,r=>by
  cases x;obtain⟨t,rfl⟩:=r;exact⟨_,ReadsW.int i t⟩
 | .str s,_,_,x,r=>by
  cases x;obtain⟨t,rfl⟩:=r;exact⟨_,ReadsW.str s t⟩
 | .bytes b,_,_,x,r=>by
  cases x;obtain⟨t,rfl⟩:=r;exact⟨_,ReadsW.bytes _ t⟩
 | .list ds,_,_,x,r=>by
  cases x with
  |lst hs ha=>
   cases r;obtain⟨its,o,n,rv,ho,hc,hd⟩:=Xq cJ KX hs;obtain⟨as,hr⟩:=Dw.readsAll cJ KX ds _ its ha rv;exact⟨_,ReadsW.list ho hc hd hr⟩
 | .tuple ds,_,_,x,r=>by
  cases x with
  |tup hs ha=>
   cases r;obtain⟨its,o,n,rv,ho,hc,hd⟩:=Xr cJ KX hs;obtain⟨as,hr⟩:=Dw.readsAll cJ KX ds _ its ha rv;exact⟨_,ReadsW.tuple ho hc hd hr⟩
 | .float _,_,_,x,_=>by cases x
 | .dict _,_,_,x,_=>by cases x
 | .bytearray _,_,_,x,_=>by cases x
 | .set _,_,_,x,_=>by cases x
 | .frozenset _,_,_,x,_=>by cases x
 | .obj _ _,_,_,x,_=>by cases x
theorem Dw.readsAll(cJ:kU P w H h)(KX:K.In h):∀(ds:List WData) (vs:List V) (us:List Value),qy K H vs ds->Vals vs us->∃as,ReadsAllW R cl h us ds as
 |[],_,_,x,r=>by
  cases x;cases r;exact⟨_,ReadsAllW.nil⟩
 |d::ds,_,_,x,r=>by
  cases x with
  |cons h1 h2=>
   cases r with
   |cons r1 r2=>
    obtain⟨as,q1⟩:=Dw.reads cJ KX d _ _ h1 r1;obtain⟨bs,q2⟩:=Dw.readsAll cJ KX ds _ _ h2 r2;exact⟨_,ReadsAllW.cons q1 q2⟩
end
end
mutual
noncomputable def DO:WData->Bool
 | .none=>true
 | .bool _=>true
 | .int _=>true
 | .str _=>true
 | .bytes _=>true
 | .list xs=>xc xs
 | .tuple xs=>xc xs
 |_=>false
noncomputable def xc:List WData->Bool
 |[]=>true
 |x::r=>DO x&&xc r
end
theorem K5{α:Type}{f:α->WData}(h:∀a,DO (f a)=true):∀l:List α,xc (l.map f)=true
 |[]=>rfl
 |x::r=>by
  show(DO (f x)&&xc (r.map f))=true;rw[h x,K5 h r] <;> rfl
theorem t8:∀(c:Codec) (a:c.denote),DO (c.enc a)=true
 | .unit,_=>rfl
 | .bool,_=>rfl
 | .int _ _,_=>rfl
 | .nat _ _,_=>rfl
 | .u8,_=>rfl
 | .bytes _ _,_=>rfl
 | .text _ _ _ _,_=>rfl
 | .list _ _ c,a=>K5 (fun x=>t8 c x) a
 | .pair c d,a=>by
  show(DO (c.enc a.1)&&(DO (d.enc a.2)&&true))=true;rw[t8 c a.1,t8 d a.2] <;> rfl
 | .triple c d e,a=>by
  show(DO (c.enc a.1)&&(DO (d.enc a.2.1)&&(DO (e.enc a.2.2)&&true)))=true;rw[t8 c a.1,t8 d a.2.1,t8 e a.2.2] <;> rfl
 | .option c,none=>rfl
 | .option c,some x=>t8 c x
theorem Jh:∀(cs:List Codec) (a:Codec.denoteAll cs),xc (Codec.encAll cs a)=true
 |[],_=>rfl
 |c::cs,a=>by
  show(DO (c.enc a.1)&&xc (Codec.encAll cs a.2))=true;rw[t8 c a.1,Jh cs a.2] <;> rfl
theorem za:∀{xs:List WData} {d:WData},d∈xs->d.weight<=WData.weightAll xs
 |[],d,h=>absurd h (by simp)
 |x::r,d,h=>by
  show d.weight<=x.weight+1+WData.weightAll r;rcases List.mem_cons.mp h with e|m
  ·rw[e];omega
  have z:=za m;omega
noncomputable def toV:Value->V
 | .none=>.e7
 | .bool b=>.bl b
 | .int i _=>.int i
 | .str x _=>.str x
 | .bytes b _=>.Ac b
 | .ref a=>.ref a
 |_=>.e7
noncomputable def Fi(A:List Addr):Value->Prop
 | .none=>True
 | .bool _=>True
 | .int _ _=>True
 | .str _ _=>True
 | .bytes _ _=>True
 | .ref a=>a∈A
 |_=>False
theorem Fi.mono{A B:List Addr}(h:∀a∈A,a∈B):∀{u:Value},Fi A u->Fi B u:=fun{u} x=>by
 cases u with
 |ref a=>exact h a x
 |none=>trivial
 |bool b=>trivial
 |int i t=>trivial
 |str s t=>trivial
 |bytes b t=>trivial
 |_=>exact False.elim x
theorem TY{A:List Addr}{u:Value}(x:Fi A u):RelV (toV u) u:=by
 cases u with
 |ref a=>rfl
 |none=>rfl
 |bool b=>rfl
 |int i t=>exact⟨t,rfl⟩
 |str s t=>exact⟨t,rfl⟩
 |bytes b t=>exact⟨t,rfl⟩
 |_=>exact False.elim x
theorem rC{A:List Addr}:∀{vs:List Value},(∀u∈vs,Fi A u)->Vals (vs.map toV) vs
 |[],_=>.nil
 |u::r,h=>.cons (TY (h u (List.mem_cons_self ..))) (rC fun x hx=>h x (List.mem_cons_of_mem _ hx))
noncomputable def qA(h:Heap)(A:List Addr)(a:Addr):Prop:=∃vs:List Value,vs.length<=sizeLine/\(∀u∈vs,Fi A u)/\
 (h.get? a=some {cls:=.type "list",data:=.seq vs.toArray}∨h.get? a=some {cls:=.type "tuple",data:=.seq vs.toArray})
theorem qA.mono{h:Heap}{A B:List Addr}{a:Addr}(k:∀a∈A,a∈B)(x:qA h A a):qA h B a:=by
 obtain⟨vs,h1,h2,h3⟩:=x;exact⟨vs,h1,fun u hu=>(h2 u hu).mono k,h3⟩
theorem rm{P:Params}{h:Heap}:∀{vs:List Value} {ds:List WData},WellAll P h vs ds->vs.length=ds.length
 |_,_,.nil=>rfl
 |_,_,.cons _ b=>by
  show _+1=_+1;rw[rm b]
theorem Ji{P:Params}{h:Heap}{v:Value}{ds:List WData}(x:Well P h v (.list ds)):∃(a:Addr) (vs:List Value),v= .ref a/\h.get? a=some {cls:=.type "list",data:=.seq vs.toArray}/\WellAll P h vs ds:=by
 cases x with
 |list ho hall=>exact⟨_,_,rfl,ho,hall⟩
theorem F4{P:Params}{h:Heap}{v:Value}{ds:List WData}(x:Well P h v (.tuple ds)):∃(a:Addr) (vs:List Value),v= .ref a/\h.get? a=some {cls:=.type "tuple",data:=.seq vs.toArray}/\WellAll P h vs ds:=by
 cases x with
 |tuple ho hall=>exact⟨_,_,rfl,ho,hall⟩
theorem Jj{P:Params}{h:Heap}{us:List Value}{d:WData}{ds:List WData}(x:WellAll P h us (d::ds)):∃(v:Value) (vs:List Value),us=v::vs/\Well P h v d/\WellAll P h vs ds:=by
 cases x with
 |cons a b=>exact⟨_,_,rfl,a,b⟩
theorem Oc{n:Nat}(h:n<=1048576):n<=sizeLine:=Nat.le_trans h (by decide)
section
variable{P:Params}{h:Heap}
mutual
theorem TZ:∀(d:WData) (v:Value),Well P h v d->DO d=true->d.weight<=1048576->∃A:List Addr,Fi A v/\∀a∈A,qA h A a
 | .none,_,x,_,_=>by
  cases x;exact⟨[],trivial,fun a m=>absurd m (by simp)⟩
 | .bool b,_,x,_,_=>by
  cases x;exact⟨[],trivial,fun a m=>absurd m (by simp)⟩
 | .int i,_,x,_,_=>by
  cases x;exact⟨[],trivial,fun a m=>absurd m (by simp)⟩
 | .str s,_,x,_,_=>by
  cases x;exact⟨[],trivial,fun a m=>absurd m (by simp)⟩
 | .bytes b,_,x,_,_=>by
  cases x;exact⟨[],trivial,fun a m=>absurd m (by simp)⟩
 | .list ds,_,x,p,z=>by
  obtain⟨a,vs,rfl,ho,hall⟩:=Ji x;have z2:WData.weightAll ds<=1048576:=z;obtain⟨A,h1,h2⟩:=Aa ds _ hall p fun d hd=>Nat.le_trans (za hd) z2;have k:∀b∈A,b∈a::A:=fun b hb=>List.mem_cons_of_mem _ hb;refine⟨a::A,List.mem_cons_self ..,fun b hb=>?_⟩;rcases List.mem_cons.mp hb with e|m
  ·rw[e];exact⟨vs,Oc (by rw[rm hall];exact Nat.le_trans (length_le_weightAllW ds) z2),fun u hu=>(h1 u hu).mono k,.inl ho⟩
  exact(h2 b m).mono k
 | .tuple ds,_,x,p,z=>by
  obtain⟨a,vs,rfl,ho,hall⟩:=F4 x;have z2:WData.weightAll ds<=1048576:=z;obtain⟨A,h1,h2⟩:=Aa ds _ hall p fun d hd=>Nat.le_trans (za hd) z2;have k:∀b∈A,b∈a::A:=fun b hb=>List.mem_cons_of_mem _ hb;refine⟨a::A,List.mem_cons_self ..,fun b hb=>?_⟩;rcases List.mem_cons.mp hb with e|m
  ·rw[e];exact⟨vs,Oc (by rw[rm hall];exact Nat.le_trans (length_le_weightAllW ds) z2),fun u hu=>(h1 u hu).mono k,.inr ho⟩
  exact(h2 b m).mono k
 | .float _,_,_,p,_=>Bool.noConfusion (show false=true from p)
 | .dict _,_,_,p,_=>Bool.noConfusion (show false=true from p)
 | .bytearray _,_,_,p,_=>Bool.noConfusion (show false=true from p)
 | .set _,_,_,p,_=>Bool.noConfusion (show false=true from p)
 | .frozenset _,_,_,p,_=>Bool.noConfusion (show false=true from p)
 | .obj _ _,_,_,p,_=>Bool.noConfusion (show false=true from p)
theorem Aa:∀(ds:List WData) (vs:List Value),WellAll P h vs ds->xc ds=true->(∀d∈ds,d.weight<=1048576)->∃A:List Addr,(∀u∈vs,Fi A u)/\∀a∈A,qA h A a
 |[],_,x,_,_=>by
  cases x;exact⟨[],fun u m=>absurd m (by simp),fun a m=>absurd m (by simp)⟩
 |d::ds,_,x,p,z=>by
  obtain⟨v,vs,rfl,x1,x2⟩:=Jj x;have q:DO d=true/\xc ds=true:=Bool.and_eq_true_iff.mp p;obtain⟨A,a1,a2⟩:=TZ d v x1 q.1 (z d (List.mem_cons_self ..));obtain⟨B,b1,b2⟩:=Aa ds vs x2 q.2 fun e he=>z e (List.mem_cons_of_mem _ he);have kA:∀b∈A,b∈A++B:=fun b hb=>List.mem_append.mpr (.inl hb);have kB:∀b∈B,b∈A++B:=fun b hb=>List.mem_append.mpr (.inr hb);refine⟨A++B,fun u hu=>?_,fun b hb=>?_⟩
  ·rcases List.mem_cons.mp hu with e|m
   ·rw[e];exact a1.mono kA
   exact(b1 u m).mono kB
  rcases List.mem_append.mp hb with m|m
  ·exact(a2 b m).mono kA
  exact(b2 b m).mono kB
end
end
noncomputable def RW(o:Obj):Option HO:=match o.data with
 | .seq vs _=>if(o.cls==Value.type "list")=true then some (.mR o (.lst (vs.toList.map toV)))else some (.mR o (.tup (vs.toList.map toV)))
 |_=>none
noncomputable def ig(K:Frag)(h:Heap)(A:List Addr):Hp:=fun b=>if b∈A then(if(K.lookup b).isNone=true then(h.get? b).bind RW else none)else none
noncomputable def Jk(H:Hp):Prop:=∀b,H b=none∨∃o u,H b=some (.mR o u)
theorem K6(vs:List Value):RW {cls:=.type "list",data:=.seq vs.toArray}=some (.mR {cls:=.type "list",data:=.seq vs.toArray} (.lst (vs.map toV))):=by
 show(if(Value.type "list"==Value.type "list")=true then some (HO.mR {cls:=.type "list",data:=.seq vs.toArray} (.lst (vs.toArray.toList.map toV)))else some (HO.mR {cls:=.type "list",data:=.seq vs.toArray} (.tup (vs.toArray.toList.map toV))))=_;rw[if_pos (beq_self_eq_true _)]
theorem K7(vs:List Value):RW {cls:=.type "tuple",data:=.seq vs.toArray}=some (.mR {cls:=.type "tuple",data:=.seq vs.toArray} (.tup (vs.map toV))):=by
 show(if(Value.type "tuple"==Value.type "list")=true then some (HO.mR {cls:=.type "tuple",data:=.seq vs.toArray} (.lst (vs.toArray.toList.map toV)))else some (HO.mR {cls:=.type "tuple",data:=.seq vs.toArray} (.tup (vs.toArray.toList.map toV))))=_;rw[if_neg (by decide)]
section
variable{P:Program}{w:World}{K:Frag}{h:Heap}{A:List Addr}
theorem DP{b:Addr}{o:Obj}(hb:b∈A)(hk:K.lookup b=none)(e:h.get? b=some o):ig K h A b=RW o:=by
 unfold ig;rw[if_pos hb,hk,if_pos (show(none:Option Obj).isNone=true from rfl),e] <;> rfl
theorem VQ{b:Addr}{u:HO}(q:ig K h A b=some u):b∈A/\K.lookup b=none:=by
 unfold ig at q;by_cases hb:b∈A
 ·rw[if_pos hb]at q;cases hk:K.lookup b with
  |none=>exact⟨hb,rfl⟩
  |some o=>
   rw[hk,if_neg (by simp)]at q;cases q
 rw[if_neg hb]at q;cases q
theorem vy(ar:∀a∈A,qA h A a){b:Addr}{u:HO}(q:ig K h A b=some u):K.lookup b=none/\∃vs:List Value,vs.length<=sizeLine/\(∀u∈vs,Fi A u)/\
  ((h.get? b=some {cls:=.type "list",data:=.seq vs.toArray}/\u= .mR {cls:=.type "list",data:=.seq vs.toArray} (.lst (vs.map toV)))∨ (h.get? b=some {cls:=.type "tuple",data:=.seq vs.toArray}/\u= .mR {cls:=.type "tuple",data:=.seq vs.toArray} (.tup (vs.map toV)))):=by
 obtain⟨hb,hk⟩:=VQ q;obtain⟨vs,h1,h2,h3⟩:=ar b hb;refine⟨hk,vs,h1,h2,?_⟩;rcases h3 with e|e
 ·rw[DP hb hk e,K6]at q;exact .inl ⟨e,(Option.some.inj q).symm⟩
 rw[DP hb hk e,K7]at q;exact .inr ⟨e,(Option.some.inj q).symm⟩
theorem Rb(ar:∀a∈A,qA h A a):Jk (ig K h A):=fun b=>by
 cases q:ig K h A b with
 |none=>exact .inl rfl
 |some u=>
  obtain⟨_,vs,_,_,⟨_,e⟩|⟨_,e⟩⟩:=vy ar q
  ·exact .inr ⟨_,_,by rw[e]⟩
  exact .inr ⟨_,_,by rw[e]⟩
theorem VR(ar:∀a∈A,qA h A a):kU P w (ig K h A) h:=fun b u q=>by
 obtain⟨_,vs,h1,h2,⟨e,rfl⟩|⟨e,rfl⟩⟩:=vy ar q
 ·exact⟨e,by rw[List.length_map];exact h1,vs,_,rC h2,e⟩
 exact⟨e,by rw[List.length_map];exact h1,vs,rC h2,_,e,rfl,_,rfl⟩
theorem DQ{c c':Value}{vs us:List Value}(e:(some {cls:=c,data:=.seq vs.toArray}:Option Obj)=some {cls:=c',data:=.seq us.toArray}):c=c'/\vs=us:=by
 have e1:=Option.some.inj e;have e2:c=c':=congrArg Obj.cls e1;have e3:Data.seq vs.toArray=Data.seq us.toArray:=congrArg Obj.data e1;injection e3 with e4
 refine⟨e2,?_⟩;have e5:=congrArg Array.toList e4;simpa using e5
theorem abK(KX:K.In h)(ar:∀a∈A,qA h A a){a:Addr}{vs:List Value}(ha:a∈A)(e:h.get? a=some {cls:=.type "list",data:=.seq vs.toArray}):(∀u∈vs,Fi A u)/\aG K (ig K h A) a (vs.map toV):=by
 obtain⟨us,h1,h2,h3⟩:=ar a ha;have hu:us=vs:=by
  rcases h3 with q|q
  ·rw[e]at q;exact(DQ q).2.symm
  rw[e]at q;exact absurd (Value.type.inj (DQ q).1) (by decide)
 subst hu;refine⟨h2,?_⟩;cases hk:K.lookup a with
 |none=>exact .inl (.inr ⟨_,by rw[DP ha hk e,K6]⟩)
 |some o=>
  have e2:=KX a o hk;rw[e]at e2;obtain rfl:=Option.some.inj e2;exact .inr ⟨_,us.toArray,_,hk,rfl,rfl,rfl,by rw[List.size_toArray];exact h1,by simpa using rC h2⟩
theorem abL(KX:K.In h)(ar:∀a∈A,qA h A a){a:Addr}{vs:List Value}(ha:a∈A)(e:h.get? a=some {cls:=.type "tuple",data:=.seq vs.toArray}):(∀u∈vs,Fi A u)/\ik K (ig K h A) a (vs.map toV):=by
 obtain⟨us,h1,h2,h3⟩:=ar a ha;have hu:us=vs:=by
  rcases h3 with q|q
  ·rw[e]at q;exact absurd (Value.type.inj (DQ q).1) (by decide)
  rw[e]at q;exact(DQ q).2.symm
 subst hu;refine⟨h2,?_⟩;cases hk:K.lookup a with
 |none=>exact .inl (.inr ⟨_,by rw[DP ha hk e,K7]⟩)
 |some o=>
  have e2:=KX a o hk;rw[e]at e2;obtain rfl:=Option.some.inj e2;exact .inr ⟨_,us.toArray,_,hk,rfl,rfl,by rw[List.size_toArray];exact h1,by simpa using rC h2⟩
mutual
theorem Xs{Pm:Params}(KX:K.In h)(ar:∀a∈A,qA h A a):∀(d:WData) (v:Value),Well Pm h v d->DO d=true->Fi A v->Dw K (ig K h A) (toV v) d
 | .none,_,x,_,_=>by
  cases x;exact .e7
 | .bool b,_,x,_,_=>by
  cases x;exact .bl b
 | .int i,_,x,_,_=>by
  cases x;exact .int i
 | .str s,_,x,_,_=>by
  cases x;exact .str s
 | .bytes b,_,x,_,_=>by
  cases x;have z:=Dw.Ac (K:=K) (H:=ig K h A) b.toArray;exact z
 | .list ds,_,x,p,hu=>by
  obtain⟨a,vs,rfl,ho,hall⟩:=Ji x;obtain⟨h2,hs⟩:=abK KX ar hu ho;exact .lst hs (Hk KX ar ds _ hall p h2)
 | .tuple ds,_,x,p,hu=>by
  obtain⟨a,vs,rfl,ho,hall⟩:=F4 x;obtain⟨h2,hs⟩:=abL KX ar hu ho;exact .tup hs (Hk KX ar ds _ hall p h2)
 | .float _,_,_,p,_=>Bool.noConfusion (show false=true from p)
 | .dict _,_,_,p,_=>Bool.noConfusion (show false=true from p)
 | .bytearray _,_,_,p,_=>Bool.noConfusion (show false=true from p)
 | .set _,_,_,p,_=>Bool.noConfusion (show false=true from p)
 | .frozenset _,_,_,p,_=>Bool.noConfusion (show false=true from p)
 | .obj _ _,_,_,p,_=>Bool.noConfusion (show false=true from p)
theorem Hk{Pm:Params}(KX:K.In h)(ar:∀a∈A,qA h A a):∀(ds:List WData) (vs:List Value),WellAll Pm h vs ds->xc ds=true->(∀u∈vs,Fi A u)->qy K (ig K h A) (vs.map toV) ds
 |[],_,x,_,_=>by
  cases x;exact .nil
 |d::ds,_,x,p,hu=>by
  obtain⟨v,vs,rfl,x1,x2⟩:=Jj x;have q:DO d=true/\xc ds=true:=Bool.and_eq_true_iff.mp p;exact .cons (Xs KX ar d v x1 q.1 (hu _ (List.mem_cons_self ..))) (Hk KX ar ds vs x2 q.2 fun u m=>hu u (List.mem_cons_of_mem _ m))
end
end
theorem GP{ds:List WData}(h:WData.layableAll ds=true):∀d∈ds,d.weight<=1048576:=fun d hd=>
 (PySem.W.layableW_iff.mp (List.all_eq_true.mp h d hd)).2.2
theorem F5:∀(cs:List Codec) (a:Codec.denoteAll cs),(Codec.encAll cs a).length=cs.length
 |[],_=>rfl
 |c::cs,a=>by
  show(Codec.encAll cs a.2).length+1=cs.length+1;rw[F5 cs a.2]
end L2
namespace Hd
open PySem PySem.W PySem.Calls PyProof.Rows L2
abbrev pw:Program:=PySem.Challenge.pw_albumwhole_s01_answers
noncomputable def nm:Stmt->Str
 | .FunctionDef n .. =>n
 | .Assign [.Name n _] _ _=>n
 |_=>Str.empty
noncomputable def po:Stmt->Pos
 | .FunctionDef _ _ _ _ _ _ _ _ _ p=>p
 |_=>⟨0,0,0,0⟩
noncomputable def tx(t:Nat):List Str->List Value
 |[]=>[]
 |s::r=>.str s t::tx (t+1) r
noncomputable def ob(c:Value)(d:Data):Obj:=⟨c,none,d,#[]⟩
def tu(l:List Value):Obj:=ob (.type "tuple") (.seq l.toArray 0)
def fi(l:List Value):Data:=.fields l.toArray
def pl(l:List Value):Obj:=ob .none (fi l)
def lc(s:Stmt):Option (List Str×List Str):=localNames (gJ s) (ay s) (.stmts (fG s))
def fs:Str:="/claim/cut.py"
def cd(x q:Str)(l k n:Nat)(a t:Nat)(b:Bool)(u v w:Value)(e:Nat):Obj:=ob (.type "code") (fi [.str x t,.str q (t+1),.str fs (t+2),rawInt l,rawInt k,rawInt 0,rawInt 0,rawInt n,.ref a,.bool b,rawInt 181,.ref (a+1),.none,u,v,w,rawInt e,rawInt l,.str fs (e+1)])
def C(q:Str)(s:Stmt)(a t:Nat):Obj:=
 let f:=cd (nm s) q (po s).line (gJ s).args.length 3 a t true
 match lc s with
 |some (x,y)=>f (.ref (a+2)) (.ref (a+3)) (.ref (a+4)) (t+3+x.length+y.length)
 |none=>f .none .none (.ref (a+2)) (t+3)
def fn(x q:Str)(s:Stmt)(c:Addr)(m:Value):Obj:=ob (.type "function") (.func (fnOf x q (gJ s) (fG s) (ay s) .none .none .none m none (.ref c) .none))
def tm(q:Str)(s:Stmt):Obj:=ob .none (.func {name:=nm s,qualname:=q,params:=gJ s,body:=.stmts (fG s),scope:=ay s,globals:=builtinsNs,closure:=[],defaults:=.none,kwdefaults:=.none})
def df(q:Str)(s:Stmt)(a t:Nat)(m:Value):List Obj×Nat:=match lc s with
 |some (x,y)=>([tu [],pl [],tu (tx (t+3) x),tu (tx (t+3+x.length) y),tm q s,C q s a t,fn (nm s) q s (a+5) m],t+5+x.length+y.length)
 |none=>([tu [],pl [],tm q s,C q s a t,fn (nm s) q s (a+3) m],t+5)
structure Z where
 b:BT
 n:Nat
 t:Nat
 g:List DictEntry
 p:List Value
 m:Value
 q:List (List (Nat×Nat))
noncomputable def V1(b:BT)(n:Nat):List Obj->BT
 |[]=>b
 |o::l=>V1 (b.ins n o) (n+1) l
noncomputable def en(P:Params)(s:Str)(t:Nat)(v:Value):DictEntry:=⟨reduceHash (P.strHash s.cps),.str s t,v⟩
noncomputable def dT(t:Nat):List (Nat×Nat)->List DictEntry
 |[]=>[]
 |(k,a)::l=>⟨k,.int k t,.ref a⟩::dT (t+1) l
def dO(t:Nat)(l:List (Nat×Nat)):Obj:=ob (.type "dict") (.dict (dT t l).toArray l.length)
noncomputable def nI(t:Nat):List PySem.Expr->List Value
 | .Constant (.int i) _ _::r=>.int i t::nI (t+1) r
 |_=>[]
def put(P:Params)(s:Stmt)(v:Value)(k:Nat)(z:Z):Z:={z with t:=z.t+k+1,g:=en P (nm s) (z.t+k) v::z.g}
def lay(q:Str)(s:Stmt)(z:Z):Z:=
 let r:=df q s z.n z.t z.m
 {z with b:=V1 z.b z.n r.1,n:=z.n+r.1.length,t:=r.2,p:=.ref (z.n+r.1.length - 2)::rawInt (po s).col::rawInt (po s).line::z.p}
noncomputable def fc{α:Type}(f:Nat->α):Nat->α
 |0=>f 0
 |k+1=>f (k+1)
def fx(y:Z):Z:=fc (fun n=>fc (fun t=>⟨y.b,n,t,y.g,y.p,y.m,y.q⟩) y.t) y.n
def ms(P:Params)(s:Stmt)(z:Z):Z:=let y:=lay (("Album.":Str).append (nm s)) s z;put P s (.ref (y.n - 1)) 0 y
def mz(P:Params)(b:List Stmt)(t:BT)(m:Value):Z:=b.foldl (fun z s=>fx (ms P s z)) ⟨t,722,1258,[],[],m,[]⟩
def cO:Obj:=⟨.type "type",none,.cls {name:="Album",bases:=[.type "object"],mro:=[.ref 780,.type "object"],ns:=779,qualname:="Album"},#[none,none,some (.str "Album" 1246),some (.str "Album" 1254),some (.builtin "object.__new__"),some (.bool true)]⟩
def cE(P:Params)(m:Value)(g:List DictEntry):List DictEntry:=en P "__module__" 1253 m::g
def cF(P:Params)(g:List DictEntry):List DictEntry:=en P "__firstlineno__" 1257 (.int 516 1256)::(g.reverse++[en P "__static_attributes__" 1327 (.ref 778)])
def nD(P:Params)(m:Value)(g:List DictEntry):Obj:=ob (.type "dict") (.dict (cE P m (cF P g++[en P "__dict__" 1329 (.ref 781),en P "__weakref__" 1331 (.ref 782),en P "__doc__" 1332 .none])).toArray 4)
def fr(c l:Addr)(m:Value):Obj:=⟨.type "frame",none,.plain,#[some (.ref c),some (.ref 3),some (.ref l),none,some m,none,some (.ref 0)]⟩
def bf(l:List Value):Obj:=ob (.type "builtin_function_or_method") (fi l)
def gs(l:List Value):Obj:=ob (.type "getset_descriptor") (fi l)
def z1(P:Params)(z:Z)(s:Stmt):Z:=match s with
 | .FunctionDef .. =>let y:=lay (nm s) s z;put P s (.ref (y.n - 1)) 0 y
 | .Assign _ v _=>(match v with
  | .Constant (.str x) _ _=>{z with t:=z.t+2,m:=.str x z.t}
  | .Constant (.int i) _ _=>put P s (.int i z.t) 1 z
  | .UnaryOp _ (.Constant (.int i) _ _) _=>put P s (.int (-i) (z.t+1)) 2 z
  | .Tuple l _ _=>put P s (.ref z.n) l.length {z with b:=z.b.ins z.n (tu (nI z.t l)),n:=z.n+1}
  | .Dict k _ _=>put P s (.ref z.n) (2*k.length) {z with b:=z.b.ins z.n (dO z.t z.q.head!),n:=z.n+1,q:=z.q.tail}
  |_=>z)
 | .ClassDef x _ _ b _ _ _ _ _ l _=>
  let y:=mz P b (V1 z.b z.n [tu [],bf [.builtin "type.__prepare__",.type "type"],tu [],tu [],tu [],cd x x 516 0 0 718 1248 false .none .none .none 1251,fr 720 717 z.m]) z.m
  {z with
   b:=V1 ((y.b.ins 717 (ob (.type "dict") (.dict (cE P z.m (en P "__qualname__" 1255 (.str x 1254)::cF P y.g)).toArray 12))).ins 719 (pl y.p.reverse)) 778 [tu (tx 1323 l),nD P z.m y.g,cO,gs [.str "__dict__" 1328,.ref 780,.builtin "function.__dict__",.builtin "function.__dict__#set"],gs [.str "__weakref__" 1330,.ref 780,.builtin "ExceptionGroup.__weakref__",.none],ob (.type "super") (fi [.ref 780,.ref 780,.ref 780]),bf [.builtin "object.__init_subclass__",.ref 780]],
   n:=785,t:=1335,g:=en P x 1334 (.ref 780)::z.g,p:=.ref 720::rawInt 0::rawInt 516::z.p}
 |_=>z
def qs:List (List (Nat×Nat)):=[
 [(21,211),(22,218),(23,225),(24,253),(25,246),(26,260),(27,239),(28,232),(29,267),(30,274),(31,281),(32,288),(33,295)],
 [(55,397),(56,404),(57,411),(58,418),(59,425),(60,432),(61,439),(62,446),(63,453),(64,460),(65,467),(66,474)],
 [(1,494),(2,501),(3,508),(5,513),(15,520),(16,525),(19,532),(20,539)],
 [(34,638),(35,645),(36,652),(37,659),(38,666),(39,673),(40,680),(41,685),(42,692),(43,699),(44,706)],
 [(4,824),(10,831),(11,838),(12,845),(13,852)],
 [(45,947),(46,952),(47,959),(48,966),(49,973),(50,947),(51,980),(52,987),(53,994),(54,1001)],
 [(6,1016),(7,1021),(8,1035),(9,1042),(14,1049),(17,1056),(18,1063)]]
def mo:Str:="<module>"
noncomputable def gO(m:Value)(g:List DictEntry):Obj->Obj
 |⟨c,d,.dict es n,s⟩=>⟨c,d,.dict ((match es.toList with|e::l=>⟨e.hash,e.key,m⟩::l|[]=>[])++g.reverse).toArray (n+g.length),s⟩
 |o=>o
def zs (P:Params) (i:Nat):Z:=(pw.main.body.take i).foldl (fun z s=>fx (z1 P z s)) ⟨V1 .nil 0 ((boot_heap P).objs.toList++[tu [],tu [],cd mo mo 1 0 0 11 182 false .none .none .none 185,fr 13 3 (.str "__main__" 164)]),15,187,[],[],.str "__main__" 164,qs⟩
def kG (P:Params) (z:Z):Obj:=gO z.m z.g (boot_o_3 P)
def tr (P:Params) (z:Z):BT:=(z.b.ins 3 (kG P z)).ins 12 (pl z.p.reverse)
def st (P:Params) (i:Nat) (os:OsState):SharedT:=let z:=zs P i;⟨tr P z,z.n,{},#[],{},z.t,os⟩
def q:Program:=view pw [81,86,90,130,206]
abbrev loose:List Str:=pw.boundNames
abbrev H1 (P:Params):Heap:=absHeap (tr P (zs P 207)) 1087 {}
abbrev S1 (P:Params) (os:OsState):Shared:=⟨H1 P,#[],{},1884,os⟩
theorem T5{p:Program}{h:Heap}(hg:h.isNs mainGlobals=true)(e:h.nsKeys mainGlobals=startupNames++p.boundNames.tail):namesBound p h=true:=by
 unfold namesBound;rw[hg,Bool.true_and,e,List.all_eq_true];intro k hk;rw[Bool.or_eq_true,List.contains_iff_mem,List.contains_iff_mem];exact(List.mem_append.mp hk).imp id List.mem_of_mem_tail
theorem V2{p q:Program}{h:Heap}{a b c:List Str}(e:h.nsKeys mainGlobals=startupNames++p.boundNames.tail):h.keysOk (looseW q p.boundNames) a b c=true:=by
 unfold Heap.keysOk;rw[e,List.all_eq_true];intro k hk;simp only[Bool.or_eq_true,List.contains_iff_mem];refine .inl (.inl (.inl ((List.mem_append.mp hk).imp id fun x=>?_)));exact List.mem_append_left _ (List.mem_append_left _ (List.mem_append_left _ (List.mem_of_mem_tail x)))
theorem V3{K:Frag}{t:BT}{n:Nat}{life:Life}(h1:K.map (fun p=>t.get p.1)=K.map fun p=>some p.2)(h2:K.all (fun p=>Nat.blt p.1 n)=true)(h3:K.map (fun p=>alive p.2)=K.map fun p=>some p.2):K.In (absHeap t n life):=fun a o e=>by
 have m:(a,o)∈K:=mem_of_lookupK e;have b:Nat.blt a n=true:=List.all_eq_true.mp h2 (a,o) m;rw[abs_get (Nat.blt_eq.mp b) (List.map_inj_left.mp h1 (a,o) m)];exact List.map_inj_left.mp h3 (a,o) m
theorem R0(P:Params):(H1 P).isNs mainGlobals=true:=by kernel_rfl
theorem R1(P:Params):(H1 P).nsKeys mainGlobals=startupNames++pw.boundNames.tail:=by kernel_rfl
theorem Yw(P:Params):staticsOk (importedModules pw.main.body) (boot_heap P) (H1 P)=true:=by kernel_rfl
theorem Yx(P:Params):laidKept (boot_heap P) (H1 P)=true:=by kernel_rfl
theorem Yy(P:Params)(os:OsState):seen ((recsOf q).map (·.name)) (ownsOf q) [] {S1 P os with gens:= #[]}=expectedOf q:=by kernel_rfl
theorem aaN(P:Params):(H1 P).bltView=bltViewBooted:=by kernel_rfl
theorem aaO(P:Params):(H1 P).accountedOkI (importedModules pw.main.body)=true:=by kernel_rfl
theorem aaP(P:Params):(H1 P).isNs builtinsNs=true:=by kernel_rfl
theorem Yz(P:Params):tablesOk q (H1 P)=true:=by kernel_rfl
theorem YA(P:Params)(os:OsState):tabsOk q (S1 P os)=true:=by kernel_rfl
theorem aaQ(P:Params)(os:OsState):pinSeenD q (drecsOf q) (S1 P os)=pinGoodD (drecsOf q):=by kernel_rfl
theorem aaR(P:Params)(os:OsState):plainSeenE q (looseW q loose) (S1 P os)=plainGoodE q (looseW q loose):=by kernel_rfl
theorem aaS(P:Params)(os:OsState):plainSeenD q loose (S1 P os)=plainGoodD q loose:=by kernel_rfl
theorem YB(P:Params)(os:OsState):wideSeen q (S1 P os)=wideGood q:=by kernel_rfl
theorem aaT(P:Params)(os:OsState):clsSeenW q loose (S1 P os)=clsGoodW q loose:=by kernel_rfl
abbrev ev:Env:={scope:=pw.main.scope,locals:=mainNs,globals:=mainNs,cells:=[],code:=.ref 13,frame:=some 14}
abbrev cB:Code:=.body (behindTheImports pw) ev
abbrev o4:Pos:=⟨0,0,0,0⟩
def pa(i:Nat):Pos:=match(pw.main.body.take i).getLast? with
 |some (.FunctionDef _ _ _ _ _ _ _ _ _ p)=>p
 |some (.Assign [.Name _ p] _ _)=>p
 |_=>o4
def sl(i j:Nat):List Stmt:=(pw.main.body.drop i).take (j - i)
def gr(i j:Nat)(w:World):Prop:=∀os,segRunT treeTable pw w 11 (some (.ref 6)) 1 3000 (st w.params i os) (piecesOf (sl i j) ev cB (pa i) [topFrame o4])=some (.next,st w.params j os,cB,pa j)
theorem g0(w:World):gr 0 62 w:=fun os=>by kernel_rfl
theorem g1:∀w,gr 62 63 w:=byRow2 "special-get-raises" (fun w os=>by kernel_rfl) fun w os=>by kernel_rfl
theorem g2(w:World):gr 63 93 w:=fun os=>by kernel_rfl
theorem g3:∀w,gr 93 94 w:=byRow2 "special-get-raises" (fun w os=>by kernel_rfl) fun w os=>by kernel_rfl
theorem g4(w:World):gr 94 107 w:=fun os=>by kernel_rfl
theorem g5:∀w,gr 107 108 w:=byRow2 "special-get-raises" (fun w os=>by kernel_rfl) fun w os=>by kernel_rfl
theorem g6(w:World):gr 108 141 w:=fun os=>by kernel_rfl
theorem g7:∀w,gr 141 142 w:=byRow2 "special-get-raises" (fun w os=>by kernel_rfl) fun w os=>by kernel_rfl
theorem g8(w:World):gr 142 156 w:=fun os=>by kernel_rfl
theorem g9:∀w,gr 156 157 w:=byRow2 "special-get-raises" (fun w os=>by kernel_rfl) fun w os=>by kernel_rfl
theorem g10(w:World):gr 157 187 w:=fun os=>by kernel_rfl
theorem g11:∀w,gr 187 188 w:=byRow2 "special-get-raises" (fun w os=>by kernel_rfl) fun w os=>by kernel_rfl
theorem g12(w:World):gr 188 200 w:=fun os=>by kernel_rfl
theorem g13:∀w,gr 200 201 w:=byRow2 "special-get-raises" (fun w os=>by kernel_rfl) fun w os=>by kernel_rfl
theorem g14(w:World):gr 201 207 w:=fun os=>by kernel_rfl
abbrev S0 (P:Params) (os:OsState):Shared:=⟨boot_heap P,#[],boot_drawn,boot_toks,os⟩
theorem aaU(w:World)(os:OsState):topGo treeTable pw w 11 (some (.ref 6)) 12 (S0 w.params os) (topStub pw)=some ((st w.params 0 os).abs,⟨denote treeTable cB,cB,o4,[topFrame o4]⟩):=by kernel_rfl
theorem V4(w:World)(os:OsState):segRun treeTable pw w 11 (some (.ref 6)) 1 1 (st w.params 0 os).abs (blockOf (behindTheImports pw) ev cB o4 [topFrame o4])=some (.next,(st w.params 0 os).abs,cB,pa 0):=by kernel_rfl
theorem aaV(w:World)(os:OsState):topRun treeTable pw w 11 (some (.ref 6)) 2 (st w.params 207 os).abs (restOf [] ev cB (pa 207) [topFrame o4])=some (S1 w.params os):=by kernel_rfl
theorem YC:behindTheImports pw=(sl 0 62++(sl 62 63++(sl 63 93++(sl 93 94++(sl 94 107++(sl 107 108++(sl 108 141++(sl 141 142++(sl 142 156++(sl 156 157++(sl 157 187++(sl 187 188++(sl 188 200++(sl 200 201++(sl 201 207++[]))))))))))))))):=by kernel_rfl
theorem aaW(w:World)(os:OsState):topRun treeTable pw w 11 (some (.ref 6)) 45015 (S0 w.params os) (topStub pw)=some (S1 w.params os):=by
 have h:=(piece_app (segRun_of (g0 w os)) (piece_app (segRun_of (g1 w os)) (piece_app (segRun_of (g2 w os)) (piece_app (segRun_of (g3 w os)) (piece_app (segRun_of (g4 w os)) (piece_app (segRun_of (g5 w os)) (piece_app (segRun_of (g6 w os)) (piece_app (segRun_of (g7 w os)) (piece_app (segRun_of (g8 w os)) (piece_app (segRun_of (g9 w os)) (piece_app (segRun_of (g10 w os)) (piece_app (segRun_of (g11 w os)) (piece_app (segRun_of (g12 w os)) (piece_app (segRun_of (g13 w os)) (piece_app (segRun_of (g14 w os)) (aaV w os))))))))))))))));rw[<- YC]at h;exact go_top (aaU w os) (piece_block (V4 w os) h)
theorem YD(w:World):(fencedOpening treeTable pw w 50000).map (fun s=>(s.heap,s.gens,s.drawn,s.toks))=some (boot_heap w.params,#[],boot_drawn,boot_toks):=
 boot_open (by kernel_rfl) (by decide) (fun s=>by kernel_rfl) w
theorem YE(w:World):((boot_heap w.params).isNs mainGlobals&&(#[]:Array GenState).size==0,(boot_heap w.params).objs.size,(boot_heap w.params).nsMap mainGlobals "__annotations__")=(true,11,some (.ref 6)):=by kernel_rfl
theorem YF(P:Params)(os:OsState):openSeen q loose (importedModules pw.main.body) (fun _=>true) true (S1 P os)=openGood q loose:=
 looks_pair (Yy P os) (looks_pair (aaN P) (looks_pair (by rw[show(S1 P os).heap=H1 P from rfl,V2 (R1 P),aaO,R0,aaP,Yz];rfl) (looks_pair (YA P os) (looks_pair (aaQ P os) (looks_pair (aaR P os) (looks_pair (aaS P os) (looks_pair (YB P os) (aaT P os))))))))
theorem left:LeftO pw q loose (fun _=>true) (fun s=>s.heap) (fun w=>H1 w.params) 50000:=
 LeftO.of_pieces (H₀:=boot_heap) (H₁:=H1) (m₀:=11) (ann:=some (.ref 6)) (M:=45015) YD YE aaW (by decide)
  fun w=>funext fun os=>looks_pair (by rw[Yw,T5 (R0 _) (R1 _),Yx];rfl) (looks_pair (YF w.params os) rfl)
def tp(i:Nat):Stmt:=pw.main.body.getD i (.Pass ⟨0,0,0,0⟩)
def kC (P:Params) (i:Nat):Obj:=C (nm (tp i)) (tp i) (zs P i).n (zs P i).t
def kF (P:Params) (i c:Nat):Obj:=fn (nm (tp i)) (nm (tp i)) (tp i) c (zs P i).m
def cb:List Stmt:=match tp 144 with
 | .ClassDef _ _ _ b _ _ _ _ _ _ _=>b
 |_=>[]
def cs(i:Nat):Stmt:=inClass (tp 144) i
def my(P:Params)(i:Nat):Z:=mz P (cb.take i) .nil .none
def kD(P:Params)(i:Nat):Obj:=C (("Album.":Str).append (nm (cs i))) (cs i) (my P i).n (my P i).t
def kM (P:Params) (i c:Nat) (q:Str):Obj:=fn (nm (cs i)) q (cs i) c (zs P 144).m
def kN (P:Params):Obj:=nD P (zs P 144).m (my P 8).g
def kT:Obj:=tu (match tp 204 with| .Assign _ (.Tuple l _ _) _=>nI 1790 l|_=>[])
def dt(t i:Nat):Obj:=dO t (qs.getD i [])
section
open Lean in
local macro_rules
 | `($n:num* $i:num:: $r)=>do `((nat_lit $n,kC $(mkIdent `P) $i)::(nat_lit $(Syntax.mkNumLit s!"{n.getNat + 1}"),kF $(mkIdent `P) $i $n):: $r)
 | `($n:num* $q:str:: $r)=>do
  let i:=Syntax.mkNumLit s!"{(n.getNat - 727) / 7}"
  `((nat_lit $n,kD $(mkIdent `P) $i)::(nat_lit $(Syntax.mkNumLit s!"{n.getNat + 1}"),kM $(mkIdent `P) $i $n $q):: $r)
def K (P:Params):Frag:=(nat_lit 2,boot_o_2 P)::(nat_lit 3,kG P (zs P 207))::20*1::27*2::34*3::41*5::48*6::55*7::62*8::69*9::74*11::81*12::88*13::95*14::102*15::109*16::114*17::121*18::128*19::135*20::142*21::149*22::156*23::163*39::170*41::177*42::182*43::189*44::196*45::203*46::210*49::217*50::224*51::231*52::238*53::245*54::252*55::259*56::266*57::273*58::280*59::287*60::294*61::(nat_lit 296,dt 600 0)::302*63::309*65::314*66::321*67::328*68::335*69::342*70::349*71::356*72::361*73::368*77::375*78::382*79::389*80::396*81::403*82::410*83::417*84::424*85::431*86::438*87::445*88::452*89::459*90::466*91::473*92::(nat_lit 475,dt 853 1)::481*94::486*98::493*99::500*100::507*101::512*102::519*103::524*104::531*105::538*106::(nat_lit 540,dt 969 2)::546*108::551*110::556*111::563*112::570*113::577*114::582*115::587*116::592*119::597*120::604*121::611*122::618*123::625*124::630*125::637*130::644*131::651*132::658*133::665*134::672*135::679*136::684*137::691*138::698*139::705*140::(nat_lit 707,dt 1212 3)::713*142::727*"Album.__init__"::734*"Album.begin"::741*"Album.has_collector"::748*"Album.has_kind"::755*"Album.has_pair"::762*"Album.add_kind"::769*"Album.add_picture"::776*"Album.take_picture"::(nat_lit 779,kN P)::(nat_lit 780,cO)::790*146::795*147::802*148::809*149::816*150::823*151::830*152::837*153::844*154::851*155::(nat_lit 853,dt 1434 4)::859*157::866*159::873*160::880*161::885*162::892*163::899*164::906*165::913*166::920*174::927*175::932*176::939*177::946*178::951*179::958*180::965*181::972*182::979*183::986*184::993*185::1000*186::(nat_lit 1002,dt 1650 5)::1008*188::1015*192::1020*193::1027*194::1034*195::1041*196::1048*197::1055*198::1062*199::(nat_lit 1064,dt 1762 6)::1070*201::(nat_lit 1072,kT)::1078*205::1085*206::[]
end
theorem abR(P:Params):(K P).In (H1 P):=V3 (t:=tr P (zs P 207)) (by kernel_rfl) (by kernel_rfl) (by kernel_rfl)
abbrev tE:=PySem.Challenge.rw_albumwhole_s01_answers
theorem x1:sreFenced pw.main=true:=by decide +kernel
theorem x2:((moduleNames pw.main.body).isEmpty||lookedIntoSs (moduleNames pw.main.body) pw.main.body)=true:=by decide +kernel
theorem x3:namesResolve pw=true:=by decide +kernel
theorem x4:(pw.boundNames.all (fun n=>!worldNames.contains n))=true:=by decide +kernel
theorem x5:(importedModules pw.main.body).all cThrough.contains=true:=by decide +kernel
theorem x6:((["vars","dir","locals"]:List Str).filter (readsOut pw pw.main.body))=[]:=by decide +kernel
theorem x7:noRoadLSs {strict:=false,foot:=none,bare:=[]} pw.main.body=true:=by decide +kernel
theorem x8:(namesMeet pw pw.main.body fun _ n=>attrL n)=true:=by decide +kernel
theorem x9:(pw.boundNames.contains PySem.Challenge.nm_albumwhole_s01_answers&& !startupNames.contains PySem.Challenge.nm_albumwhole_s01_answers&&specDef pw PySem.Challenge.nm_albumwhole_s01_answers 1)=true:=by decide +kernel
theorem YG:looksOpen pw=true:=by
 unfold looksOpen;rw[x1,x2,x3,x4,x5,x6,show(!true)=false from rfl,x7,x8];rfl
theorem Mj:tE.wellSaid=true:=by
 have h:=x9;rw[Bool.and_eq_true,Bool.and_eq_true]at h;unfold OpenSpec.wellSaid;rw[show tE.prog=pw from rfl,show tE.name=PySem.Challenge.nm_albumwhole_s01_answers from rfl,show tE.args.length=1 from rfl,YG,h.1.1,h.1.2,h.2]
 decide +kernel
theorem Ga{α:Type} [BEq α] [LawfulBEq α]{β:Type}{n:α}{k:β}:∀{l:List (α×β)},(l.map (·.1)).Nodup->(n,k)∈l->l.filter (fun y=>y.1==n)=[(n,k)]
 |[],_,h=>by cases h
 |x::l,hn,h=>by
  have hn:=List.nodup_cons.mp hn;rcases List.mem_cons.mp h with rfl|h
  ·have e:l.filter (fun y=>y.1==n)=[]:=by
    rw[List.filter_eq_nil_iff];intro y hy q;exact hn.1 (by have:=List.mem_map_of_mem (f:=(·.1)) hy;rwa [eq_of_beq q]at this)
   rw[List.filter_cons,if_pos (by simp),e]
  have hx:(x.1==n)=false:=by
   rw[beq_eq_false_iff_ne];rintro rfl;exact hn.1 (List.mem_map_of_mem (f:=(·.1)) h)
  rw[List.filter_cons,if_neg (by simp[hx]),Ga hn.2 h]
def cdn(s:Str):Nat:=s.cps.toList.foldl (fun a c=>a*1114112+c) 1
def YH:List Nat->Bool
 |[]=>true
 |x::r=>r.all (fun y=>!Nat.beq x y)&&YH r
theorem V5:∀{l:List Nat},YH l=true->l.Nodup
 |[],_=>List.nodup_nil
 |x::r,h=>by
  unfold YH at h;rw[Bool.and_eq_true,List.all_eq_true]at h;refine List.nodup_cons.mpr ⟨fun m=>?_,V5 h.2⟩;have:=h.1 x m;simp at this
theorem YI{α:Type}(f:α->Nat){l:List α}(h:(l.map f).Nodup):l.Nodup:=List.Pairwise.imp (fun{a b} (q:f a≠f b) (e:a=b)=>q (congrArg f e)) (List.pairwise_map.mp h)
theorem T6{sc:Scope}(h:YH (sc.names.map fun x=>cdn x.1)=true):TablesWhole.noTwice sc=true:=by
 have hn:(sc.names.map (·.1)).Nodup:=YI cdn (by rw[List.map_map];exact V5 h);unfold TablesWhole.noTwice;rw[List.all_eq_true];rintro⟨n,k⟩ hx;dsimp only;rw[Ga hn hx]
theorem abS:TablesWhole.noTwice pw.main.scope=true:=T6 (by decide +kernel)
theorem abT:(let m:=pw.main;TablesWhole.wSs TablesWhole.holds m.scope ⟨m.scope,[],TablesWhole.wSs TablesWhole.gather m.scope ⟨m.scope,[],[],[],none⟩ m.scope m.body,[],none⟩ m.scope m.body)=true:=by decide +kernel
theorem aaX:pw.tablesWhole=true:=by
 have h1:=abS;have h2:=abT;unfold Program.tablesWhole TablesWhole.wProgram TablesWhole.wModule;dsimp only at h2 ⊢;generalize TablesWhole.wSs TablesWhole.holds _ _ _ _=b at h2 ⊢;subst h2;simp only[TablesWhole.holds]at h1 ⊢;rw[h1];rfl
theorem abU:(chainsOk q&&opensWell pw)=true:=by decide +kernel
theorem YJ:pw.bare:=⟨rfl,rfl,rfl,rfl,rfl,aaX⟩
def sA:Stmt:=pw.main.body.getD 206 (.Pass ⟨0,0,0,0⟩)
def dA:DefRec:=match sA with| .FunctionDef _ a b _ _ _ sc _ _ p=>⟨"answers",a,b,sc,p⟩|_=>⟨"answers",⟨[],[],none,[],[],none,[]⟩,[],{kind:=.function,names:=[],isGenerator:=false,isCoroutine:=false},⟨0,0,0,0⟩⟩
theorem aaY:defOf q tE.name=some (dA,[]):=by kernel_rfl
theorem aaZ:pw.theDef tE.name=some (dA.params,dA.body,dA.scope):=by kernel_rfl
theorem abV:kwWritten? dA.params.kwonlyargs dA.params.kw_defaults=some []:=by kernel_rfl
theorem R3:dA.name="answers":=by kernel_rfl
theorem Y5:dA.params.defaults=[]:=by kernel_rfl
theorem head(hw:∃args,tE.pre args=true/\WData.layableAll args=true)(call:WalkOS q loose (fun _ _=>True) (InK K) tE dA [] fun f vs=>PySem.call f vs):tE.Holds:=
 holds_os left (fun w s e=>by rw[show s.heap=H1 w.params from e];exact abR w.params) InK.keeps (fun _ _=>trivial) (fun _ _ _ _ _=>trivial) aaY aaZ abV (fun _ _=>recFacts_nil rfl) os_shapes Mj abU YJ hw call
end Hd
namespace Al
open PySem PySem.Spec PyProof.Rows L2
variable{P:Program}{w:World}{K:Frag}{mg:Str->Option Value}{ae:Heap}{C f g1 g2 g3 g4:Addr}{fd bH cp c4 gG:FuncData}
theorem Kv{α β:Type}{f g:α->Option β}:∀{l:List α},(∀x∈l,f x=g x)->l.filterMap f=l.filterMap g
 |[],_=>rfl
 |a::l,h=>by rw[List.filterMap_cons,List.filterMap_cons,h a List.mem_cons_self,Kv fun x hx=>h x (List.mem_cons_of_mem _ hx)]
theorem WK{α β:Type}(x:α)(f:α->Sem β):((pure x:Sem α) >>= f)=f x:=rfl
theorem MU{ps:List Str}:∀{us:List Value},us.length=ps.length->ps.Nodup->(ps.filterMap fun n=>((ps.zip us).lookup n).map (n,·))=ps.zip us:=by
 induction ps with
 |nil=>intro us _ _;rfl
 |cons p ps ih=>
  intro us hl hn;cases us with
  |nil=>simp at hl
  |cons u us=>
   have hn':=List.nodup_cons.mp hn;have e:(ps.filterMap fun n=>(((p::ps).zip (u::us)).lookup n).map (n,·))=ps.filterMap fun n=>((ps.zip us).lookup n).map (n,·):=by
    apply Kv;intro x hx;have:(x==p)=false:=by
     rw[beq_eq_false_iff_ne];rintro rfl;exact hn'.1 hx
    simp[List.zip_cons_cons,List.lookup_cons,this]
   rw[List.filterMap_cons,e,ih (by simpa using hl) hn'.2];simp[List.zip_cons_cons,List.lookup_cons]
theorem lookup_some{ps:List Str}:∀{us:List Value},us.length=ps.length->(ps.filter fun n=>((ps.zip us).lookup n).isNone)=[]:=by
 intro us hl;rw[List.filter_eq_nil_iff];intro a ha;have:∀(ps:List Str) (us:List Value),us.length=ps.length->a∈ps->((ps.zip us).lookup a).isNone=false:=by
  intro ps
  induction ps with
  |nil=>intro us _ h;cases h
  |cons p ps ih=>
   intro us hl h;cases us with
   |nil=>simp at hl
   |cons u us=>
    rw[List.zip_cons_cons,List.lookup_cons];cases e:(a==p)with
    |true=>rfl
    |false=>
     rcases List.mem_cons.mp h with rfl|h
     ·simp at e
     exact ih us (by simpa using hl) h
 rw[this ps us hl ha];simp
theorem MV{fd:FuncData}{ps:List Str}(h1:fd.params.posonlyargs=[])(h2:fd.params.args.map (·.arg)=ps)(h3:fd.params.vararg=none)(h4:fd.params.kwonlyargs=[])(h5:fd.params.kwarg=none)(h6:fd.defaults= .none)(hn:ps.Nodup)
  (us:List Value)(hl:us.length=ps.length):bindArgs fd ⟨us,[]⟩=pure (ps.zip us):=by
 have hs:(seqItems? Value.none:Sem (Option (Array Value)))=pure none:=rfl;unfold bindArgs;simp only[h1,h2,h3,h4,h5,h6,hs,List.map_nil,List.nil_append,List.append_nil,hl,List.forIn_nil,WK,Option.getD_none,List.drop_nil,List.length_nil,Nat.sub_zero,Nat.zero_sub,gt_iff_lt,Nat.lt_irrefl,decide_false,Bool.false_and,Bool.false_eq_true,if_false,
  List.toList_toArray,List.take_length,lookup_some hl,List.isEmpty_nil,Bool.not_true,List.drop_length,List.zip_nil_left,MU hl hn]
noncomputable def wk(a:Arguments)(ps:List Str):Bool:=a.posonlyargs.isEmpty&&decide (a.args.map (·.arg)=ps)&&a.vararg.isNone&&a.kwonlyargs.isEmpty&&a.kwarg.isNone&&decide ps.Nodup
theorem Eo{K:Frag}{x qual:Str}{st:Stmt}{f:Addr}{fd:FuncData}{ps:List Str}(F:bD K x qual st f fd)(h:wk (gJ st) ps=true):Binds K fd ps []:=by
 unfold wk at h;simp only[Bool.and_eq_true,List.isEmpty_iff,decide_eq_true_eq,Option.isNone_iff_eq_none]at h;obtain⟨⟨⟨⟨⟨h1,h2⟩,h3⟩,h4⟩,h5⟩,h6⟩:=h;exact F.binds fun kV doc pm an fS ct us hl=>MV h1 h2 h3 h4 h5 rfl h6 us hl
noncomputable def scB(N P:List Str)(sc:Scope):Bool:=decide (sc.kind= .function)&& !sc.isCoroutine&& !sc.isGenerator&&decide N.Nodup&&decide (N.take P.length=P)&&P.all (fun x=>decide (sc.names.lookup x=some .local)||decide (sc.names.lookup x=some .cell))&&sc.names.all fun y=>decide (y.2≠ .free)
theorem aJ{N P:List Str}{sc:Scope}(h:scB N P sc=true:=by decide +kernel):aC N P sc:=by
 unfold scB at h;simp only[Bool.and_eq_true,decide_eq_true_eq,Bool.not_eq_true',List.all_eq_true,Bool.or_eq_true]at h;obtain⟨⟨⟨⟨⟨⟨h1,h2⟩,h3⟩,h4⟩,h5⟩,h6⟩,h7⟩:=h;exact⟨h1,h2,h3,h4,h5,h6,h7⟩
theorem pz{X:Cx}(i:Nat){N ps:List Str}{sc:Scope}{x:Str}{e:Expr}{te:TE}{pos pos':Pos}(S:aC N ps sc)(he:PE X e te)(hN:X.N=N:=by rfl)(hi:X.N[i]? =some x:=by rfl)(hx:Loc X.env.scope x:=by first|exact Or.inl rfl|exact Or.inr rfl)(hs:swapsWith e (some (.Name x pos')) pos.line X.env=pure false:=by rfl)(hf:X.fn x=true∨X.env.scope.names.lookup x=some .local:=by first|exact .inl rfl|exact .inr rfl|assumption):
  PS X (.Assign [.Name x pos'] e pos) (bN te (bc i)):=tK (hN▸S.nd) hi hx he hs hf
noncomputable abbrev ef:List Str:=["album","given"]
noncomputable abbrev iD:List Str:=["given"]
theorem qz{X:Cx}(i:Nat){N ps:List Str}{sc:Scope}{x:Str}{pos:Pos}(S:aC N ps sc)(hN:X.N=N:=by rfl)(hi:X.N[i]? =some x:=by rfl)(hx:Loc X.env.scope x:=by first|exact Or.inl rfl|exact Or.inr rfl)(hf:X.fn x=true∨X.env.scope.names.lookup x=some .local:=by first|exact .inl rfl|exact .inr rfl|assumption):PG X (.Name x pos) (bc i):=Mu (hN▸S.nd) hi hx hf
theorem bG{P:Program}{w:World}{K:Frag}{mg:Str->Option Value}{ae:Heap}{x qual:Str}{st:Stmt}{f:Addr}{fd:FuncData}{N ps:List Str}{k:Nat}{sp:Sp}(F:bD K x qual st f fd)(S:aC N ps (ay st))
  (wa:∀(fS:Value) (A:Around) (bP:List Env) (s:Shared) (H:Hp) (vs:List V) (Q:VK) (E:XK),gH k (A.deeper (envOfC qual (ay st) s.heap.objs.size f fS))->sp vs H Q E->
   ∃t,Bm (FC bo P w K mg ae N qual (ay st) f fS A bP s H E).Hn (fG st) t/\t {nx:=fun _ H'=>Q .e7 H',rt:=Q} (start N vs) H)
  (len:∀vs H Q E,sp vs H Q E->vs.length=ps.length:=by intro _ _ _ _ h;(repeat (obtain⟨_,h⟩:=h));subst_vars;rfl):aM P w K mg ae bo (k+1) f fd ps sp:=F.ok S len wa
noncomputable def toF(r:Rat):Frac:=⟨r.num,r.den⟩
noncomputable def Zx(r:Rat):Nat×Nat:=(r.num.toNat,r.den)
theorem MW(a b:Nat)(hb:b≠0):frac a b=Zx (mkRat a b):=by
 unfold frac Zx;rw[if_neg hb,Rat.num_mkRat,Rat.den_mkRat,if_neg hb,if_neg hb];have e:(b.gcd (a:Int).natAbs)=Nat.gcd a b:=by rw[Int.natAbs_natCast,Nat.gcd_comm]
 rw[e];have:((a:Int)/((Nat.gcd a b:Nat):Int)).toNat=a/Nat.gcd a b:=by
  rw[<- Int.natCast_ediv,Int.toNat_natCast]
 rw[this]
theorem RD(a:Int)(b:Nat)(hb:b≠0):low ⟨a,b⟩=toF (mkRat a b):=by
 have hg:Int.gcd a (b:Int)=b.gcd a.natAbs:=by
  unfold Int.gcd;rw[Int.natAbs_natCast,Nat.gcd_comm]
 have hg0:Int.gcd a (b:Int)≠0:=by
  rw[hg];exact Nat.ne_of_gt (Nat.gcd_pos_of_pos_left _ (Nat.pos_of_ne_zero hb))
 unfold low toF;show(if Int.gcd a (b:Int)=0 then(⟨0,1⟩:Frac)else⟨a/(Int.gcd a (b:Int):Int),b/Int.gcd a (b:Int)⟩)=_;rw[if_neg hg0,Rat.num_mkRat,Rat.den_mkRat,if_neg hb,if_neg hb,hg]
theorem MX(a b:Nat)(hb:b≠0):over a b=toF (mkRat a b):=RD a b hb
theorem add_eq(x y:Rat):Kp292.add (toF x) (toF y)=toF (x+y):=by
 unfold Kp292.add;show low ⟨x.num*(y.den:Int)+y.num*(x.den:Int),x.den*y.den⟩=_;rw[RD _ _ (Nat.mul_ne_zero x.den_nz y.den_nz),Rat.add_def']
theorem neg_eq(x:Rat):Kp292.neg (toF x)=toF (-x):=rfl
theorem zero_eq:Kp292.zero=toF 0:=rfl
noncomputable def u6(l:List Rat):Rat:=l.foldr (· + ·) 0
theorem Ep:u6 []=0:=rfl
theorem jF(a:Rat)(l:List Rat):u6 (a::l)=a+u6 l:=rfl
theorem Lg(l m:List Rat):u6 (l++m)=u6 l+u6 m:=by
 induction l with
 |nil=>rw[List.nil_append,Ep,Rat.zero_add]
 |cons a l ih=>rw[List.cons_append,jF,jF,ih,Rat.add_assoc]
theorem foldl_add(l:List Rat)(a:Rat):(l.map toF).foldl Kp292.add (toF a)=toF (a+u6 l):=by
 induction l generalizing a with
 |nil=>rw[List.map_nil,List.foldl_nil,Ep,Rat.add_zero]
 |cons b l ih=>rw[List.map_cons,List.foldl_cons,add_eq,ih,jF,Rat.add_assoc]
theorem MY(l:List Rat):sumF (l.map toF)=toF (u6 l):=by
 unfold sumF;rw[zero_eq,foldl_add,Rat.zero_add]
theorem HM(k:Nat)(x:Rat):signed k (toF x)=toF (if k%2=0 then x else -x):=by
 unfold signed;by_cases h:k%2=0
 ·rw[if_pos h,if_pos h]
 rw[if_neg h,if_neg h,neg_eq]
theorem G8(x y:Rat):leq (toF x) (toF y)=decide (x<=y):=by
 unfold leq;exact decide_eq_decide.mpr (Rat.le_iff x y).symm
theorem RE{a:Int}{b:Nat}(hb:b≠0):(mkRat a b).num=a/(Int.gcd a b:Int):=by
 rw[Rat.num_mkRat,if_neg hb];unfold Int.gcd;rw[Int.natAbs_natCast,Nat.gcd_comm]
theorem RF{a:Int}{b:Nat}(hb:b≠0):(mkRat a b).den=b/Int.gcd a b:=by
 rw[Rat.den_mkRat,if_neg hb];unfold Int.gcd;rw[Int.natAbs_natCast,Nat.gcd_comm]
theorem WL{a:Int}{b:Nat}(hb:b≠0):(mkRat a b).den<=b:=by
 rw[RF hb];exact Nat.div_le_self _ _
theorem WM{a:Int}{b:Nat}(hb:b≠0):(mkRat a b).num.natAbs<=a.natAbs:=by
 have hd:((Int.gcd a b:Nat):Int)∣a:=Int.gcd_dvd_left ..;rw[RE hb,Int.natAbs_ediv_of_dvd hd,Int.natAbs_natCast];exact Nat.div_le_self _ _
theorem JJ{a b:Nat}:0<=(mkRat (a:Int) b).num:=by
 rw[Rat.num_mkRat];split
 ·exact Int.le_refl 0
 exact Int.ediv_nonneg (Int.natCast_nonneg _) (Int.natCast_nonneg _)
theorem UQ{a b:Nat}:((Zx (mkRat (a:Int) b)).1:Int)=(mkRat (a:Int) b).num:=Int.toNat_of_nonneg JJ
theorem Kw{a b:Nat}(hb:b≠0):((frac a b).1:Int)=(mkRat (a:Int) b).num:=by rw[MW a b hb];exact UQ
theorem Kx{a b:Nat}(hb:b≠0):(frac a b).2=(mkRat (a:Int) b).den:=by rw[MW a b hb];rfl
theorem ON(l:List Nat)(a:Nat):l.foldl (fun(a b:Nat)=>a+b) a=a+l.sum:=by
 induction l generalizing a with
 |nil=>simp
 |cons b l ih=>rw[List.foldl_cons,ih,List.sum_cons,Nat.add_assoc]
theorem bO(l:List Nat):Kp291.sum l=l.sum:=by
 unfold Kp291.sum;rw[ON,Nat.zero_add]
theorem gK(l:List Nat):products l 0=1:=by cases l <;> rfl
theorem uB(n:Nat):products [] (n+1)=0:=rfl
theorem gL(w:Nat)(l:List Nat)(n:Nat):products (w::l) (n+1)=w*products l n+products l (n+1):=rfl
theorem yc(l:List Nat)(w n:Nat):products (l++[w]) (n+1)=products l (n+1)+w*products l n:=by
 induction l generalizing n with
 |nil=>
  rw[List.nil_append,gL,uB];omega
 |cons v l ih=>
  rw[List.cons_append,gL,gL,ih];cases n with
  |zero=>rw[gK,gK,gK];omega
  |succ n=>
   rw[ih,gL,Nat.mul_add,Nat.mul_add];have e:v*(w*products l n)=w*(v*products l n):=by
    rw[<- Nat.mul_assoc,Nat.mul_comm v w,Nat.mul_assoc]
   omega
theorem pY(l:List Nat)(n:Nat)(h:l.length<n):products l n=0:=by
 induction l generalizing n with
 |nil=>
  cases n with
  |zero=>simp at h
  |succ n=>rfl
 |cons w l ih=>
  cases n with
  |zero=>simp at h
  |succ n=>
   rw[List.length_cons]at h;rw[gL,ih n (by omega),ih (n+1) (by omega),Nat.mul_zero]
noncomputable def table(l:List Nat):List Nat:=(List.range (l.length+1)).map (products l)
theorem jG(l:List Nat):(table l).length=l.length+1:=by unfold table;rw[List.length_map,List.length_range]
theorem rJ(l:List Nat)(i:Nat)(h:i<=l.length):(table l)[i]? =some (products l i):=by
 unfold table;rw[List.getElem?_map,List.getElem?_range (by omega)];rfl
theorem MZ(l:List Nat)(w:Nat):table (l++[w])=List.zipWith (fun a b=>a+b) (table l++[0]) (0::(table l).map fun p=>p*w):=by
 apply List.ext_getElem?;intro i;rw[List.getElem?_zipWith];by_cases hi:i<=l.length+1
 ·rw[rJ _ _ (by rw[List.length_append];exact hi)];cases i with
  |zero=>
   rw[List.getElem?_append_left (by rw[jG];omega),rJ _ _ (by omega)];simp[gK]
  |succ i=>
   rw[List.getElem?_cons_succ,List.getElem?_map,rJ _ _ (by omega)];by_cases h2:i+1<=l.length
   ·rw[List.getElem?_append_left (by rw[jG];omega),rJ _ _ h2];simp only[Option.map_some];rw[yc,Nat.mul_comm w]
   have e:i+1=l.length+1:=by omega
   rw[List.getElem?_append_right (by rw[jG];omega),jG,e,Nat.sub_self];simp only[Option.map_some,List.getElem?_cons_zero];rw[yc,pY l (l.length+1) (by omega)];have e2:i=l.length:=by omega
   rw[e2,Nat.mul_comm w]
 rw[List.getElem?_eq_none (by rw[jG,List.length_append];simp;omega)];rw[List.getElem?_eq_none (by rw[List.length_append,jG];simp;omega)]
theorem Ss(s w n:Nat):s ^ n+n*w*s ^ (n - 1)<=(w+s) ^ n:=by
 induction n with
 |zero=>simp
 |succ n ih=>
  rw[Nat.add_sub_cancel];have h1:(s ^ n+n*w*s ^ (n - 1))*(w+s)<=(w+s) ^ n*(w+s):=Nat.mul_le_mul_right _ ih;rw[<- Nat.pow_succ]at h1;refine Nat.le_trans ?_ h1;cases n with
  |zero=>simp;omega
  |succ n=>
   rw[Nat.add_sub_cancel];have e1:s ^ (n+1+1)=s ^ n*s*s:=by rw[Nat.pow_succ,Nat.pow_succ]
   have e2:s ^ (n+1)=s ^ n*s:=Nat.pow_succ ..;rw[e1,e2];generalize s ^ n=p;have e3:(p*s+(n+1)*w*p)*(w+s)=p*s*s+(n+1+1)*w*(p*s)+(n+1)*w*p*w:=by grind
   omega
theorem Bs(n:Nat):fact (n+1)=(n+1)*fact n:=rfl
theorem wU(l:List Nat)(n:Nat):differentUp l n<=l.sum ^ n:=by
 unfold differentUp
 induction l generalizing n with
 |nil=>
  cases n with
  |zero=>rw[gK];decide
  |succ n=>rw[uB];simp
 |cons w l ih=>
  cases n with
  |zero=>rw[gK,Nat.pow_zero];decide
  |succ n=>
   rw[gL,Nat.mul_add,List.sum_cons];have h1:=ih (n+1);have h2:=ih n;have h3:=Ss l.sum w (n+1);rw[Nat.add_sub_cancel]at h3;refine Nat.le_trans ?_ h3;have e:fact (n+1)*(w*products l n)=(n+1)*w*(fact n*products l n):=by
    rw[Bs];grind
   have h4:(n+1)*w*(fact n*products l n)<=(n+1)*w*l.sum ^ n:=Nat.mul_le_mul_left _ h2;omega
theorem WN(l:List Nat)(n:Nat):(n+1)*products l (n+1)<=l.sum*products l n:=by
 induction l generalizing n with
 |nil=>rw[uB];simp
 |cons w l ih=>
  rw[gL,List.sum_cons];cases n with
  |zero=>
   have h:=ih 0;rw[gK]at h ⊢;rw[gK];simp at h ⊢;omega
  |succ n=>
   rw[gL];have h1:=ih n;have h2:=ih (n+1);generalize products l n=a at*;generalize products l (n+1)=b at*;generalize products l (n+1+1)=c at*;have e1:(w+l.sum)*(w*a+b)=w*w*a+w*b+w*(l.sum*a)+l.sum*b:=by grind
   have h3:w*((n+1)*b)<=w*(l.sum*a):=Nat.mul_le_mul_left _ h1;have e2:(n+1+1)*(w*b+c)=w*b+w*((n+1)*b)+(n+1+1)*c:=by grind
   have h4:0<=w*w*a:=Nat.zero_le _;omega
theorem yd(l:List Nat)(n:Nat):differentUp l (n+1)<=l.sum*differentUp l n:=by
 unfold differentUp;rw[Bs];have h:=Nat.mul_le_mul_left (fact n) (WN l n);have e1:(n+1)*fact n*products l (n+1)=fact n*((n+1)*products l (n+1)):=by grind
 have e2:l.sum*(fact n*products l n)=fact n*(l.sum*products l n):=by grind
 omega
theorem rK(l:List Nat):differentUp l (l.length+1)=0:=by
 unfold differentUp;rw[pY l _ (Nat.lt_succ_self _),Nat.mul_zero]
theorem fj{s:Nat}(h:0<s)(n:Nat):s ^ n≠0:=Nat.ne_of_gt (Nat.pow_pos h)
noncomputable def fU(l:List Nat)(n:Nat):Rat:=mkRat (differentUp l n:Nat) (l.sum ^ n)
theorem Bt{a b s:Nat}(h:a<=b)(_hs:s≠0):mkRat ((b - a:Nat):Int) s=mkRat (b:Int) s - mkRat (a:Int) s:=by
 rw[Rat.mkRat_eq_div,Rat.mkRat_eq_div,Rat.mkRat_eq_div];have e:(((b - a:Nat):Int):Rat)=((b:Int):Rat) - ((a:Int):Rat):=by
  rw[<- Rat.intCast_sub]
  congr 1
  omega
 rw[e]
 grind
theorem mkRat_one{s:Nat}(hs:s≠0):mkRat (s:Int) s=1:=by
 have h:mkRat (s:Int) s=mkRat 1 1:=(Rat.mkRat_eq_iff hs (by decide)).mpr (by omega);rw[h];rfl
theorem Cz{a s t:Nat}(hs:s≠0):mkRat ((t*a:Nat):Int) (s*t)=if t=0 then 0 else mkRat (a:Int) s:=by
 by_cases ht:t=0
 ·subst ht;rw[if_pos rfl,Nat.mul_zero,Rat.mkRat_zero]
 rw[if_neg ht,Rat.mkRat_eq_iff (Nat.mul_ne_zero hs ht) hs];rw[Int.natCast_mul,Int.natCast_mul]
 grind
theorem Su{l:List Nat}(hl:0<l.sum)(n:Nat):mkRat ((l.sum ^ n - differentUp l n:Nat):Int) (l.sum ^ n)=1 - fU l n:=by
 rw[Bt (wU l n) (fj hl n),mkRat_one (fj hl n)];rfl
theorem Sv{l:List Nat}(hl:0<l.sum)(n:Nat):mkRat ((l.sum*differentUp l n - differentUp l (n+1):Nat):Int) (l.sum ^ (n+1))=fU l n - fU l (n+1):=by
 rw[Bt (yd l n) (fj hl _)];unfold fU;rw[Nat.pow_succ,Cz (fj hl n),if_neg (Nat.ne_of_gt hl)]
theorem tL{p:Nat->Bool}{m n:Nat}(hn:n<m)(hp:p n=true)(hlt:∀k,k<n->p k=false):(List.range m).find? p=some n:=by
 rw[List.find?_eq_some_iff_append];refine⟨hp,List.range n,List.range' (n+1) (m - n - 1),?_,?_⟩
 ·rw[List.range_eq_range',List.range_eq_range'];have e:n::List.range' (n+1) (m - n - 1)=List.range' n (m - n):=by
   have:m - n=(m - n - 1)+1:=by omega
   rw[this,List.range'_succ];simp
  rw[e];have h:=List.range'_append (s:=0) (m:=n) (n:=m - n) (step:=1);simp at h;rw[h]
  congr 1
  omega
 intro a ha;rw[List.mem_range]at ha;rw[hlt a ha];rfl
theorem Gd{l:List Nat}{n:Nat}(h:2*differentUp l n<=l.sum ^ n)(hlt:∀k,k<n->¬2*differentUp l k<=l.sum ^ k):Kp291.half l=n:=by
 unfold Kp291.half;have hn:n<l.length+2:=by
  refine Nat.lt_of_not_le fun q=>hlt (l.length+1) (by omega) ?_;rw[rK];simp
 rw[tL hn (by rw[bO];exact decide_eq_true h) (fun k hk=>by rw[bO];exact decide_eq_false (hlt k hk))];rfl
theorem horner(s:Nat)(f:Nat->Nat)(m:Nat):(List.range (m+1)).foldl (fun a n=>a*s+f n) 0=((List.range (m+1)).map fun n=>f n*s ^ (m - n)).sum:=by
 induction m with
 |zero=>simp
 |succ m ih=>
  rw[List.range_succ,List.foldl_append,ih,List.map_append,List.sum_append];simp only[List.foldl_cons,List.foldl_nil,List.map_cons,List.map_nil,List.sum_cons,List.sum_nil,Nat.sub_self,Nat.pow_zero,Nat.mul_one,Nat.add_zero]
  congr 1
  have:∀l:List Nat,(∀n∈l,n<=m)->(l.map fun n=>f n*s ^ (m - n)).sum*s=(l.map fun n=>f n*s ^ (m+1 - n)).sum:=by
   intro l hl
   induction l with
   |nil=>simp
   |cons a l WO=>
    rw[List.map_cons,List.map_cons,List.sum_cons,List.sum_cons,Nat.add_mul,WO fun n hn=>hl n (List.mem_cons_of_mem _ hn)]
    congr 1
    have ha:a<=m:=hl a List.mem_cons_self;have e:m+1 - a=(m - a)+1:=by omega
    rw[e,Nat.pow_succ,Nat.mul_assoc]
  exact this _ fun n hn=>by rw[List.mem_range]at hn;omega
theorem HN:∀k,k<7->∀n,n<11->products (List.replicate k 1) n=Kp291.choose k n:=by decide +kernel
noncomputable def C2(n:Nat):Nat:=n*(n - 1)/2
theorem tM(n:Nat):Kp291.choose n 2=C2 n:=by
 unfold Kp291.choose C2;simp[List.range_succ]
theorem ye(n:Nat):Kp291.choose n 1=n:=by
 unfold Kp291.choose;simp[List.range_succ]
theorem CA(n:Nat):2*C2 n=n*(n - 1):=by
 unfold C2;have h:(n*(n - 1))%2=0:=by
  cases n with
  |zero=>rfl
  |succ m=>
   rw[Nat.add_sub_cancel];rcases Nat.mod_two_eq_zero_or_one m with e|e
   ·rw[Nat.mul_mod,e,Nat.mul_zero]
   have e2:(m+1)%2=0:=by omega
   rw[Nat.mul_mod,e2,Nat.zero_mul]
 omega
theorem lK(n:Nat):C2 (n+1)=C2 n+n:=by
 have h1:=CA n;have h2:=CA (n+1);rw[Nat.add_sub_cancel]at h2;cases n with
 |zero=>rfl
 |succ n=>
  rw[Nat.add_sub_cancel]at h1;have e:(n+1+1)*(n+1)=(n+1)*n+2*(n+1):=by grind
  omega
noncomputable def T(l:List Nat)(n:Nat):Nat:=twosAtMost l n
noncomputable def jH(f:Nat->Nat)(w n:Nat):Nat:=f n+(if 1<=n then n*w*f (n - 1)else 0)+(if 2<=n then C2 n*(w*w)*f (n - 2)else 0)
theorem G9(w:Nat)(l:List Nat)(n:Nat):T (w::l) n=jH (T l) w n:=by
 unfold T jH;show twosAtMost l n+(if 1<=n then n*w*twosAtMost l (n - 1)else 0)+(if 2<=n then Kp291.choose n 2*(w*w)*twosAtMost l (n - 2)else 0)=_;rw[tM]
theorem M0(f:Nat->Nat)(v w n:Nat):jH (jH f v) w n=jH (jH f w) v n:=by
 unfold jH
 match n with
 |0=>simp
 |1=>simp;omega
 |2=>
  simp[show C2 2=1 from rfl]
  grind
 |3=>
  simp[show C2 2=1 from rfl,show C2 3=3 from rfl]
  grind
 |n+4=>
  have h1:C2 (n+4)=C2 n+n+(n+1)+(n+2)+(n+3):=by
   rw[lK,lK,lK,lK]
  have h2:C2 (n+3)=C2 n+n+(n+1)+(n+2):=by
   rw[lK,lK,lK]
  have h3:C2 (n+2)=C2 n+n+(n+1):=by
   rw[lK,lK]
  have h4:2*C2 n+n=n*n:=by
   have:=CA n;cases n with
   |zero=>simp[C2]
   |succ n=>rw[Nat.add_sub_cancel]at this;grind
  have i1:(1<=n+4)=True:=by simp
  have i2:(2<=n+4)=True:=by simp
  have i3:(1<=n+4 - 1)=True:=by simp
  have i4:(2<=n+4 - 1)=True:=by simp
  have i5:(1<=n+4 - 2)=True:=by simp
  have i6:(2<=n+4 - 2)=True:=by simp
  simp only[i1,i2,if_true,show n+4 - 1=n+3 from rfl,show n+4 - 2=n+2 from rfl,show n+3 - 1=n+2 from rfl,show n+3 - 2=n+1 from rfl,show n+2 - 1=n+1 from rfl,show n+2 - 2=n from rfl];rw[h1,h2,h3];generalize C2 n=c at*;generalize f (n+4)=f4;generalize f (n+3)=f3;generalize f (n+2)=f2;generalize f (n+1)=f1;generalize f n=f0
  grind
theorem WQ(l:List Nat)(w n:Nat):T (l++[w]) n=jH (T l) w n:=by
 induction l generalizing n with
 |nil=>rw[List.nil_append,G9]
 |cons v l ih=>
  rw[List.cons_append,G9];have e1:T (l++[w])=jH (T l) w:=funext ih;have e2:T (v::l)=jH (T l) v:=funext (G9 v l);rw[e1,e2,M0]
theorem Lh(n:Nat):T [] n=if n=0 then 1 else 0:=by
 cases n <;> rfl
theorem OO(s w n:Nat):jH (fun k=>s ^ k) w n<=(w+s) ^ n:=by
 induction n with
 |zero=>simp[jH]
 |succ n ih=>
  have h1:jH (fun k=>s ^ k) w n*(w+s)<=(w+s) ^ n*(w+s):=Nat.mul_le_mul_right _ ih;rw[<- Nat.pow_succ]at h1;refine Nat.le_trans ?_ h1;unfold jH
  match n with
  |0=>simp;omega
  |1=>simp[show C2 2=1 from rfl];grind
  |n+2=>
   have i1:(1<=n+2+1)=True:=by simp
   have i2:(2<=n+2+1)=True:=by simp
   have i3:(1<=n+2)=True:=by simp
   have i4:(2<=n+2)=True:=by simp
   simp only[i1,i2,i3,i4,if_true,show n+2+1 - 1=n+2 from rfl,show n+2+1 - 2=n+1 from rfl,show n+2 - 1=n+1 from rfl,show n+2 - 2=n from rfl];rw[lK (n+2)];have e1:s ^ (n+2+1)=s ^ n*s*s*s:=by rw[Nat.pow_succ,Nat.pow_succ,Nat.pow_succ]
   have e2:s ^ (n+2)=s ^ n*s*s:=by rw[Nat.pow_succ,Nat.pow_succ]
   have e3:s ^ (n+1)=s ^ n*s:=Nat.pow_succ ..;rw[e1,e2,e3];generalize s ^ n=p;generalize C2 (n+2)=c;have e:(p*s*s+(n+2)*w*(p*s)+c*(w*w)*p)*(w+s)=(p*s*s*s+(n+2+1)*w*(p*s*s)+(c+(n+2))*(w*w)*(p*s))+c*(w*w)*p*w:=by grind
   omega
theorem abq(l:List Nat)(n:Nat):T l n<=l.sum ^ n:=by
 induction l generalizing n with
 |nil=>
  rw[Lh];cases n with
  |zero=>simp
  |succ n=>simp
 |cons w l ih=>
  rw[G9,List.sum_cons];refine Nat.le_trans ?_ (OO l.sum w n);unfold jH;refine Nat.add_le_add (Nat.add_le_add (ih n) ?_) ?_
  ·by_cases h:1<=n
   ·rw[if_pos h,if_pos h];exact Nat.mul_le_mul_left _ (ih _)
   rw[if_neg h,if_neg h];exact Nat.le_refl _
  by_cases h:2<=n
  ·rw[if_pos h,if_pos h];exact Nat.mul_le_mul_left _ (ih _)
  rw[if_neg h,if_neg h];exact Nat.le_refl _
noncomputable def bitsOf(n:Nat)(p:Nat->Bool):Nat:=(((List.range n).filter p).map fun i=>2 ^ i).sum
theorem CB(n:Nat)(p:Nat->Bool):bitsOf (n+1) p=bitsOf n p+if p n then 2 ^ n else 0:=by
 unfold bitsOf;rw[List.range_succ,List.filter_append,List.map_append,List.sum_append];by_cases h:p n=true
 ·simp[List.filter_cons,h]
 simp[List.filter_cons,h]
theorem OP(n:Nat)(p:Nat->Bool):bitsOf n p<2 ^ n:=by
 induction n with
 |zero=>simp[bitsOf]
 |succ n ih=>
  rw[CB,Nat.pow_succ];split <;> omega
theorem qY(n:Nat)(p:Nat->Bool)(i:Nat):Nat.testBit (bitsOf n p) i=(decide (i<n)&&p i):=by
 induction n with
 |zero=>simp[bitsOf]
 |succ n ih=>
  rw[CB];have hlt:=OP n p;by_cases hp:p n=true
  ·rw[if_pos hp,Nat.add_comm];rcases Nat.lt_trichotomy i n with h|h|h
   ·rw[Nat.testBit_two_pow_add_gt h,ih,decide_eq_true h,decide_eq_true (show i<n+1 by omega)]
   ·subst h;rw[Nat.testBit_two_pow_add_eq,Nat.testBit_lt_two_pow hlt,decide_eq_true (Nat.lt_succ_self _),hp];rfl
   have h2:2 ^ n+bitsOf n p<2 ^ i:=by
    have h3:2 ^ (n+1)<=2 ^ i:=Nat.pow_le_pow_right (by decide) h;rw[Nat.pow_succ]at h3;omega
   rw[Nat.testBit_lt_two_pow h2,decide_eq_false (show ¬i<n+1 by omega)];rfl
  rw[if_neg hp,Nat.add_zero,ih];by_cases h:i=n
  ·subst h;simp[hp]
  have:(i<n)=(i<n+1):=by
   apply propext;constructor
   ·intro z;omega
   intro z;omega
  simp only[this]
theorem j3(l:List Nat)(hv i:Nat):Nat.testBit (lacking l hv) i=(decide (i<l.length)&& !Nat.testBit hv i):=by
 have e:lacking l hv=bitsOf l.length (fun i=>!Nat.testBit hv i):=by
  unfold lacking bitsOf;rw[bO]
 rw[e,qY]
theorem getD_snoc(l:List Nat)(x i:Nat)(h:i<l.length):(l++[x]).getD i 0=l.getD i 0:=by
 rw[List.getD_eq_getElem?_getD,List.getD_eq_getElem?_getD,List.getElem?_append_left h]
theorem getD_last(l:List Nat)(x:Nat):(l++[x]).getD l.length 0=x:=by
 rw[List.getD_eq_getElem?_getD,List.getElem?_append_right (Nat.le_refl _),Nat.sub_self];rfl
theorem wm(l:List Nat)(m:Nat):weight l m=((List.range l.length).map fun i=>if Nat.testBit m i then l.getD i 0 else 0).sum:=by
 unfold weight;rw[bO]
theorem CC(l:List Nat)(x m m':Nat)(h:∀i,i<l.length->Nat.testBit m' i=Nat.testBit m i):weight (l++[x]) m'=weight l m+if Nat.testBit m' l.length then x else 0:=by
 rw[wm,wm,List.length_append,List.length_singleton,List.range_succ,List.map_append,List.sum_append]
 congr 1
 ·congr 1
  apply List.map_congr_left;intro i hi;rw[List.mem_range]at hi;rw[h i hi,getD_snoc l x i hi]
 simp[getD_last]
theorem HP(l:List Nat)(x m m':Nat)(h:∀i,i<l.length->Nat.testBit m' i=Nat.testBit m i):size (l++[x]) m'=size l m+if Nat.testBit m' l.length then 1 else 0:=by
 unfold size;rw[List.length_append,List.length_singleton,List.range_succ,List.filter_append,List.length_append]
 congr 1
 ·congr 1
  apply List.filter_congr;intro i hi;rw[List.mem_range]at hi;exact h i hi
 by_cases q:Nat.testBit m' l.length=true
 ·simp[List.filter_cons,q]
 simp[List.filter_cons,q]
theorem wo(l:List Nat)(x m m' hv:Nat)(h:∀i,i<l.length->Nat.testBit m' i=Nat.testBit m i):
  within (l++[x]) m' (lacking (l++[x]) hv)=(within l m (lacking l hv)&&(!Nat.testBit m' l.length|| !Nat.testBit hv l.length)):=by
 unfold within;rw[List.length_append,List.length_singleton,List.range_succ,List.all_append]
 congr 1
 ·rw[Bool.eq_iff_iff,List.all_eq_true,List.all_eq_true];constructor
  ·intro z i hi;have z:=z i hi;rw[List.mem_range]at hi;rw[j3,List.length_append,List.length_singleton,decide_eq_true (show i<l.length+1 by omega),h i hi]at z;rw[j3,decide_eq_true hi];exact z
  intro z i hi;have z:=z i hi;rw[List.mem_range]at hi;rw[j3,decide_eq_true hi]at z;rw[j3,List.length_append,List.length_singleton,decide_eq_true (show i<l.length+1 by omega),h i hi];exact z
 simp[j3]
noncomputable def gD(l:List Nat)(hv:Nat)(h:Nat->Nat->Rat):Rat:=
 u6 (((sets l).filter fun m=>within l m (lacking l hv)).map fun m=>h (size l m) (weight l m))
theorem OQ(l:List Nat)(x:Nat):sets (l++[x])=sets l++(sets l).map (fun m=>2 ^ l.length+m):=by
 unfold sets;rw[List.length_append,List.length_singleton,Nat.pow_succ,Nat.mul_two,List.range_add]
theorem JK(hv:Nat)(h:Nat->Nat->Rat):gD [] hv h=h 0 0:=by
 unfold gD sets within size weight;simp[u6];exact Rat.add_zero _
theorem HQ(l:List Nat)(x hv:Nat)(h:Nat->Nat->Rat):
  gD (l++[x]) hv h=gD l hv h+if Nat.testBit hv l.length then 0 else gD l hv (fun k w=>h (k+1) (w+x)):=by
 unfold gD;rw[OQ,List.filter_append,List.map_append,Lg]
 congr 1
 ·congr 1
  have key:∀m∈sets l,Nat.testBit m l.length=false:=by
   intro m hm;unfold sets at hm;rw[List.mem_range]at hm;exact Nat.testBit_lt_two_pow hm
  have e1:(sets l).filter (fun m=>within (l++[x]) m (lacking (l++[x]) hv))=(sets l).filter (fun m=>within l m (lacking l hv)):=by
   apply List.filter_congr;intro m hm;rw[wo l x m m hv (fun _ _=>rfl),key m hm];simp
  rw[e1];apply List.map_congr_left;intro m hm;have hm':=(List.mem_filter.mp hm).1;rw[HP l x m m (fun _ _=>rfl),CC l x m m (fun _ _=>rfl),key m hm'];simp
 rw[List.filter_map,List.map_map];have bits:∀m∈sets l,(∀i,i<l.length->Nat.testBit (2 ^ l.length+m) i=Nat.testBit m i)/\Nat.testBit (2 ^ l.length+m) l.length=true:=by
  intro m hm;unfold sets at hm;rw[List.mem_range]at hm;refine⟨fun i hi=>Nat.testBit_two_pow_add_gt hi m,?_⟩;rw[Nat.testBit_two_pow_add_eq,Nat.testBit_lt_two_pow hm];rfl
 by_cases hb:Nat.testBit hv l.length=true
 ·rw[if_pos hb];have e:(sets l).filter ((fun m=>within (l++[x]) m (lacking (l++[x]) hv))∘fun m=>2 ^ l.length+m)=[]:=by
   rw[List.filter_eq_nil_iff];intro m hm;obtain⟨b1,b2⟩:=bits m hm;simp only[Function.comp];rw[wo l x m _ hv b1,b2,hb];simp
  rw[e];rfl
 rw[if_neg hb]
 congr 1
 have e:(sets l).filter ((fun m=>within (l++[x]) m (lacking (l++[x]) hv))∘fun m=>2 ^ l.length+m)=(sets l).filter (fun m=>within l m (lacking l hv)):=by
  apply List.filter_congr;intro m hm;obtain⟨b1,b2⟩:=bits m hm;simp only[Function.comp];rw[wo l x m _ hv b1,b2];simp[hb]
 rw[e];apply List.map_congr_left;intro m hm;obtain⟨b1,b2⟩:=bits m (List.mem_filter.mp hm).1;simp only[Function.comp];rw[HP l x m _ b1,CC l x m _ b1,b2];simp
noncomputable def il(l:List Nat)(hv:Nat):List Nat:=((List.range l.length).filter fun i=>!Nat.testBit hv i).map fun i=>l.getD i 0
theorem OR(hv:Nat):il [] hv=[]:=rfl
theorem FD(l:List Nat)(x hv:Nat):il (l++[x]) hv=il l hv++if Nat.testBit hv l.length then[]else[x]:=by
 unfold il;rw[List.length_append,List.length_singleton,List.range_succ,List.filter_append,List.map_append]
 congr 1
 ·apply List.map_congr_left;intro i hi;have hi:=List.mem_range.mp (List.mem_filter.mp hi).1;exact getD_snoc l x i hi
 by_cases h:Nat.testBit hv l.length=true
 ·rw[if_pos h];simp[List.filter_cons,h]
 rw[if_neg h];simp[List.filter_cons,h,getD_last]
noncomputable def sstep(s:List Int)(w:Nat):List Int:=List.zipWith (fun a b=>a - b) (s++List.replicate w 0) (List.replicate w 0++s)
noncomputable def aS(ws:List Nat):List Int:=ws.foldl sstep [1]
theorem OS(s:List Int)(w:Nat):(sstep s w).length=s.length+w:=by
 unfold sstep;rw[List.length_zipWith,List.length_append,List.length_append,List.length_replicate];omega
theorem fH(ws:List Nat)(w:Nat):aS (ws++[w])=sstep (aS ws) w:=by
 unfold aS;rw[List.foldl_append];rfl
theorem snoc_ind{α:Type}{P:List α->Prop}(h0:P [])(h1:∀l x,P l->P (l++[x])):∀l,P l:=by
 intro l;have:∀n (l:List α),l.length=n->P l:=by
  intro n
  induction n with
  |zero=>
   intro l hl;rw[List.length_eq_zero_iff.mp hl];exact h0
  |succ n ih=>
   intro l hl;have om:l≠[]:=by
    intro e;rw[e]at hl;simp at hl
   rw[<- List.dropLast_concat_getLast om];exact h1 _ _ (ih _ (by rw[List.length_dropLast,hl];rfl))
 exact this _ l rfl
theorem lX(ws:List Nat):(aS ws).length=ws.sum+1:=by
 refine snoc_ind (P:=fun ws=>(aS ws).length=ws.sum+1) rfl (fun l x ih=>?_) ws;rw[fH,OS,ih,List.sum_append];simp;omega
noncomputable def cP(g:Nat->Rat):Nat->List Int->Rat
 |_,[]=>0
 |k,a::s=>(a:Rat)*g k+cP g (k+1) s
theorem uC(g:Nat->Rat)(k:Nat)(s t:List Int):cP g k (s++t)=cP g k s+cP g (k+s.length) t:=by
 induction s generalizing k with
 |nil=>rw[List.nil_append,cP,Rat.zero_add];rfl
 |cons a s ih=>
  rw[List.cons_append,cP,cP,ih,Rat.add_assoc,List.length_cons]
  congr 2
  rw[Nat.add_right_comm,Nat.add_assoc]
theorem FE(g:Nat->Rat)(k n:Nat):cP g k (List.replicate n 0)=0:=by
 induction n generalizing k with
 |zero=>rfl
 |succ n ih=>
  rw[List.replicate_succ,cP,ih];simp;exact Rat.add_zero 0
theorem Li(g:Nat->Rat)(k x:Nat)(s:List Int):cP g (k+x) s=cP (fun i=>g (i+x)) k s:=by
 induction s generalizing k with
 |nil=>rfl
 |cons a s ih=>
  rw[cP,cP,<- ih (k+1)]
  congr 2
  omega
theorem OT(g:Nat->Rat)(k:Nat)(s t:List Int)(h:s.length=t.length):cP g k (List.zipWith (fun a b=>a - b) s t)=cP g k s - cP g k t:=by
 induction s generalizing k t with
 |nil=>
  cases t with
  |nil=>rw[List.zipWith_nil_left,cP,Rat.sub_self]
  |cons b t=>simp at h
 |cons a s ih=>
  cases t with
  |nil=>simp at h
  |cons b t=>
   rw[List.zipWith_cons_cons,cP,cP,cP,ih (k+1) t (by simpa using h),Rat.intCast_sub]
   grind
theorem kW(g:Nat->Rat)(s:List Int)(x:Nat):cP g 0 (sstep s x)=cP g 0 s - cP (fun i=>g (i+x)) 0 s:=by
 unfold sstep;rw[OT g 0 _ _ (by simp[Nat.add_comm]),uC,uC,FE,FE,List.length_replicate,Rat.add_zero,Rat.zero_add,Li]
noncomputable def sgn(k:Nat):Rat:=if k%2=0 then 1 else -1
theorem Ky(k:Nat):sgn (k+1)= - sgn k:=by
 unfold sgn;by_cases h:k%2=0
 ·rw[if_pos h,if_neg (by omega)]
 rw[if_neg h,if_pos (by omega)];rfl
theorem AR(l:List Nat)(hv:Nat)(h:Nat->Nat->Rat):gD l hv (fun k w=> - h k w)= - gD l hv h:=by
 unfold gD;generalize (sets l).filter (fun m=>within l m (lacking l hv))=L
 induction L with
 |nil=>rfl
 |cons a L ih=>rw[List.map_cons,List.map_cons,jF,jF,ih,Rat.neg_add]
theorem Lj(l:List Nat)(hv:Nat)(g:Nat->Rat):gD l hv (fun k w=>sgn k*g w)=cP g 0 (aS (il l hv)):=by
 refine snoc_ind (P:=fun l=>∀g:Nat->Rat,gD l hv (fun k w=>sgn k*g w)=cP g 0 (aS (il l hv))) (fun g=>?_) (fun l x ih g=>?_) l g
 ·rw[JK,OR];simp[aS,cP,sgn];exact(Rat.add_zero _).symm
 rw[HQ,ih g,FD];by_cases hb:Nat.testBit hv l.length=true
 ·rw[if_pos hb,if_pos hb,List.append_nil,Rat.add_zero]
 rw[if_neg hb,if_neg hb,fH,kW,<- ih (fun i=>g (i+x))];have e:(fun k w=>sgn (k+1)*g (w+x))=fun k w=> - (sgn k*g (w+x)):=by
  funext k w;rw[Ky,Rat.neg_mul]
 rw[e,AR l hv (fun k w=>sgn k*g (w+x)),<- Rat.sub_eq_add_neg]
theorem CD{α:Type}(L:List α)(p q:α->Bool)(f:α->Rat)(h:∀m∈L,q m=true->p m=false->f m=0):
  u6 ((L.filter fun m=>p m&&q m).map f)=u6 ((L.filter q).map f):=by
 induction L with
 |nil=>rfl
 |cons a L ih=>
  have ih:=ih fun m hm=>h m (List.mem_cons_of_mem _ hm);by_cases hq:q a=true
  ·by_cases hp:p a=true
   ·rw[List.filter_cons_of_pos (by rw[hp,hq];rfl),List.filter_cons_of_pos hq,List.map_cons,List.map_cons,jF,jF,ih]
   have hp:p a=false:=by simpa using hp
   rw[List.filter_cons_of_neg (by rw[hp];simp),List.filter_cons_of_pos hq,List.map_cons,jF,ih,h a List.mem_cons_self hq hp,Rat.zero_add]
  rw[List.filter_cons_of_neg (by simp[hq]),List.filter_cons_of_neg hq,ih]
def CF(l:List Nat):Prop:=∀w∈l,0<w
theorem CF.getD{l:List Nat}(h:CF l){i:Nat}(hi:i<l.length):0<l.getD i 0:=by
 rw[List.getD_eq_getElem?_getD,List.getElem?_eq_getElem hi];exact h _ (List.getElem_mem hi)
theorem M1{α:Type}(L:List α)(f:α->Nat)(a:α)(ha:a∈L)(h:0<f a):0<(L.map f).sum:=by
 induction L with
 |nil=>simp at ha
 |cons b L ih=>
  rw[List.map_cons,List.sum_cons];rcases List.mem_cons.mp ha with e|e
  ·subst e;omega
  have:=ih e;omega
theorem M3{l:List Nat}(hl:CF l){m:Nat}(hm:m∈sets l)(h0:m≠0):weight l m≠0:=by
 unfold sets at hm;rw[List.mem_range]at hm;obtain⟨i,hi⟩:=Nat.exists_testBit_of_ne_zero h0;have WH:i<l.length:=by
  refine Nat.lt_of_not_le fun q=>?_;have:m<2 ^ i:=Nat.lt_of_lt_of_le hm (Nat.pow_le_pow_right (by decide) q);rw[Nat.testBit_lt_two_pow this]at hi;cases hi
 rw[wm];refine Nat.ne_of_gt (M1 _ _ i (List.mem_range.mpr WH) ?_);show 0<if Nat.testBit m i=true then l.getD i 0 else 0;rw[if_pos hi];exact hl.getD WH
theorem Ll(l:List Nat):weight l 0=0:=by
 rw[wm];generalize List.range l.length=L
 induction L with
 |nil=>rfl
 |cons a L ih=>
  rw[List.map_cons,List.sum_cons,ih];simp
def gw(total:Nat)(tN:List Nat):Rat:= - cP (fun w=>mkRat (total:Int) w) 0 (aS tN)
theorem HR{l:List Nat}(hl:CF l)(hv:Nat):Kp292.mean l hv=toF (gw l.sum (il l hv)):=by
 unfold Kp292.mean gw;have e1:((sets l).filter fun m=>m != 0&&within l m (lacking l hv)).map (fun m=>signed (size l m+1) (over (Kp291.sum l) (weight l m)))
   =(((sets l).filter fun m=>m != 0&&within l m (lacking l hv)).map (fun m=>sgn (size l m+1)*mkRat (l.sum:Int) (weight l m))).map toF:=by
  rw[List.map_map];apply List.map_congr_left;intro m hm;obtain⟨h1,h2⟩:=List.mem_filter.mp hm;have h0:m≠0:=by
   intro e;subst e;simp at h2
  simp only[Function.comp];rw[bO,MX _ _ (M3 hl h1 h0),HM]
  congr 1
  unfold sgn;split
  ·rw[Rat.one_mul]
  rw[Rat.neg_mul,Rat.one_mul]
 rw[e1,MY]
 congr 1
 rw[CD (sets l) (fun m=>m != 0) (fun m=>within l m (lacking l hv)) (fun m=>sgn (size l m+1)*mkRat (l.sum:Int) (weight l m)) (fun m _ _ hp=>by
  have e:m=0:=by simpa using hp
  subst e;rw[Ll,Rat.mkRat_zero,Rat.mul_zero])]
 rw[<- Lj l hv,<- AR];unfold gD
 congr 1
 apply List.map_congr_left;intro m _;rw[Ky,Rat.neg_mul]
def pk(total:Nat)(tN:List Nat)(n:Nat):Rat:=cP (fun w=>mkRat (((total - w) ^ n:Nat):Int) (total ^ n)) 0 (aS tN)
theorem Sw{l:List Nat}(hs:0<l.sum)(hv n:Nat):allBy l hv n=toF (pk l.sum (il l hv) n):=by
 unfold allBy pk;rw[<- Lj l hv];have e1:((sets l).filter fun m=>within l m (lacking l hv)).map (fun m=>signed (size l m) (over ((Kp291.sum l - weight l m) ^ n) (Kp291.sum l ^ n)))
   =(((sets l).filter fun m=>within l m (lacking l hv)).map (fun m=>sgn (size l m)*mkRat (((l.sum - weight l m) ^ n:Nat):Int) (l.sum ^ n))).map toF:=by
  rw[List.map_map];apply List.map_congr_left;intro m hm;simp only[Function.comp];rw[bO,MX _ _ (fj hs n),HM]
  congr 1
  unfold sgn;split
  ·rw[Rat.one_mul]
  rw[Rat.neg_mul,Rat.one_mul]
 rw[e1,MY];rfl
def j6(g:Nat->Int):Nat->List Int->Int
 |_,[]=>0
 |k,a::s=>a*g k+j6 g (k+1) s
theorem yf(g:Nat->Int)(k:Nat)(s:List Int):((j6 g k s:Int):Rat)=cP (fun i=>((g i:Int):Rat)) k s:=by
 induction s generalizing k with
 |nil=>rfl
 |cons a s ih=>rw[j6,cP,Rat.intCast_add,Rat.intCast_mul,ih]
theorem Lm(g:Nat->Rat)(c:Rat)(k:Nat)(s:List Int):cP (fun i=>g i*c) k s=cP g k s*c:=by
 induction s generalizing k with
 |nil=>rw[cP,cP,Rat.zero_mul]
 |cons a s ih=>rw[cP,cP,ih,Rat.add_mul,Rat.mul_assoc]
def j7(total:Nat)(tN:List Nat)(n:Nat):Int:=j6 (fun w=>(((total - w) ^ n:Nat):Int)) 0 (aS tN)
theorem HS{total:Nat}(ht:0<total)(tN:List Nat)(n:Nat):pk total tN n=mkRat (j7 total tN n) (total ^ n):=by
 unfold pk j7;rw[Rat.mkRat_eq_div,yf,Rat.div_def,<- Lm]
 congr 1
 funext w;rw[Rat.mkRat_eq_div,Rat.div_def]
theorem FF(l:List Nat)(hv n:Nat):heavyUp l hv n=j7 l.sum (il l hv) n:=by
 have h1:((j7 l.sum (il l hv) n:Int):Rat)=gD l hv (fun k w=>sgn k*((((l.sum - w) ^ n:Nat):Int):Rat)):=by
  unfold j7;rw[yf,Lj l hv (fun w=>((((l.sum - w) ^ n:Nat):Int):Rat))]
 have h2:((heavyUp l hv n:Int):Rat)=gD l hv (fun k w=>sgn k*((((l.sum - w) ^ n:Nat):Int):Rat)):=by
  unfold heavyUp gD;rw[bO];generalize (sets l).filter (fun m=>within l m (lacking l hv))=L;have:∀(L:List Nat) (a:Int),((L.foldl (fun(a:Int) (m:Nat)=>let v:=(((l.sum - weight l m) ^ n:Nat):Int);if size l m%2=0 then a+v else a - v) a:Int):Rat)
    =(a:Rat)+u6 (L.map fun m=>sgn (size l m)*((((l.sum - weight l m) ^ n:Nat):Int):Rat)):=by
   intro L
   induction L with
   |nil=>intro a;rw[List.foldl_nil,List.map_nil,Ep,Rat.add_zero]
   |cons m L ih=>
    intro a;rw[List.foldl_cons,ih,List.map_cons,jF,<- Rat.add_assoc]
    congr 1
    unfold sgn;by_cases hm:size l m%2=0
    ·simp only[if_pos hm];rw[Rat.intCast_add,Rat.one_mul]
    simp only[if_neg hm];rw[Rat.intCast_sub,Rat.neg_mul,Rat.one_mul,Rat.sub_eq_add_neg]
  rw[this L 0];exact Rat.zero_add _
 exact Rat.intCast_inj.mp (h2.trans h1.symm)
def plain(n:Nat):Nat->List Nat->Nat
 |t,[]=>t ^ n
 |t,x::xs=>plain n t xs+plain n (t - x) xs
def turns(n:Nat):Nat->List Nat->Int
 |t,[]=>((t ^ n:Nat):Int)
 |t,x::xs=>turns n t xs - turns n (t - x) xs
theorem OU(n t:Nat)(xs:List Nat): - (plain n t xs:Int)<=turns n t xs/\turns n t xs<=(plain n t xs:Int):=by
 induction xs generalizing t with
 |nil=>
  unfold plain turns;omega
 |cons x xs ih=>
  unfold plain turns;have h1:=ih t;have h2:=ih (t - x);omega
theorem Sx(n t:Nat)(xs:List Nat):2*((t ^ n:Nat):Int) - (plain n t xs:Int)<=turns n t xs:=by
 induction xs generalizing t with
 |nil=>
  unfold plain turns;omega
 |cons x xs ih=>
  unfold plain turns;have h1:=ih t;have h2:=OU n (t - x) xs;omega
theorem M4{a b c d n:Nat}(h:a*b<=c*d):a ^ n*b ^ n<=c ^ n*d ^ n:=by
 rw[<- Nat.mul_pow,<- Nat.mul_pow];exact Nat.pow_le_pow_left h n
theorem Sy(t S:Nat)(xs:List Nat)(hS:∀x∈xs,S<=101*x)(ht:t<=S):19 ^ xs.length*plain 300 t xs<=20 ^ xs.length*t ^ 300:=by
 induction xs generalizing t with
 |nil=>
  unfold plain;simp
 |cons x xs ih=>
  have hx:=hS x List.mem_cons_self;have h1:=ih t (fun y hy=>hS y (List.mem_cons_of_mem _ hy)) ht;have h2:=ih (t - x) (fun y hy=>hS y (List.mem_cons_of_mem _ hy)) (by omega);unfold plain;rw[List.length_cons,Nat.pow_succ,Nat.pow_succ];have h3:19*(t - x) ^ 300<=t ^ 300:=by
   have e1:101 ^ 300*(t - x) ^ 300<=100 ^ 300*t ^ 300:=M4 (by omega);have e2:19*100 ^ 300<=101 ^ 300:=by decide +kernel
   have e3:19*100 ^ 300*(t - x) ^ 300<=101 ^ 300*(t - x) ^ 300:=Nat.mul_le_mul_right _ e2;have e4:100 ^ 300*(19*(t - x) ^ 300)<=100 ^ 300*t ^ 300:=by
    refine Nat.le_trans (Nat.le_of_eq ?_) (Nat.le_trans e3 e1);generalize (100:Nat) ^ 300=p;generalize (t - x) ^ 300=q
    grind
   exact Nat.le_of_mul_le_mul_left e4 (Nat.pow_pos (by decide))
  generalize plain 300 t xs=A at*;generalize plain 300 (t - x) xs=B at*;generalize t ^ 300=p at*;generalize (t - x) ^ 300=q at*;generalize 19 ^ xs.length=u at*;generalize 20 ^ xs.length=v at*;have h4:19*(v*q)<=v*p:=by
   have:=Nat.mul_le_mul_left v h3;have e:v*(19*q)=19*(v*q):=by grind
   omega
  have e1:u*19*(A+B)=19*(u*A)+19*(u*B):=by grind
  have e2:v*20*p=19*(v*p)+v*p:=by grind
  rw[e1,e2];omega
theorem M5{S:Nat}{xs:List Nat}(hS:∀x∈xs,S<=101*x)(hl:xs.length<=6):((S ^ 300:Nat):Int)<=2*turns 300 S xs:=by
 have h1:=Sx 300 S xs;have h2:=Sy S S xs hS (Nat.le_refl _);have h3:2*plain 300 S xs<=3*S ^ 300:=by
  generalize plain 300 S xs=A at*;generalize S ^ 300=p at*;have h4:2*20 ^ xs.length<=3*19 ^ xs.length:=by
   match xs,hl with
   |[],_=>simp
   |[_],_=>simp
   |[_,_],_=>simp
   |[_,_,_],_=>simp
   |[_,_,_,_],_=>simp
   |[_,_,_,_,_],_=>simp
   |[_,_,_,_,_,_],_=>simp
  have h5:0<19 ^ xs.length:=Nat.pow_pos (by decide);generalize 19 ^ xs.length=u at*;generalize 20 ^ xs.length=v at*;have h6:u*(2*A)<=u*(3*p):=by
   have e1:u*(2*A)=2*(u*A):=by grind
   have e2:2*(v*p)=(2*v)*p:=by grind
   have e3:u*(3*p)=(3*u)*p:=by grind
   have h7:=Nat.mul_le_mul_right p h4;omega
  exact Nat.le_of_mul_le_mul_left h6 h5
 omega
theorem JL(g:Nat->Int)(k:Nat)(s t:List Int):j6 g k (s++t)=j6 g k s+j6 g (k+s.length) t:=by
 induction s generalizing k with
 |nil=>rw[List.nil_append,j6];simp
 |cons a s ih=>
  rw[List.cons_append,j6,j6,ih,Int.add_assoc,List.length_cons]
  congr 2
  rw[Nat.add_right_comm,Nat.add_assoc]
theorem CG(n S:Nat)(xs:List Nat)(hS:xs.sum<=S):j7 S xs n=turns n S xs:=by
 have key:∀(xs:List Nat) (g:Nat->Rat),cP g 0 (aS xs)=(xs.reverse.foldr (fun x (f:(Nat->Rat)->Rat) g=>f g - f (fun i=>g (i+x))) (fun g=>g 0)) g:=by
  intro xs;refine snoc_ind (P:=fun xs=>∀g:Nat->Rat,cP g 0 (aS xs)=(xs.reverse.foldr (fun x (f:(Nat->Rat)->Rat) g=>f g - f (fun i=>g (i+x))) (fun g=>g 0)) g) (fun g=>?_) (fun l x ih g=>?_) xs
  ·simp[aS,cP];exact Rat.add_zero _
  rw[fH,kW,ih,ih,List.reverse_append];rfl
 have front:∀(xs:List Nat) (S:Nat) (k:Nat),xs.sum+k<=S->((turns n (S - k) xs:Int):Rat)=cP (fun w=>((((S - k - w) ^ n:Nat):Int):Rat)) 0 (aS xs):=by
  intro xs
  induction xs with
  |nil=>
   intro S k _;simp[aS,cP,turns];rw[Rat.add_zero]
  |cons x xs ih=>
   intro S k h;rw[List.sum_cons]at h;have e1:=ih S k (by omega);have e2:=ih S (k+x) (by omega);have cons:∀(xs:List Nat) (g:Nat->Rat),cP g 0 (aS (x::xs))=cP g 0 (aS xs) - cP (fun i=>g (i+x)) 0 (aS xs):=by
    intro xs;refine snoc_ind (P:=fun xs=>∀g:Nat->Rat,cP g 0 (aS (x::xs))=cP g 0 (aS xs) - cP (fun i=>g (i+x)) 0 (aS xs)) (fun g=>?_) (fun l y WO g=>?_) xs
    ·have e:aS [x]=sstep (aS []) x:=fH [] x;rw[e,kW]
    have e:aS (x::(l++[y]))=sstep (aS (x::l)) y:=fH (x::l) y;rw[e,kW,WO,WO,fH,kW,kW];have c:(fun i=>g (i+x+y))=fun i=>g (i+y+x):=by
     funext i
     congr 1
     omega
    rw[c]
    grind
   rw[cons];unfold turns;rw[Rat.intCast_sub,e1]
   congr 1
   have e3:S - k - x=S - (k+x):=by omega
   rw[e3,e2]
   congr 1
   funext w;have e4:S - (k+x) - w=S - k - (w+x):=by omega
   rw[e4]
 have h:=front xs S 0 (by omega);rw[Nat.sub_zero]at h;unfold j7;apply Rat.intCast_inj.mp;rw[yf,h]
theorem JM(l:List Nat)(hv:Nat):(il l hv).sum<=l.sum:=by
 refine snoc_ind (P:=fun l=>(il l hv).sum<=l.sum) (Nat.le_refl _) (fun l x ih=>?_) l;rw[FD,List.sum_append,List.sum_append];split
 ·simp;omega
 simp;omega
theorem OV{l:List Nat}{hv w:Nat}(h:w∈il l hv):w∈l:=by
 unfold il at h;obtain⟨i,hi,e⟩:=List.mem_map.mp h;have hi:=List.mem_range.mp (List.mem_filter.mp hi).1;rw[<- e,List.getD_eq_getElem?_getD,List.getElem?_eq_getElem hi];exact List.getElem_mem hi
theorem OW(l:List Nat)(hv:Nat):(il l hv).length<=l.length:=by
 unfold il;rw[List.length_map];refine Nat.le_trans (List.length_filter_le _ _) ?_;rw[List.length_range];exact Nat.le_refl _
structure e8(l:List Nat):Prop where
 jr:l.length<=6
 pos:∀w∈l,1<=w
 top:∀w∈l,w<=20
theorem e8.CF{l:List Nat}(h:e8 l):CF l:=fun w hw=>h.pos w hw
theorem Bu(l:List Nat)(c:Nat)(h:∀w∈l,w<=c):l.sum<=c*l.length:=by
 induction l with
 |nil=>simp
 |cons a l ih=>
  rw[List.sum_cons,List.length_cons,Nat.mul_succ];have h1:=ih fun w hw=>h w (List.mem_cons_of_mem _ hw);have h2:=h a List.mem_cons_self;omega
theorem e8.kd{l:List Nat}(h:e8 l):l.sum<=120:=by
 have:=Bu l 20 h.top;have:=h.jr;omega
theorem e8.dG{l:List Nat}(h:e8 l)(h0:l.length≠0):0<l.sum:=by
 cases l with
 |nil=>simp at h0
 |cons a l=>
  have:=h.pos a List.mem_cons_self;rw[List.sum_cons];omega
theorem wq{l:List Nat}{w:Nat}(h:w∈l):∃r:List Nat,l.sum=w+r.sum/\r.length+1=l.length/\∀x∈r,x∈l:=by
 induction l with
 |nil=>simp at h
 |cons a l ih=>
  rcases List.mem_cons.mp h with e|e
  ·subst e;exact⟨l,List.sum_cons,rfl,fun x hx=>List.mem_cons_of_mem _ hx⟩
  obtain⟨r,h1,h2,h3⟩:=ih e;refine⟨a::r,?_,?_,fun x hx=>?_⟩
  ·rw[List.sum_cons,List.sum_cons,h1];omega
  ·rw[List.length_cons,List.length_cons,h2]
  rcases List.mem_cons.mp hx with e|e
  ·subst e;exact List.mem_cons_self
  exact List.mem_cons_of_mem _ (h3 x e)
theorem e8.share{l:List Nat}(h:e8 l){w:Nat}(hw:w∈l):l.sum<=101*w:=by
 obtain⟨r,h1,h2,h3⟩:=wq hw;have h4:=Bu r 20 fun x hx=>h.top x (h3 x hx);have h5:=h.jr;have h6:=h.pos w hw;omega
theorem FG{l:List Nat}(h:e8 l)(hv:Nat):((l.sum ^ 300:Nat):Int)<=2*j7 l.sum (il l hv) 300:=by
 rw[CG _ _ _ (JM l hv)];exact M5 (fun x hx=>h.share (OV hx)) (Nat.le_trans (OW l hv) h.jr)
theorem OX{l:List Nat}(h:e8 l)(hv:Nat){n:Nat}(hn:((l.sum ^ n:Nat):Int)<=2*j7 l.sum (il l hv) n)(hlt:∀k,k<n->¬((l.sum ^ k:Nat):Int)<=2*j7 l.sum (il l hv) k):Kp292.half l hv=some n:=by
 unfold Kp292.half;have hb:n<400:=by
  refine Nat.lt_of_not_le fun q=>hlt 300 (by omega) (FG h hv)
 exact tL hb (by rw[bO,FF];exact decide_eq_true hn) (fun k hk=>by rw[bO,FF];exact decide_eq_false (hlt k hk))
theorem CH(n k:Nat):Kp291.choose n (k+1)=Kp291.choose n k*(n - k)/(k+1):=by
 unfold Kp291.choose;rw[List.range_succ,List.foldl_append];rfl
theorem AS{n k:Nat}(h:n<k):Kp291.choose n k=0:=by
 induction k with
 |zero=>omega
 |succ k ih=>
  rw[CH];by_cases e:n<k
  ·rw[ih e,Nat.zero_mul,Nat.zero_div]
  rw[show n - k=0 by omega,Nat.mul_zero,Nat.zero_div]
theorem JN:∀n,n<25->∀k,k<n+1->0<Kp291.choose n k:=by decide +kernel
theorem jC{n k:Nat}(hn:n<=24)(hk:k<=n):0<Kp291.choose n k:=JN n (by omega) k (by omega)
theorem JO:∀n,n<25->∀k,k<25->Kp291.choose n k<2 ^ 22:=by decide +kernel
theorem iz{n k:Nat}(hn:n<=24)(hk:k<=24):Kp291.choose n k<2 ^ 22:=JO n (by omega) k (by omega)
theorem HU:∀n,n<25->Kp291.choose n n=1:=by decide +kernel
theorem JP:∀n,n<13->∀i,i<13->∀j,j<13->i+j+2<=n->Kp291.choose n (i+1)*Kp291.choose (n - (i+1)) (j+1)=Kp291.choose n (j+1)*Kp291.choose (n - (j+1)) (i+1):=by decide +kernel
noncomputable def eE(n:Nat)(f:Nat->Nat):Nat:=((List.range n).map f).sum
theorem wt(f:Nat->Nat):eE 0 f=0:=rfl
theorem eL(n:Nat)(f:Nat->Nat):eE (n+1) f=eE n f+f n:=by
 unfold eE;rw[List.range_succ,List.map_append,List.sum_append];simp
theorem gM{n:Nat}{f g:Nat->Nat}(h:∀i,i<n->f i=g i):eE n f=eE n g:=by
 unfold eE
 congr 1
 apply List.map_congr_left;intro i hi;exact h i (List.mem_range.mp hi)
theorem zO(n:Nat)(f g:Nat->Nat):eE n (fun i=>f i+g i)=eE n f+eE n g:=by
 induction n with
 |zero=>rfl
 |succ n ih=>rw[eL,eL,eL,ih];omega
theorem Sz(n c:Nat)(f:Nat->Nat):eE n (fun i=>c*f i)=c*eE n f:=by
 induction n with
 |zero=>rfl
 |succ n ih=>rw[eL,eL,ih,Nat.mul_add]
theorem jI{n:Nat}{f:Nat->Nat}(h:∀i,i<n->f i=0):eE n f=0:=by
 induction n with
 |zero=>rfl
 |succ n ih=>rw[eL,ih (fun i hi=>h i (by omega)),h n (by omega)]
theorem zP{n a:Nat}(ha:a<n)(f:Nat->Nat)(h:∀i,i<n->i≠a->f i=0):eE n f=f a:=by
 induction n with
 |zero=>omega
 |succ n ih=>
  rw[eL];by_cases e:a=n
  ·subst e;rw[jI (fun i hi=>h i (by omega) (by omega)),Nat.zero_add]
  rw[ih (by omega) (fun i hi=>h i (by omega)),h n (by omega) (Ne.symm e),Nat.add_zero]
theorem OY(m n:Nat)(f:Nat->Nat->Nat):eE m (fun i=>eE n (fun j=>f i j))=eE n (fun j=>eE m (fun i=>f i j)):=by
 induction m with
 |zero=>rw[wt];exact(jI fun _ _=>rfl).symm
 |succ m ih=>
  rw[eL,ih,<- zO];apply gM;intro j _;rw[eL]
theorem M6(n:Nat)(f:Nat->Nat):eE (n+1) f=f 0+eE n (fun i=>f (i+1)):=by
 induction n with
 |zero=>rw[eL];simp[wt]
 |succ n ih=>rw[eL,ih,eL];omega
theorem SA(n:Nat)(f:Nat->Nat):eE n f=eE n (fun i=>f (n - 1 - i)):=by
 induction n with
 |zero=>rfl
 |succ n ih=>
  rw[eL,M6 (f:=fun i=>f (n+1 - 1 - i)),ih,Nat.add_comm]
  congr 1
  apply gM;intro i hi
  congr 1
  omega
theorem Kz{n a:Nat}(ha:a<=n)(f:Nat->Nat)(h:∀i,i<n->a<=i->f i=0):eE n f=eE a f:=by
 induction n with
 |zero=>rw[show a=0 by omega]
 |succ n ih=>
  by_cases e:a=n+1
  ·rw[e]
  rw[eL,ih (by omega) (fun i hi=>h i (by omega)),h n (by omega) (by omega),Nat.add_zero]
noncomputable def fV(f:Nat->Nat->Nat)(w n:Nat):Nat->Nat
 |0=>f n 0
 |k+1=>f n (k+1)+eE n (fun i=>Kp291.choose n (i+1)*w ^ (i+1)*f (n - (i+1)) k)
noncomputable abbrev J(l:List Nat)(n k:Nat):Nat:=Kp293.just l n k
theorem Ln(l:List Nat)(n:Nat):J l n 0=if n=0 then 1 else 0:=by
 cases l with
 |nil=>cases n <;> rfl
 |cons w l=>unfold J Kp293.just;rfl
theorem Ha(w:Nat)(l:List Nat)(n k:Nat):J (w::l) n k=fV (J l) w n k:=by
 cases k with
 |zero=>rw[Ln,fV,Ln]
 |succ k=>
  show Kp293.just (w::l) n (k+1)=_;rw[Kp293.just,bO,fV];rfl
theorem M7(l:List Nat)(n k:Nat)(h:l.length<k):J l n k=0:=by
 induction l generalizing n k with
 |nil=>
  cases k with
  |zero=>simp at h
  |succ k=>cases n <;> rfl
 |cons w l ih=>
  rw[List.length_cons]at h;rw[Ha];cases k with
  |zero=>omega
  |succ k=>
   rw[fV,ih n (k+1) (by omega),Nat.zero_add];apply jI;intro i hi;rw[ih _ k (by omega),Nat.mul_zero]
theorem CI{f g:Nat->Nat->Nat}{n:Nat}(h:∀m,m<=n->∀k,f m k=g m k)(w k:Nat):fV f w n k=fV g w n k:=by
 cases k with
 |zero=>exact h n (Nat.le_refl _) 0
 |succ k=>
  rw[fV,fV,h n (Nat.le_refl _)]
  congr 1
  apply gM;intro i hi;rw[h (n - (i+1)) (by omega)]
noncomputable def dbl(f:Nat->Nat->Nat)(v w n k:Nat):Nat:=eE n (fun i=>eE n (fun j=>if i+j+2<=n then Kp291.choose n (i+1)*Kp291.choose (n - (i+1)) (j+1)*(w ^ (i+1)*v ^ (j+1))*f (n - (i+1) - (j+1)) k else 0))
theorem SD(f:Nat->Nat->Nat)(v w n k:Nat)(hn:n<=12):dbl f v w n k=dbl f w v n k:=by
 unfold dbl;rw[OY];apply gM;intro j hj;apply gM;intro i hi;by_cases h:i+j+2<=n
 ·rw[if_pos h,if_pos (by omega),JP n (by omega) i (by omega) j (by omega) h,Nat.mul_comm (w ^ (i+1)),show n - (i+1) - (j+1)=n - (j+1) - (i+1)by omega]
 rw[if_neg h,if_neg (by omega)]
theorem WR(f:Nat->Nat->Nat)(v w n k:Nat):eE n (fun i=>Kp291.choose n (i+1)*w ^ (i+1)*eE (n - (i+1)) (fun j=>Kp291.choose (n - (i+1)) (j+1)*v ^ (j+1)*f (n - (i+1) - (j+1)) k))=dbl f v w n k:=by
 unfold dbl;apply gM;intro i hi;rw[<- Sz];have e:eE n (fun j=>if i+j+2<=n then Kp291.choose n (i+1)*Kp291.choose (n - (i+1)) (j+1)*(w ^ (i+1)*v ^ (j+1))*f (n - (i+1) - (j+1)) k else 0)
   =eE (n - (i+1)) (fun j=>if i+j+2<=n then Kp291.choose n (i+1)*Kp291.choose (n - (i+1)) (j+1)*(w ^ (i+1)*v ^ (j+1))*f (n - (i+1) - (j+1)) k else 0):=
  Kz (by omega) _ (fun j h1 h2=>if_neg (by omega))
 rw[e];apply gM;intro j hj;rw[if_pos (by omega)];generalize Kp291.choose n (i+1)=a;generalize Kp291.choose (n - (i+1)) (j+1)=b;generalize w ^ (i+1)=c;generalize v ^ (j+1)=d;generalize f (n - (i+1) - (j+1)) k=e
 grind
theorem M8(f:Nat->Nat->Nat)(v w n k:Nat)(hn:n<=12):fV (fV f v) w n k=fV (fV f w) v n k:=by
 match k with
 |0=>rfl
 |1=>
  rw[fV,fV,fV,fV];have e:∀x y:Nat,eE n (fun i=>Kp291.choose n (i+1)*x ^ (i+1)*fV f y (n - (i+1)) 0)=eE n (fun i=>Kp291.choose n (i+1)*x ^ (i+1)*f (n - (i+1)) 0):=fun x y=>rfl;rw[e,e];omega
 |k+2=>
  rw[fV,fV,fV,fV];have e:∀x y:Nat,eE n (fun i=>Kp291.choose n (i+1)*x ^ (i+1)*fV f y (n - (i+1)) (k+1))=eE n (fun i=>Kp291.choose n (i+1)*x ^ (i+1)*f (n - (i+1)) (k+1))+dbl f y x n k:=by
   intro x y;rw[<- WR,<- zO];apply gM;intro i hi;rw[fV,Nat.mul_add]
  rw[e,e,SD f v w n k hn];omega
theorem WS(l:List Nat)(w n k:Nat)(hn:n<=12):J (l++[w]) n k=fV (J l) w n k:=by
 induction l generalizing n k with
 |nil=>rw[List.nil_append,Ha]
 |cons v l ih=>
  rw[List.cons_append,Ha,CI (g:=fV (J l) w) (fun m hm k=>ih m k (by omega)),M8 _ _ _ _ _ hn];exact CI (fun m _ k=>(Ha v l m k).symm) w k
noncomputable def cT(f:Nat->Nat->Nat)(w a b t k n:Nat):Nat:=if k=a+1/\n=b+(t+1)then f b a*Kp291.choose (b+(t+1)) (t+1)*w ^ (t+1)else 0
noncomputable def c0(f:Nat->Nat->Nat)(a b k n:Nat):Nat:=if k=a/\n=b then f b a else 0
noncomputable def cL(f:Nat->Nat->Nat)(w d a b k n:Nat):Nat:=c0 f a b k n+eE (d - b) (fun t=>cT f w a b t k n)
noncomputable def cK(f:Nat->Nat->Nat)(w d a k n:Nat):Nat:=eE (d+1) (fun b=>cL f w d a b k n)
noncomputable def cA(f:Nat->Nat->Nat)(w d A k n:Nat):Nat:=eE A (fun a=>cK f w d a k n)
theorem Zy(f:Nat->Nat->Nat)(w d a k n:Nat)(hn:n<=d):cK f w d a k n=(if k=a then f n a else 0)+(if k=a+1 then eE n (fun i=>Kp291.choose n (i+1)*w ^ (i+1)*f (n - (i+1)) a)else 0):=by
 unfold cK cL;rw[zO]
 congr 1
 ·unfold c0;by_cases h:k=a
  ·rw[if_pos h,zP (a:=n) (by omega) _ (fun i _ hi=>if_neg (fun q=>hi q.2.symm)),if_pos ⟨h,rfl⟩]
  rw[if_neg h];exact jI fun i _=>if_neg (fun q=>h q.1)
 unfold cT;by_cases h:k=a+1
 ·rw[if_pos h];have e1:∀b,b<d+1->eE (d - b) (fun t=>if k=a+1/\n=b+(t+1)then f b a*Kp291.choose (b+(t+1)) (t+1)*w ^ (t+1)else 0)=if b<n then f b a*Kp291.choose n (n - b)*w ^ (n - b)else 0:=by
   intro b hb;by_cases Ge:b<n
   ·rw[if_pos Ge,zP (a:=n - b - 1) (by omega) _ (fun i _ hi=>if_neg (fun q=>hi (by omega))),if_pos ⟨h,by omega⟩,show b+(n - b - 1+1)=n by omega,show n - b - 1+1=n - b by omega]
   rw[if_neg Ge];exact jI fun i _=>if_neg (fun q=>by omega)
  rw[gM e1,Kz (a:=n) (by omega) _ (fun i _ hi=>if_neg (by omega)),SA];apply gM;intro i hi;rw[if_pos (by omega),show n - (n - 1 - i)=i+1 by omega,show n - 1 - i=n - (i+1)by omega];generalize Kp291.choose n (i+1)=x;generalize w ^ (i+1)=y;generalize f (n - (i+1)) a=z
  grind
 rw[if_neg h];exact jI fun b _=>jI fun t _=>if_neg (fun q=>h q.1)
theorem Zz(f:Nat->Nat->Nat)(w d A k n:Nat)(hn:n<=d)(hk:k<=A)(hf:f n A=0):cA f w d A k n=fV f w n k:=by
 unfold cA;rw[gM (fun a _=>Zy f w d a k n hn),zO];have e1:eE A (fun a=>if k=a then f n a else 0)=f n k:=by
  by_cases h:k=A
  ·rw[jI (fun a ha=>if_neg (by omega)),h,hf]
  rw[zP (a:=k) (by omega) _ (fun i _ hi=>if_neg (fun q=>hi q.symm)),if_pos rfl]
 rw[e1];cases k with
 |zero=>
  rw[fV,jI (fun a ha=>if_neg (by omega)),Nat.add_zero]
 |succ k=>
  rw[fV,zP (a:=k) (by omega) _ (fun i _ hi=>if_neg (fun q=>hi (by omega))),if_pos rfl]
noncomputable def cI(f:Nat->Nat)(m:Nat):Nat:=(List.range (m+1)).foldl (fun(b k:Nat)=>if f b<f k then k else b) 0
theorem rL(f:Nat->Nat)(m:Nat):cI f (m+1)=if f (cI f m)<f (m+1)then m+1 else cI f m:=by
 unfold cI;rw[List.range_succ,List.foldl_append];rfl
theorem rM(f:Nat->Nat)(m:Nat):cI f m<=m/\(∀k,k<=m->f k<=f (cI f m))/\∀k,k<cI f m->f k<f (cI f m):=by
 induction m with
 |zero=>
  have e:cI f 0=0:=by unfold cI;simp[List.range_succ]
  rw[e];refine⟨Nat.le_refl _,fun k hk=>?_,fun k hk=>by omega⟩;rw[show k=0 by omega];exact Nat.le_refl _
 |succ m ih=>
  obtain⟨h1,h2,h3⟩:=ih;rw[rL];by_cases h:f (cI f m)<f (m+1)
  ·rw[if_pos h];refine⟨Nat.le_refl _,fun k hk=>?_,fun k hk=>?_⟩
   ·by_cases e:k=m+1
    ·rw[e];exact Nat.le_refl _
    have:=h2 k (by omega);omega
   have:=h2 k (by omega);omega
  rw[if_neg h];refine⟨by omega,fun k hk=>?_,h3⟩;by_cases e:k=m+1
  ·rw[e];omega
  exact h2 k (by omega)
noncomputable def qZ(t:Nat)(l:List Nat)(n:Nat):Rat:=mkRat (((l.map fun w=>t ^ n - (t - w) ^ n).sum:Nat):Int) (t ^ n)
theorem Bv(l:List Nat)(n:Nat):meanUp l n=(l.map fun w=>l.sum ^ n - (l.sum - w) ^ n).sum:=by
 unfold meanUp;rw[bO,bO]
theorem SE(m:Nat)(g:Nat->Nat):((List.replicate m 1).map g).sum=m*g 1:=by
 induction m with
 |zero=>simp
 |succ m ih=>rw[List.replicate_succ,List.map_cons,List.sum_cons,ih,Nat.succ_mul,Nat.add_comm]
theorem KA(t n:Nat)(l:List Nat)(h:∀w∈l,w<=t):(l.map fun w=>t ^ (n+1) - (t - w) ^ (n+1)).sum=t*(l.map fun w=>t ^ n - (t - w) ^ n).sum+(l.map fun w=>w*(t - w) ^ n).sum:=by
 induction l with
 |nil=>simp
 |cons a l ih=>
  rw[List.map_cons,List.map_cons,List.map_cons,List.sum_cons,List.sum_cons,List.sum_cons,ih fun w hw=>h w (List.mem_cons_of_mem _ hw),Nat.mul_add];have ha:=h a List.mem_cons_self;have hp:(t - a) ^ n<=t ^ n:=Nat.pow_le_pow_left (Nat.sub_le _ _) n;have e:t ^ (n+1) - (t - a) ^ (n+1)=t*(t ^ n - (t - a) ^ n)+a*(t - a) ^ n:=by
   obtain⟨b,hb⟩:∃b,t=a+b:=⟨t - a,by omega⟩;subst hb;rw[show a+b - a=b by omega]at hp ⊢;rw[Nat.pow_succ,Nat.pow_succ];obtain⟨r,hr⟩:∃r,(a+b) ^ n=b ^ n+r:=⟨(a+b) ^ n - b ^ n,by omega⟩;rw[hr];generalize b ^ n=q;rw[show q+r - q=r by omega];have e1:(q+r)*(a+b)=q*b+((a+b)*r+a*q):=by grind
   rw[e1];omega
  omega
theorem UR{l:List Nat}(hs:0<l.sum)(n:Nat)(h:∀w∈l,w<=l.sum):mkRat ((addsUp l n:Nat):Int) (l.sum ^ (n+1))=qZ l.sum l (n+1) - qZ l.sum l n:=by
 have e1:addsUp l n=(l.map fun w=>l.sum ^ (n+1) - (l.sum - w) ^ (n+1)).sum - l.sum*(l.map fun w=>l.sum ^ n - (l.sum - w) ^ n).sum:=by
  unfold addsUp;rw[bO,bO,KA l.sum n l h];omega
 rw[e1,Bt (by rw[KA l.sum n l h];omega) (fj hs _)];unfold qZ;rw[Nat.pow_succ (n:=l.sum) (m:=n),Cz (fj hs n),if_neg (Nat.ne_of_gt hs)]
theorem US(x a b n:Nat):(x+b) ^ n+(x+a) ^ n<=(x+a+b) ^ n+x ^ n:=by
 induction n with
 |zero=>simp
 |succ n ih=>
  have h1:x ^ n<=(x+b) ^ n:=Nat.pow_le_pow_left (by omega) n;have h2:x ^ n<=(x+a) ^ n:=Nat.pow_le_pow_left (by omega) n;rw[Nat.pow_succ,Nat.pow_succ,Nat.pow_succ,Nat.pow_succ];generalize (x+b) ^ n=p at*;generalize (x+a) ^ n=q at*;generalize (x+a+b) ^ n=r at*;generalize x ^ n=s at*;have h3:=Nat.mul_le_mul_left (x+a+b) ih;have h4:=Nat.mul_le_mul_left a h1;have h5:=Nat.mul_le_mul_left b h2;have e1:(x+a+b)*(p+q)=p*(x+b)+q*(x+a)+a*p+b*q:=by grind
  have e2:(x+a+b)*(r+s)=r*(x+a+b)+s*x+a*s+b*s:=by grind
  omega
theorem M9{S a b n:Nat}(h:a+b<=S):j7 S [a,b] n=((S ^ n+(S - a - b) ^ n - ((S - a) ^ n+(S - b) ^ n):Nat):Int):=by
 rw[CG n S [a,b] (by simp;omega)];unfold turns turns turns;have k:=US (S - a - b) a b n;rw[show S - a - b+b=S - a by omega,show S - a - b+a=S - b by omega,show S - b+b=S by omega]at k;omega
theorem Na{l:List Nat}{i j:Nat}(hi:i<l.length)(hj:j<l.length)(SF:i≠j):l.getD i 0+l.getD j 0<=l.sum:=by
 induction l generalizing i j with
 |nil=>simp at hi
 |cons a l ih=>
  rw[List.sum_cons];have one:∀k,k<l.length->l.getD k 0<=l.sum:=by
   intro k hk;have:l.getD k 0∈l:=by rw[List.getD_eq_getElem?_getD,List.getElem?_eq_getElem hk];exact List.getElem_mem hk
   obtain⟨r,e,_⟩:=wq this;omega
  match i,j with
  |0,0=>omega
  |0,j+1=>
   have:=one j (by simpa using hj);show a+l.getD j 0<=_;omega
  |i+1,0=>
   have:=one i (by simpa using hi);show l.getD i 0+a<=_;omega
  |i+1,j+1=>
   have:=ih (i:=i) (j:=j) (by simpa using hi) (by simpa using hj) (by omega);show l.getD i 0+l.getD j 0<=_;omega
noncomputable def bh(c:Kp296.Call)(t:Table):Table×List Int:=((Kp296.step (some t) c).1.getD t,(Kp296.step (some t) c).2.num::(Kp296.step (some t) c).2.nums)
noncomputable def cH(r:Rat):List Int:=[0,r.num,(r.den:Int)]
theorem RG(n:Nat):okW n=decide (1<=n/\n<=20):=by
 unfold okW;by_cases h1:1<=n <;> by_cases h2:n<=20 <;> simp[h1,h2]
theorem wu(l:List Nat)(i j:Nat):(Kp291.level l i j).length=l.length:=by
 unfold Kp291.level;simp
theorem HV{l:List Nat}{i j x:Nat}(h:x∈Kp291.level l i j):x∈l∨x=(l.getD i 0+l.getD j 0)/2:=by
 unfold Kp291.level at h;rcases List.mem_or_eq_of_mem_set h with q|q
 ·rcases List.mem_or_eq_of_mem_set q with r|r
  ·exact .inl r
  exact .inr r
 exact .inr q
theorem e8.level{l:List Nat}(h:e8 l){i j:Nat}(hi:i<l.length)(hj:j<l.length):e8 (Kp291.level l i j):=by
 have gi:l.getD i 0∈l:=by rw[List.getD_eq_getElem?_getD,List.getElem?_eq_getElem hi];exact List.getElem_mem hi
 have gj:l.getD j 0∈l:=by rw[List.getD_eq_getElem?_getD,List.getElem?_eq_getElem hj];exact List.getElem_mem hj
 have a1:=h.pos _ gi;have a2:=h.pos _ gj;have b1:=h.top _ gi;have b2:=h.top _ gj;refine⟨by rw[wu];exact h.jr,fun x hx=>?_,fun x hx=>?_⟩
 ·rcases HV hx with q|q
  ·exact h.pos x q
  rw[q];omega
 rcases HV hx with q|q
 ·exact h.top x q
 rw[q];omega
theorem e8.snoc{l:List Nat}(h:e8 l)(hl:l.length<6){x:Nat}(h1:1<=x)(h2:x<=20):e8 (l++[x]):=by
 refine⟨by rw[List.length_append];simp;omega,fun y hy=>?_,fun y hy=>?_⟩
 ·rcases List.mem_append.mp hy with q|q
  ·exact h.pos y q
  rw[List.mem_singleton.mp q];exact h1
 rcases List.mem_append.mp hy with q|q
 ·exact h.top y q
 rw[List.mem_singleton.mp q];exact h2
theorem KC{l:List Nat}(h:e8 l):e8 (List.replicate l.length 1):=⟨by rw[List.length_replicate];exact h.jr,fun w hw=>by rw[List.eq_of_mem_replicate hw];decide,fun w hw=>by rw[List.eq_of_mem_replicate hw];decide⟩
theorem zQ(n:Nat):(List.replicate n 1).sum=n:=by
 induction n with
 |zero=>rfl
 |succ n ih=>rw[List.replicate_succ,List.sum_cons,ih];omega
noncomputable def fX(most:Nat)(val:List Nat->Nat->Rat)(l:List Nat)(n:Nat):List Int:=if l.length=0 then[-6]else if most<n then[-22]else cH (val l n)
noncomputable def lL(most:Nat)(val:List Nat->Nat->Rat)(l:List Nat)(i j n:Nat):List Int:=if l.length=0 then[-6]else if ¬(i<l.length/\j<l.length)then[-2]else if most<n∨i=j then[-22]
 else if(l.getD i 0+l.getD j 0)%2≠0 then[-33]else cH (val (Kp291.level l i j) n)
theorem cn{a b:Nat}(hb:b≠0):([0,((frac a b).1:Int),((frac a b).2:Int)]:List Int)=cH (mkRat (a:Int) b):=by
 rw[Kw hb,Kx hb];rfl
theorem iR(t:Table)(c:Kp291.Call):bh (.alike c) t=(t,(Kp291.step (some t.kinds) c).2.num::(Kp291.step (some t.kinds) c).2.nums):=rfl
theorem ko(t:Table)(c:Kp293.Call):bh (.many c) t=(t,(Kp293.step (some t.kinds) c).2.num::(Kp293.step (some t.kinds) c).2.nums):=rfl
theorem rN{t:Table}{c:Kp291.Call}{n a b:Nat}{val:List Nat->Nat->Rat}(e:Kp291.step (some t.kinds) c=if t.kinds.length=0 then(some t.kinds,Kp291.say (-6))else(some t.kinds,if Kp291.DRAWS<n then Kp291.say (-22)else Kp291.tellFrac (frac a b)))
  (hb:t.kinds.length≠0->n<=10->b≠0/\mkRat (a:Int) b=val t.kinds n):bh (.alike c) t=(t,fX 10 val t.kinds n):=by
 rw[iR,e];unfold fX;by_cases h1:t.kinds.length=0
 ·rw[if_pos h1,if_pos h1];rfl
 rw[if_neg h1,if_neg h1];by_cases h2:10<n
 ·rw[if_pos h2,if_pos (show Kp291.DRAWS<n from h2)];rfl
 rw[if_neg h2,if_neg (show ¬Kp291.DRAWS<n from h2)];obtain⟨h3,h4⟩:=hb h1 (by omega);rw[<- h4,<- cn h3];rfl
noncomputable def CJ(l:List Nat)(n:Nat):Rat:=mkRat ((C2 n*squares l:Nat):Int) (l.sum*l.sum)
noncomputable def Er(l:List Nat)(n:Nat):Rat:=fU (List.replicate l.length 1) n
noncomputable def CK(l:List Nat)(n:Nat):Rat:=mkRat ((l.sum ^ n - Al.T l n:Nat):Int) (l.sum ^ n)
noncomputable def Lo(l:List Nat)(n:Nat):Rat:=fU l (n - 1) - fU l n
noncomputable def SG(l:List Nat):Nat:=((List.range (l.length+1)).map fun n=>differentUp l n*l.sum ^ (l.length - n)).sum
noncomputable def FH(l:List Nat):Rat:=mkRat ((SG l:Nat):Int) (l.sum ^ l.length)
theorem ZA{t:Table}(hw:e8 t.kinds)(n:Nat):bh (.alike (.different n)) t=(t,fX 10 fU t.kinds n):=
 rN (c:=.different n) (n:=n) (a:=differentUp t.kinds n) (b:=Kp291.sum t.kinds ^ n) rfl fun h _=>⟨by rw[bO];exact fj (hw.dG h) n,by rw[bO];rfl⟩
theorem ZC{t:Table}(hw:e8 t.kinds)(n:Nat):bh (.alike (.alike n)) t=(t,fX 10 (fun l n=>1 - fU l n) t.kinds n):=
 rN (c:=.alike n) (n:=n) (a:=Kp291.sum t.kinds ^ n - differentUp t.kinds n) (b:=Kp291.sum t.kinds ^ n) rfl fun h _=>⟨by rw[bO];exact fj (hw.dG h) n,by rw[bO];exact Su (hw.dG h) n⟩
theorem ZD{t:Table}(hw:e8 t.kinds)(n:Nat):bh (.alike (.pairs n)) t=(t,fX 10 CJ t.kinds n):=
 rN (c:=.pairs n) (n:=n) (a:=Kp291.choose n 2*squares t.kinds) (b:=Kp291.sum t.kinds ^ 2) rfl fun h _=>⟨by rw[bO];exact fj (hw.dG h) 2,by rw[bO,tM,Nat.pow_two];rfl⟩
noncomputable def WT(l:List Nat):List Int:=if l.length=0 then[-6]else[((Kp291.half l:Nat):Int)]
theorem ZE(t:Table):bh (.alike .half) t=(t,WT t.kinds):=by
 have e:Kp291.step (some t.kinds) .half=if t.kinds.length=0 then(some t.kinds,Kp291.say (-6))else(some t.kinds,Kp291.say (Kp291.half t.kinds:Int)):=rfl;rw[iR,e];unfold WT;by_cases h:t.kinds.length=0
 ·rw[if_pos h,if_pos h];rfl
 rw[if_neg h,if_neg h];rfl
noncomputable def ZF(l:List Nat)(n:Nat):List Int:=if l.length≠0/\n=0 then[-22]else fX 10 Lo l n
theorem ZG{t:Table}(hw:e8 t.kinds)(n:Nat):bh (.alike (.first n)) t=(t,ZF t.kinds n):=by
 have e:Kp291.step (some t.kinds) (.first n)=if t.kinds.length=0 then(some t.kinds,Kp291.say (-6))else(some t.kinds,if n=0∨Kp291.DRAWS<n then Kp291.say (-22)else Kp291.tellFrac (firstAt t.kinds n)):=rfl;rw[iR,e]
 symm
 unfold ZF fX;by_cases h:t.kinds.length=0
 ·rw[if_pos h,if_pos h,if_neg (fun q=>q.1 h)];rfl
 rw[if_neg h,if_neg h];by_cases h0:n=0
 ·rw[if_pos ⟨h,h0⟩,if_pos (.inl h0)];rfl
 rw[if_neg (fun q=>h0 q.2)];by_cases h2:10<n
 ·rw[if_pos h2,if_pos (.inr (show Kp291.DRAWS<n from h2))];rfl
 rw[if_neg h2,if_neg (fun q=>q.elim h0 (show ¬Kp291.DRAWS<n from h2))];unfold firstAt;show _=(t,([0,((frac _ _).1:Int),((frac _ _).2:Int)]:List Int));rw[cn (by rw[bO];exact fj (hw.dG h) n)];unfold Kp291.firstUp;rw[if_neg h0,bO];obtain⟨m,rfl⟩:∃m,n=m+1:=⟨n - 1,by omega⟩;rw[show m+1 - 1=m by omega,Sv (hw.dG h) m];rfl
noncomputable def WU(l:List Nat):List Int:=if l.length=0 then[-6]else cH (FH l)
theorem ZH{t:Table}(hw:e8 t.kinds):bh (.alike .mean) t=(t,WU t.kinds):=by
 have e:Kp291.step (some t.kinds) .mean=if t.kinds.length=0 then(some t.kinds,Kp291.say (-6))else(some t.kinds,Kp291.tellFrac (meanFirst t.kinds)):=rfl;rw[iR,e];unfold WU;by_cases h:t.kinds.length=0
 ·rw[if_pos h,if_pos h];rfl
 rw[if_neg h,if_neg h];unfold meanFirst;show(t,([0,((frac _ _).1:Int),((frac _ _).2:Int)]:List Int))=_;rw[cn (by rw[bO];exact fj (hw.dG h) _),bO,bO];rfl
theorem ZI{t:Table}(hw:e8 t.kinds)(n:Nat):bh (.alike (.even n)) t=(t,fX 10 Er t.kinds n):=
 rN (c:=.even n) (n:=n) (a:=fact n*Kp291.choose t.kinds.length n) (b:=t.kinds.length ^ n) rfl fun h hn=>⟨fj (Nat.pos_of_ne_zero h) n,by
  unfold Er fU differentUp;rw[zQ,HN _ (by have:=hw.jr;omega) n (by omega)]⟩
theorem ZJ{t:Table}(hw:e8 t.kinds)(n:Nat):bh (.alike (.three n)) t=(t,fX 10 CK t.kinds n):=
 rN (c:=.three n) (n:=n) (a:=Kp291.sum t.kinds ^ n - twosAtMost t.kinds n) (b:=Kp291.sum t.kinds ^ n) rfl fun h _=>⟨by rw[bO];exact fj (hw.dG h) n,by rw[bO];rfl⟩
noncomputable def Nb(l:List Nat)(n:Nat):List Int:=if l.length=0 then[-6]else if 10<n then[-22]else[0,((products l n:Nat):Int)]
theorem ZK(t:Table)(n:Nat):bh (.alike (.products n)) t=(t,Nb t.kinds n):=by
 have e:Kp291.step (some t.kinds) (.products n)=if t.kinds.length=0 then(some t.kinds,Kp291.say (-6))else(some t.kinds,if Kp291.DRAWS<n then Kp291.say (-22)else⟨0,[(products t.kinds n:Int)]⟩):=rfl;rw[iR,e];unfold Nb;by_cases h:t.kinds.length=0
 ·rw[if_pos h,if_pos h];rfl
 rw[if_neg h,if_neg h];by_cases h2:10<n
 ·rw[if_pos h2,if_pos (show Kp291.DRAWS<n from h2)];rfl
 rw[if_neg h2,if_neg (show ¬Kp291.DRAWS<n from h2)]
noncomputable def WV(l:List Nat):List Int:=if l.length=0 then[-6]else[((squares l:Nat):Int)]
theorem ZL(t:Table):bh (.alike .squares) t=(t,WV t.kinds):=by
 have e:Kp291.step (some t.kinds) .squares=if t.kinds.length=0 then(some t.kinds,Kp291.say (-6))else(some t.kinds,Kp291.say (squares t.kinds:Int)):=rfl;rw[iR,e];unfold WV;by_cases h:t.kinds.length=0
 ·rw[if_pos h,if_pos h];rfl
 rw[if_neg h,if_neg h];rfl
noncomputable def ZM(l:List Nat)(x n:Nat):List Int:=if ¬(1<=x/\x<=20)∨10<n then[-22]else if 6<=l.length then[-28]else cH (fU (l++[x]) n)
theorem ZN{t:Table}(hw:e8 t.kinds)(x n:Nat):bh (.alike (.with_ x n)) t=(t,ZM t.kinds x n):=by
 have e:Kp291.step (some t.kinds) (.with_ x n)=(some t.kinds,if okW x=false∨Kp291.DRAWS<n then Kp291.say (-22)else if KINDS<=t.kinds.length then Kp291.say (-28)else Kp291.tellFrac (different (t.kinds++[x]) n)):=rfl;rw[iR,e,RG];unfold ZM;by_cases h1:¬(1<=x/\x<=20)∨10<n
 ·rw[if_pos h1,if_pos (show decide (1<=x/\x<=20)=false∨Kp291.DRAWS<n from h1.imp (fun q=>decide_eq_false q) id)];rfl
 rw[if_neg h1,if_neg (show ¬(decide (1<=x/\x<=20)=false∨Kp291.DRAWS<n)from fun q=>h1 (q.imp (fun z=>of_decide_eq_false z) id))];by_cases h2:6<=t.kinds.length
 ·rw[if_pos h2,if_pos (show KINDS<=t.kinds.length from h2)];rfl
 rw[if_neg h2,if_neg (show ¬KINDS<=t.kinds.length from h2)];unfold different;show(t,([0,((frac _ _).1:Int),((frac _ _).2:Int)]:List Int))=_;rw[cn (by rw[bO];refine fj ?_ n;rw[List.sum_append];show 0<_+(x+0);omega),bO];rfl
noncomputable def ZO(l:List Nat)(i:Nat):List Int:=if l.length=0 then[-6]else if ¬i<l.length then[-2]else cH (mkRat ((l.getD i 0:Nat):Int) l.sum)
theorem ZP{t:Table}(hw:e8 t.kinds)(i:Nat):bh (.alike (.chance i)) t=(t,ZO t.kinds i):=by
 have e:Kp291.step (some t.kinds) (.chance i)=if t.kinds.length=0 then(some t.kinds,Kp291.say (-6))else(some t.kinds,if Kp291.is t.kinds i=false then Kp291.say (-2)else Kp291.tellFrac (frac (t.kinds.getD i 0) (Kp291.sum t.kinds))):=rfl;rw[iR,e]
 symm
 unfold Kp291.is ZO;by_cases h:t.kinds.length=0
 ·rw[if_pos h,if_pos h];rfl
 rw[if_neg h,if_neg h];by_cases h2:i<t.kinds.length
 ·rw[if_neg (fun q=>q h2),if_neg (by rw[decide_eq_true h2];simp)];show _=(t,([0,((frac _ _).1:Int),((frac _ _).2:Int)]:List Int));rw[cn (by rw[bO];exact Nat.ne_of_gt (hw.dG h)),bO]
 rw[if_pos h2,if_pos (decide_eq_false h2)];rfl
theorem lvl{l:List Nat}{i j n most:Nat}{A:Int×List Int}{val:List Nat->Nat->Rat}(hv:l.length≠0->i<l.length/\j<l.length->n<=most->A.1::A.2=cH (val (Kp291.level l i j) n)):
  (if l.length=0 then((-6:Int),([]:List Int))else if decide (i<l.length)=false∨decide (j<l.length)=false then(-2,[])else if i=j∨most<n then(-22,[])else if(l.getD i 0+l.getD j 0)%2≠0 then(-33,[])else A).1::
  (if l.length=0 then((-6:Int),([]:List Int))else if decide (i<l.length)=false∨decide (j<l.length)=false then(-2,[])else if i=j∨most<n then(-22,[])else if(l.getD i 0+l.getD j 0)%2≠0 then(-33,[])else A).2=lL most val l i j n:=by
 symm
 unfold lL;by_cases h:l.length=0
 ·rw[if_pos h,if_pos h]
 rw[if_neg h,if_neg h];by_cases h2:i<l.length/\j<l.length
 ·rw[if_neg (fun q=>q h2),if_neg (show ¬(decide (i<l.length)=false∨decide (j<l.length)=false)by rw[decide_eq_true h2.1,decide_eq_true h2.2];simp)];by_cases h3:most<n∨i=j
  ·rw[if_pos h3,if_pos h3.symm]
  rw[if_neg h3,if_neg (show ¬(i=j∨most<n)from fun q=>h3 q.symm)];by_cases h4:(l.getD i 0+l.getD j 0)%2≠0
  ·rw[if_pos h4,if_pos h4]
  rw[if_neg h4,if_neg h4];exact(hv h h2 (by omega)).symm
 rw[if_pos h2,if_pos (show decide (i<l.length)=false∨decide (j<l.length)=false by simp only[decide_eq_false_iff_not];omega)]
theorem ZQ{t:Table}(hw:e8 t.kinds)(i j n:Nat):bh (.alike (.would i j n)) t=(t,lL 10 fU t.kinds i j n):=by
 have hl:=lvl (l:=t.kinds) (i:=i) (j:=j) (n:=n) (most:=10) (A:=(0,[((different (Kp291.level t.kinds i j) n).1:Int),((different (Kp291.level t.kinds i j) n).2:Int)])) (val:=fU) (fun h h2 _=>by
  unfold different;have hp:0<(Kp291.level t.kinds i j).sum:=(hw.level h2.1 h2.2).dG (by rw[wu];exact h);show([0,((frac _ _).1:Int),((frac _ _).2:Int)]:List Int)=_;rw[cn (by rw[bO];exact fj hp n),bO];rfl)
 rw[<- hl,iR];have e:Kp291.step (some t.kinds) (.would i j n)=if t.kinds.length=0 then(some t.kinds,Kp291.say (-6))else(some t.kinds,if Kp291.is t.kinds i=false∨Kp291.is t.kinds j=false then Kp291.say (-2)else if i=j∨Kp291.DRAWS<n then Kp291.say (-22)else if(t.kinds.getD i 0+t.kinds.getD j 0)%2≠0 then Kp291.say (-33)else Kp291.tellFrac (different (Kp291.level t.kinds i j) n)):=rfl;rw[e];unfold Kp291.is Kp291.DRAWS
 repeat' split
 all_goals rfl
theorem tO{t:Table}{c:Kp293.Call}{n a b:Nat}{val:List Nat->Nat->Rat}(e:Kp293.step (some t.kinds) c=if t.kinds.length=0 then(some t.kinds,Kp293.say (-6))else(some t.kinds,if Kp293.DRAWS<n then Kp293.say (-22)else Kp293.tellFrac (frac a b)))
  (hb:t.kinds.length≠0->n<=12->b≠0/\mkRat (a:Int) b=val t.kinds n):bh (.many c) t=(t,fX 12 val t.kinds n):=by
 rw[ko,e];unfold fX;by_cases h1:t.kinds.length=0
 ·rw[if_pos h1,if_pos h1];rfl
 rw[if_neg h1,if_neg h1];by_cases h2:12<n
 ·rw[if_pos h2,if_pos (show Kp293.DRAWS<n from h2)];rfl
 rw[if_neg h2,if_neg (show ¬Kp293.DRAWS<n from h2)];obtain⟨h3,h4⟩:=hb h1 (by omega);rw[<- h4,<- cn h3];rfl
noncomputable def Es(k:Nat)(l:List Nat)(n:Nat):Rat:=mkRat ((J l n k:Nat):Int) (l.sum ^ n)
noncomputable def ke(l:List Nat)(n:Nat):Rat:=qZ l.sum l n
noncomputable def HW(l:List Nat)(n:Nat):Rat:=ke l (n+1) - ke l n
noncomputable def zR(l:List Nat)(n:Nat):Rat:=ke (List.replicate l.length 1) n
theorem ZR{t:Table}(hw:e8 t.kinds)(n k:Nat):bh (.many (.chance n k)) t=(t,fX 12 (Es k) t.kinds n):=
 tO (c:=.chance n k) (n:=n) (a:=Kp293.just t.kinds n k) (b:=Kp291.sum t.kinds ^ n) rfl fun h _=>⟨by rw[bO];exact fj (hw.dG h) n,by rw[bO];rfl⟩
noncomputable def Nc(l:List Nat)(n:Nat):List Int:=if l.length=0 then[-6]else if 12<n then[-22]else((l.length+1:Nat):Int)::((List.range (l.length+1)).map (J l n)).map fun(x:Nat)=>(x:Int)
theorem ZS(t:Table)(n:Nat):bh (.many (.all n)) t=(t,Nc t.kinds n):=by
 have e:Kp293.step (some t.kinds) (.all n)=if t.kinds.length=0 then(some t.kinds,Kp293.say (-6))else(some t.kinds,if Kp293.DRAWS<n then Kp293.say (-22)else⟨(t.kinds.length+1:Nat),Kp293.ints ((List.range (t.kinds.length+1)).map (Kp293.just t.kinds n))⟩):=rfl;rw[ko,e];unfold Nc Kp293.DRAWS
 repeat' split
 all_goals rfl
theorem ZT{t:Table}(hw:e8 t.kinds)(n:Nat):bh (.many (.mean n)) t=(t,fX 12 ke t.kinds n):=
 tO (c:=.mean n) (n:=n) (a:=meanUp t.kinds n) (b:=Kp291.sum t.kinds ^ n) rfl fun h _=>⟨by rw[bO];exact fj (hw.dG h) n,by rw[bO,Bv];rfl⟩
theorem yg{l:List Nat}{x:Nat}(h:x∈l):x<=l.sum:=by
 obtain⟨r,e,_⟩:=wq h;omega
theorem ZU{t:Table}(hw:e8 t.kinds)(n:Nat):bh (.many (.adds n)) t=(t,fX 12 HW t.kinds n):=
 tO (c:=.adds n) (n:=n) (a:=addsUp t.kinds n) (b:=Kp291.sum t.kinds ^ (n+1)) rfl fun h _=>⟨by rw[bO];exact fj (hw.dG h) _,by rw[bO,UR (hw.dG h) n (fun w=>yg)];rfl⟩
noncomputable def OZ(l:List Nat)(n:Nat):List Int:=if l.length=0 then[-6]else if 12<n then[-22]else[((cI (J l n) l.length:Nat):Int)]
theorem ZV(t:Table)(n:Nat):bh (.many (.likeliest n)) t=(t,OZ t.kinds n):=by
 have e:Kp293.step (some t.kinds) (.likeliest n)=if t.kinds.length=0 then(some t.kinds,Kp293.say (-6))else(some t.kinds,if Kp293.DRAWS<n then Kp293.say (-22)else Kp293.say (Kp293.likeliest t.kinds n:Int)):=rfl;rw[ko,e];unfold OZ Kp293.DRAWS
 repeat' split
 all_goals rfl
noncomputable def ZW(l:List Nat)(i n:Nat):List Int:=if l.length=0 then[-6]else if ¬i<l.length then[-2]else if 12<n then[-22]else cH (qZ l.sum [l.getD i 0] n)
theorem ZX{t:Table}(hw:e8 t.kinds)(i n:Nat):bh (.many (.seen i n)) t=(t,ZW t.kinds i n):=by
 have e:Kp293.step (some t.kinds) (.seen i n)=if t.kinds.length=0 then(some t.kinds,Kp293.say (-6))else(some t.kinds,if Kp293.is t.kinds i=false then Kp293.say (-2)else if Kp293.DRAWS<n then Kp293.say (-22)else Kp293.tellFrac (Kp293.seen t.kinds i n)):=rfl;rw[ko,e]
 symm
 unfold ZW Kp293.DRAWS Kp293.is;by_cases h:t.kinds.length=0
 ·rw[if_pos h,if_pos h];rfl
 rw[if_neg h,if_neg h];by_cases h2:i<t.kinds.length
 ·rw[if_neg (fun q=>q h2),if_neg (show ¬decide (i<t.kinds.length)=false by rw[decide_eq_true h2];simp)];by_cases h3:12<n
  ·rw[if_pos h3,if_pos h3];rfl
  rw[if_neg h3,if_neg h3];unfold Kp293.seen;show _=(t,([0,((frac _ _).1:Int),((frac _ _).2:Int)]:List Int));rw[cn (by rw[bO];exact fj (hw.dG h) n),bO];unfold qZ;simp
 rw[if_pos h2,if_pos (decide_eq_false h2)];rfl
theorem ZY{t:Table}(hw:e8 t.kinds)(n:Nat):bh (.many (.even n)) t=(t,fX 12 zR t.kinds n):=
 tO (c:=.even n) (n:=n) (a:=t.kinds.length*(t.kinds.length ^ n - (t.kinds.length - 1) ^ n)) (b:=t.kinds.length ^ n) rfl fun h _=>⟨fj (Nat.pos_of_ne_zero h) n,by
  unfold zR ke qZ;rw[zQ,SE]⟩
noncomputable def O0(l:List Nat)(i j n:Nat):List Int:=if l.length=0 then[-6]else if ¬(i<l.length/\j<l.length)then[-2]else if 12<n∨i=j then[-22]else cH (pk l.sum [l.getD i 0,l.getD j 0] n)
theorem ZZ{t:Table}(hw:e8 t.kinds)(i j n:Nat):bh (.many (.both i j n)) t=(t,O0 t.kinds i j n):=by
 have e:Kp293.step (some t.kinds) (.both i j n)=if t.kinds.length=0 then(some t.kinds,Kp293.say (-6))else(some t.kinds,if Kp293.is t.kinds i=false∨Kp293.is t.kinds j=false then Kp293.say (-2)else if i=j∨Kp293.DRAWS<n then Kp293.say (-22)else Kp293.tellFrac (Kp293.both t.kinds i j n)):=rfl;rw[ko,e]
 symm
 unfold O0 Kp293.DRAWS Kp293.is;by_cases h:t.kinds.length=0
 ·rw[if_pos h,if_pos h];rfl
 rw[if_neg h,if_neg h];by_cases h2:i<t.kinds.length/\j<t.kinds.length
 ·rw[if_neg (fun q=>q h2),if_neg (show ¬(decide (i<t.kinds.length)=false∨decide (j<t.kinds.length)=false)by rw[decide_eq_true h2.1,decide_eq_true h2.2];simp)];by_cases h3:12<n∨i=j
  ·rw[if_pos h3,if_pos h3.symm];rfl
  rw[if_neg h3,if_neg (fun q=>h3 q.symm)];unfold Kp293.both Kp293.bothUp;show _=(t,([0,((frac _ _).1:Int),((frac _ _).2:Int)]:List Int));rw[cn (by rw[bO];exact fj (hw.dG h) n),bO,HS (hw.dG h),M9 (Na h2.1 h2.2 (by omega))]
 rw[if_pos h2,if_pos (show decide (i<t.kinds.length)=false∨decide (j<t.kinds.length)=false by simp only[decide_eq_false_iff_not];omega)];rfl
noncomputable def j4(l:List Nat)(a b:Nat):Option Nat:=(List.range 400).find? fun n=>decide (a*l.sum ^ n<=b*(l.map fun w=>l.sum ^ n - (l.sum - w) ^ n).sum)
theorem O1(l:List Nat)(a b:Nat):Kp293.needed l a b=j4 l a b:=by
 unfold Kp293.needed j4
 congr 1
 funext n;rw[Bv,bO]
noncomputable def UT(l:List Nat)(a b:Nat):List Int:=if l.length=0 then[-6]else if ¬(1<=b/\b<=100)∨100<a then[-22]else match j4 l a b with
 |some n=>[(n:Int)]
 |none=>[-33]
theorem Z0(t:Table)(a b:Nat):bh (.many (.needed a b)) t=(t,UT t.kinds a b):=by
 have e:Kp293.step (some t.kinds) (.needed a b)=if t.kinds.length=0 then(some t.kinds,Kp293.say (-6))else(some t.kinds,if b=0∨100<b∨100<a then Kp293.say (-22)else match Kp293.needed t.kinds a b with
      |some n=>Kp293.say (n:Int)
      |none=>Kp293.say (-33)):=rfl
 rw[ko,e,O1];unfold UT;by_cases h:t.kinds.length=0
 ·rw[if_pos h,if_pos h];rfl
 rw[if_neg h,if_neg h];by_cases h3:¬(1<=b/\b<=100)∨100<a
 ·rw[if_pos h3,if_pos (by omega)];rfl
 rw[if_neg h3,if_neg (by omega)];cases j4 t.kinds a b <;> rfl
theorem Z1{t:Table}(hw:e8 t.kinds)(i j n:Nat):bh (.many (.would i j n)) t=(t,lL 12 ke t.kinds i j n):=by
 have hl:=lvl (l:=t.kinds) (i:=i) (j:=j) (n:=n) (most:=12) (A:=(0,[((Kp293.mean (Kp291.level t.kinds i j) n).1:Int),((Kp293.mean (Kp291.level t.kinds i j) n).2:Int)])) (val:=ke) (fun h h2 _=>by
  unfold Kp293.mean;have hp:0<(Kp291.level t.kinds i j).sum:=(hw.level h2.1 h2.2).dG (by rw[wu];exact h);show([0,((frac _ _).1:Int),((frac _ _).2:Int)]:List Int)=_;rw[cn (by rw[bO];exact fj hp n),bO,Bv];rfl)
 rw[<- hl,ko];have e:Kp293.step (some t.kinds) (.would i j n)=if t.kinds.length=0 then(some t.kinds,Kp293.say (-6))else(some t.kinds,if Kp293.is t.kinds i=false∨Kp293.is t.kinds j=false then Kp293.say (-2)else if i=j∨Kp293.DRAWS<n then Kp293.say (-22)else if(t.kinds.getD i 0+t.kinds.getD j 0)%2≠0 then Kp293.say (-33)else Kp293.tellFrac (Kp293.mean (Kp291.level t.kinds i j) n)):=rfl;rw[e];unfold Kp293.is Kp293.DRAWS
 repeat' split
 all_goals rfl
noncomputable def Z2(l:List Nat)(n:Nat):List Int:=if l.length=0 then[-6]else[((min n l.length:Nat):Int)]
theorem Z3(t:Table)(n:Nat):bh (.many (.most n)) t=(t,Z2 t.kinds n):=by
 have e:Kp293.step (some t.kinds) (.most n)=if t.kinds.length=0 then(some t.kinds,Kp293.say (-6))else(some t.kinds,Kp293.say ((min n t.kinds.length:Nat):Int)):=rfl;rw[ko,e];unfold Z2;split <;> rfl
theorem mX(a d k:Nat):rising a d (k+1)=rising a d k*(a+k*d):=rfl
theorem AU(a d k:Nat):a*rising (a+d) d k=rising a d (k+1):=by
 induction k with
 |zero=>simp[rising]
 |succ k ih=>
  rw[mX (a+d),<- Nat.mul_assoc,ih,mX a d (k+1)]
  congr 1
  rw[Nat.succ_mul];omega
theorem iS{a:Nat}(h:0<a)(d k:Nat):0<rising a d k:=by
 induction k with
 |zero=>exact Nat.zero_lt_one
 |succ k ih=>rw[mX];exact Nat.mul_pos ih (by omega)
theorem O2{a d b k:Nat}(h:a+k*d<=b):rising a d k<=b ^ k:=by
 induction k with
 |zero=>simp[rising]
 |succ k ih=>
  rw[Nat.succ_mul]at h;rw[mX,Nat.pow_succ];exact Nat.mul_le_mul (ih (by omega)) (by omega)
noncomputable def lM(u v i:Nat):Nat:=if i=0 then u else v
noncomputable abbrev U(g u v:Nat):Kp294.Urn:=⟨[u,v],g,[]⟩
theorem j8(g u v:Nat)(dr:List Nat):Kp294.all ⟨[u,v],g,dr⟩=u+v:=by
 unfold Kp294.all;rw[bO];simp
theorem Hb{u v i:Nat}(h:i<2):([u,v]:List Nat).getD i 0=lM u v i:=by
 match i,h with
 |0,_=>rfl
 |1,_=>rfl
theorem Nd{u v i:Nat}(h:i<2):u+v - lM u v i=lM u v (1 - i):=by
 match i,h with
 |0,_=>show u+v - u=v;omega
 |1,_=>show u+v - v=u;omega
theorem SH(g:Nat)(r:List Nat)(h:∀i∈r,i<2):∀(u v:Nat) (dr:List Nat),rowUp ⟨[u,v],g,dr⟩ r=rising u g (r.count 0)*rising v g (r.count 1):=by
 induction r with
 |nil=>intro u v dr;rfl
 |cons i r ih=>
  intro u v dr;have ih:=ih fun j hj=>h j (List.mem_cons_of_mem _ hj)
  match i,h i List.mem_cons_self with
  |0,_=>
   show u*rowUp ⟨[u+g,v],g,dr++[0]⟩ r=_;rw[ih (u+g) v,<- Nat.mul_assoc,AU];simp
  |1,_=>
   show v*rowUp ⟨[u,v+g],g,dr++[1]⟩ r=_;rw[ih u (v+g),Nat.mul_left_comm,AU];simp
noncomputable def CL(g u v:Nat)(r:List Nat):Rat:=mkRat ((rising u g (r.count 0)*rising v g (r.count 1):Nat):Int) (rising (u+v) g r.length)
noncomputable def kX(g u v i n k:Nat):Nat:=Kp291.choose n k*(rising (lM u v i) g k*rising (lM u v (1 - i)) g (n - k))
noncomputable def mY(g u v i n k:Nat):Rat:=mkRat (((if n<k then 0 else kX g u v i n k):Nat):Int) (rising (u+v) g n)
theorem Et{g u v i:Nat}(hi:i<2)(n k:Nat):Kp294.justUp (U g u v) i n k=if n<k then 0 else kX g u v i n k:=by
 unfold Kp294.justUp kX;show(if n<k then 0 else Kp291.choose n k*(rising (([u,v]:List Nat).getD i 0) g k*rising (Kp294.all (U g u v) - ([u,v]:List Nat).getD i 0) g (n - k)))=_;rw[j8,Hb hi,Nd hi]
noncomputable def gF(g u v:Nat)(body:List Int):List Int:=if 5<g∨10<u∨10<v then[-22]else if u+v=0 then[-6]else body
theorem pq{t:Table}{g u v:Nat}{c:Kp294.Call}{A:Kp294.Ans}{body:List Int}(e:Kp294.step (some (U g u v)) c=if Kp294.all (U g u v)=0 then(some (U g u v),Kp294.say (-6))else(some (U g u v),A))(h:0<u+v->A.num::A.nums=body):
  bh (.urn g u v c) t=(t,gF g u v body):=by
 have e0:Kp296.step (some t) (.urn g u v c)=if 5<g∨10<u∨10<v then(some t,Kp296.say (-22))else(some t,⟨(Kp294.step (some (U g u v)) c).2.num,(Kp294.step (some (U g u v)) c).2.nums⟩):=rfl;unfold bh gF;rw[e0];by_cases h1:5<g∨10<u∨10<v
 ·rw[if_pos h1,if_pos h1];rfl
 rw[if_neg h1,if_neg h1,e,j8];by_cases h2:u+v=0
 ·rw[if_pos h2,if_pos h2];rfl
 rw[if_neg h2,if_neg h2,<- h (by omega)];rfl
theorem KD(g u v i:Nat):Kp294.is (U g u v) i=decide (i<2):=rfl
noncomputable def UU(g u v i:Nat):List Int:=gF g u v (if ¬i<2 then[-2]else cH (CL g u v [i]))
theorem Z4(t:Table)(g u v i:Nat):bh (.urn g u v (.chance i)) t=(t,UU g u v i):=by
 refine pq (A:=if Kp294.is (U g u v) i=false then Kp294.say (-2)else Kp294.tellFrac (nth (U g u v) i)) rfl fun hp=>?_;rw[KD];by_cases h:i<2
 ·rw[if_neg (show ¬decide (i<2)=false by rw[decide_eq_true h];simp),if_neg (fun q=>q h)];unfold nth CL;show([0,((frac _ _).1:Int),((frac _ _).2:Int)]:List Int)=_;rw[cn (by rw[j8];omega),j8];show cH (mkRat ((([u,v]:List Nat).getD i 0:Nat):Int) _)=_;rw[Hb h];have e1:rising (u+v) g [i].length=u+v:=by simp[rising]
  have e2:rising u g ([i].count 0)*rising v g ([i].count 1)=lM u v i:=by
   match i,h with
   |0,_=>simp[rising,lM]
   |1,_=>simp[rising,lM]
  rw[e1,e2]
 rw[if_pos (decide_eq_false h),if_pos h];rfl
noncomputable def a46(g u v n:Nat)(r:List Nat):List Int:=gF g u v (if 6<n∨¬(∀i∈r.take n,i<2)then[-22]else cH (CL g u v (r.take n)))
theorem Z5(t:Table)(g u v n a b c d e f:Nat):bh (.urn g u v (.row n a b c d e f)) t=(t,a46 g u v n [a,b,c,d,e,f]):=by
 refine pq (A:=if 6<n∨([a,b,c,d,e,f].take n).any (fun i=>!Kp294.is (U g u v) i)then Kp294.say (-22)else Kp294.tellFrac (Kp294.row (U g u v) ([a,b,c,d,e,f].take n))) rfl fun hp=>?_;generalize [a,b,c,d,e,f].take n=r;have e1:(r.any (fun i=>!Kp294.is (U g u v) i)=true)↔¬(∀i∈r,i<2):=by
  rw[List.any_eq_true];constructor
  ·rintro⟨i,h1,h2⟩ q;rw[KD,decide_eq_true (q i h1)]at h2;cases h2
  intro h;refine Classical.byContradiction fun q=>h fun i hi=>?_;refine Classical.byContradiction fun q2=>q ⟨i,hi,?_⟩;rw[KD,decide_eq_false q2];rfl
 by_cases h:6<n∨¬(∀i∈r,i<2)
 ·rw[if_pos h,if_pos (h.imp id e1.mpr)];rfl
 rw[if_neg h,if_neg (fun q=>h (q.imp id e1.mp))];have hr:∀i∈r,i<2:=Classical.byContradiction fun q=>h (.inr q);unfold Kp294.row CL;show([0,((frac _ _).1:Int),((frac _ _).2:Int)]:List Int)=_;rw[cn (by rw[j8];exact Nat.ne_of_gt (iS hp _ _)),j8,SH g r hr]
noncomputable def a47(g u v a b:Nat):List Int:=gF g u v (if 8<a+b then[-22]else cH (mY g u v 0 (a+b) a))
theorem Z6(t:Table)(g u v a b c d:Nat):bh (.urn g u v (.counts a b c d)) t=(t,a47 g u v a b):=by
 refine pq (A:=let l:=[a,b,c,d].take (U g u v).balls.length;if Kp294.DRAWS<Kp291.sum l then Kp294.say (-22)else Kp294.tellFrac (counts (U g u v) l)) rfl fun hp=>?_;have e1:[a,b,c,d].take (U g u v).balls.length=[a,b]:=rfl;have e2:Kp291.sum [a,b]=a+b:=by rw[bO];simp
 rw[e1];show(if Kp294.DRAWS<Kp291.sum [a,b]then Kp294.say (-22)else Kp294.tellFrac (counts (U g u v) [a,b])).num::(if Kp294.DRAWS<Kp291.sum [a,b]then Kp294.say (-22)else Kp294.tellFrac (counts (U g u v) [a,b])).nums=_;unfold Kp294.DRAWS;rw[e2];by_cases h:8<a+b
 ·rw[if_pos h,if_pos h];rfl
 rw[if_neg h,if_neg h];unfold counts mY;show([0,((frac _ _).1:Int),((frac _ _).2:Int)]:List Int)=_;rw[cn (by rw[j8];exact Nat.ne_of_gt (iS hp _ _)),j8,e2]
 congr 3
 rw[if_neg (by omega)];unfold Kp294.countsUp kX orders orders orders;rw[show a+Kp291.sum [b]=a+b by rw[bO];simp,show b+Kp291.sum []=b from rfl,HU b (by omega),show a+b - a=b by omega];have e3:((Kp294.nums (U g u v)).map fun i=>rising ((U g u v).balls.getD i 0) (U g u v).more (([a,b]:List Nat).getD i 0)).foldl (fun(a b:Nat)=>a*b) 1=1*rising u g a*rising v g b:=rfl;rw[e3];simp only[Nat.one_mul,Nat.mul_one];rfl
noncomputable def a48(g u v i n k:Nat):List Int:=gF g u v (if ¬i<2 then[-2]else if 8<n then[-22]else cH (mY g u v i n k))
theorem rO{g u v i n most:Nat}{A:Kp294.Ans}{body:List Int}(h:i<2->n<=most->A.num::A.nums=body):
  (if Kp294.is (U g u v) i=false then Kp294.say (-2)else if most<n then Kp294.say (-22)else A).num::(if Kp294.is (U g u v) i=false then Kp294.say (-2)else if most<n then Kp294.say (-22)else A).nums=if ¬i<2 then[-2]else if most<n then[-22]else body:=by
 rw[KD];by_cases h1:i<2
 ·rw[if_neg (show ¬decide (i<2)=false by rw[decide_eq_true h1];simp),if_neg (show ¬ ¬i<2 from fun q=>q h1)];by_cases h2:most<n
  ·rw[if_pos h2,if_pos h2];rfl
  rw[if_neg h2,if_neg h2];exact h h1 (by omega)
 rw[if_pos (decide_eq_false h1),if_pos h1];rfl
theorem Z7(t:Table)(g u v i n k:Nat):bh (.urn g u v (.just i n k)) t=(t,a48 g u v i n k):=by
 refine pq (A:=if Kp294.is (U g u v) i=false then Kp294.say (-2)else if Kp294.DRAWS<n then Kp294.say (-22)else Kp294.tellFrac (Kp294.just (U g u v) i n k)) rfl fun hp=>?_;refine rO (most:=8) fun h1 _=>?_;unfold Kp294.just mY;show([0,((frac _ _).1:Int),((frac _ _).2:Int)]:List Int)=_;rw[cn (by rw[j8];exact Nat.ne_of_gt (iS hp _ _)),j8,Et h1]
noncomputable def a49(g u v i n:Nat):List Int:=gF g u v (if ¬i<2 then[-2]else if 8<n then[-22]else((n+1:Nat):Int)::((List.range (n+1)).map (kX g u v i n)).map fun(x:Nat)=>(x:Int))
theorem Z8(t:Table)(g u v i n:Nat):bh (.urn g u v (.all i n)) t=(t,a49 g u v i n):=by
 refine pq (A:=if Kp294.is (U g u v) i=false then Kp294.say (-2)else if Kp294.DRAWS<n then Kp294.say (-22)else⟨(n+1:Nat),Kp294.ints ((List.range (n+1)).map (Kp294.justUp (U g u v) i n))⟩) rfl fun hp=>?_;refine rO (most:=8) fun h1 _=>?_;show((n+1:Nat):Int)::((List.range (n+1)).map (Kp294.justUp (U g u v) i n)).map (fun(x:Nat)=>(x:Int))=_
 congr 2
 apply List.map_congr_left;intro k hk;rw[List.mem_range]at hk;rw[Et h1,if_neg (by omega)]
noncomputable def UW(g u v i j:Nat):List Int:=gF g u v (if ¬(i<2/\j<2)then[-2]else cH (CL g u v [i,j]))
theorem Z9(t:Table)(g u v i j:Nat):bh (.urn g u v (.two i j)) t=(t,UW g u v i j):=by
 refine pq (A:=if Kp294.is (U g u v) i=false∨Kp294.is (U g u v) j=false then Kp294.say (-2)else Kp294.tellFrac (Kp294.two (U g u v) i j)) rfl fun hp=>?_;rw[KD,KD];by_cases h:i<2/\j<2
 ·rw[if_neg (show ¬(decide (i<2)=false∨decide (j<2)=false)by rw[decide_eq_true h.1,decide_eq_true h.2];simp),if_neg (fun q=>q h)];unfold Kp294.two CL;show([0,((frac _ _).1:Int),((frac _ _).2:Int)]:List Int)=_;rw[cn (by rw[j8];exact Nat.ne_of_gt (iS hp _ _)),j8];have e2:twoUp (U g u v) i j=rising u g ([i,j].count 0)*rising v g ([i,j].count 1):=by
   unfold twoUp
   match i,j,h with
   |0,0,_=>simp[rising]
   |0,1,_=>simp[rising]
   |1,0,_=>simp[rising,Nat.mul_comm]
   |1,1,_=>simp[rising]
  rw[e2];rfl
 rw[if_pos (show decide (i<2)=false∨decide (j<2)=false by simp only[decide_eq_false_iff_not];omega),if_pos h];rfl
noncomputable def a51(g u v i n:Nat):List Int:=gF g u v (if ¬i<2 then[-2]else if 1000<n then[-22]else cH (mkRat ((n*lM u v i:Nat):Int) (u+v)))
theorem aaa(t:Table)(g u v i n:Nat):bh (.urn g u v (.mean i n)) t=(t,a51 g u v i n):=by
 refine pq (A:=if Kp294.is (U g u v) i=false then Kp294.say (-2)else if 1000<n then Kp294.say (-22)else Kp294.tellFrac (Kp294.mean (U g u v) i n)) rfl fun hp=>?_;refine rO fun h1 _=>?_;unfold Kp294.mean;show([0,((frac _ _).1:Int),((frac _ _).2:Int)]:List Int)=_;rw[cn (by rw[j8];omega),j8];show cH (mkRat ((n*([u,v]:List Nat).getD i 0:Nat):Int) _)=_;rw[Hb h1]
noncomputable def a52(g u v i n:Nat):List Int:=gF g u v (if ¬i<2 then[-2]else if 1000<n then[-22]else cH (mkRat ((lM u v i*(u+v+g*n):Nat):Int) (u+v)))
theorem aab(t:Table)(g u v i n:Nat):bh (.urn g u v (.then_ i n)) t=(t,a52 g u v i n):=by
 refine pq (A:=if Kp294.is (U g u v) i=false then Kp294.say (-2)else if 1000<n then Kp294.say (-22)else Kp294.tellFrac (then_ (U g u v) i n)) rfl fun hp=>?_;refine rO fun h1 _=>?_;unfold then_;show([0,((frac _ _).1:Int),((frac _ _).2:Int)]:List Int)=_;rw[cn (by rw[j8];omega),j8];show cH (mkRat ((([u,v]:List Nat).getD i 0*(u+v+n*g):Nat):Int) _)=_;rw[Hb h1,Nat.mul_comm n g]
noncomputable def a53(g u v i n:Nat):List Int:=gF g u v (if ¬i<2 then[-2]else if 8<n then[-22]else[((cI (kX g u v i n) n:Nat):Int)])
theorem pZ{f h:Nat->Nat}{m:Nat}(e:∀k,k<=m->f k=h k):cI f m=cI h m:=by
 induction m with
 |zero=>
  unfold cI;simp[List.range_succ]
 |succ m ih=>
  have ih:=ih fun k hk=>e k (by omega);rw[rL,rL,ih,e (m+1) (Nat.le_refl _),e _ (by have:=(rM h m).1;omega)]
theorem aac(t:Table)(g u v i n:Nat):bh (.urn g u v (.likeliest i n)) t=(t,a53 g u v i n):=by
 refine pq (A:=if Kp294.is (U g u v) i=false then Kp294.say (-2)else if Kp294.DRAWS<n then Kp294.say (-22)else Kp294.say (Kp294.likeliest (U g u v) i n:Int)) rfl fun hp=>?_;refine rO (most:=8) fun h1 _=>?_;show[((cI (Kp294.justUp (U g u v) i n) n:Nat):Int)]=_;rw[pZ (h:=kX g u v i n) fun k hk=>by rw[Et h1,if_neg (by omega)]]
noncomputable def Nf(g u v n:Nat):Rat:=if n=0 then 1 else mkRat ((rising u g n+rising v g n:Nat):Int) (rising (u+v) g n)
noncomputable def a54(g u v n:Nat):List Int:=gF g u v (if 8<n then[-22]else cH (Nf g u v n))
theorem aad(t:Table)(g u v n:Nat):bh (.urn g u v (.one n)) t=(t,a54 g u v n):=by
 refine pq (A:=if Kp294.DRAWS<n then Kp294.say (-22)else Kp294.tellFrac (oneColour (U g u v) n)) rfl fun hp=>?_;unfold Kp294.DRAWS;by_cases h:8<n
 ·rw[if_pos h,if_pos h];rfl
 rw[if_neg h,if_neg h];unfold oneColour Nf;show([0,((frac _ _).1:Int),((frac _ _).2:Int)]:List Int)=_;rw[cn (by rw[j8];exact Nat.ne_of_gt (iS hp _ _)),j8];by_cases h0:n=0
 ·rw[if_pos h0,if_pos h0,mkRat_one (Nat.ne_of_gt (iS hp _ _))]
 rw[if_neg h0,if_neg h0];have e:Kp291.sum ((Kp294.nums (U g u v)).map fun i=>rising ((U g u v).balls.getD i 0) (U g u v).more n)=rising u g n+rising v g n:=by
  rw[bO];show rising u g n+(rising v g n+0)=_;rfl
 rw[e]
noncomputable def ip(m r n k:Nat):Nat:=Kp291.choose r k*Kp291.choose (m - r) (n - k)
noncomputable def px(m r n k:Nat):Rat:=mkRat (((if n<k then 0 else ip m r n k):Nat):Int) (Kp291.choose m n)
noncomputable def gx(m r:Nat)(body:List Int):List Int:=if m=0∨24<m∨m<r then[-22]else body
noncomputable abbrev D(m r:Nat):Kp295.Desk:=⟨⟨m,r,0,0⟩,[]⟩
theorem lY{t:Table}{m r:Nat}{c:Kp295.Call}{A:Kp295.Ans}{body:List Int}(e:Kp295.step (some (D m r)) c=(some (D m r),A))(h:0<m->m<=24->r<=m->A.num::A.nums=body):
  bh (.box m r c) t=(t,gx m r body):=by
 have e0:Kp296.step (some t) (.box m r c)=if m=0∨MOST<m∨m<r then(some t,Kp296.say (-22))else(some t,⟨(Kp295.step (some (D m r)) c).2.num,(Kp295.step (some (D m r)) c).2.nums⟩):=rfl;unfold bh gx;rw[e0];unfold MOST;by_cases h1:m=0∨24<m∨m<r
 ·rw[if_pos h1,if_pos h1];rfl
 rw[if_neg h1,if_neg h1,e,<- h (by omega) (by omega) (by omega)];rfl
theorem oC{m n:Nat}{A:Kp295.Ans}{body:List Int}(h:n<=m->A.num::A.nums=body):(if m<n then Kp295.say (-22)else A).num::(if m<n then Kp295.say (-22)else A).nums=if m<n then[-22]else body:=by
 by_cases h1:m<n
 ·rw[if_pos h1,if_pos h1];rfl
 rw[if_neg h1,if_neg h1];exact h (by omega)
theorem KG{m r n k:Nat}(hm:m<=24)(hn:n<=m):(Kp295.tellFrac (Kp295.just m r n k)).num::(Kp295.tellFrac (Kp295.just m r n k)).nums=cH (px m r n k):=by
 unfold Kp295.just;show([0,((frac _ _).1:Int),((frac _ _).2:Int)]:List Int)=_;rw[cn (Nat.ne_of_gt (jC hm hn))];rfl
noncomputable def a55(m r n k:Nat):List Int:=gx m r (if m<n then[-22]else cH (px m r n k))
theorem aae(t:Table)(m r n k:Nat):bh (.box m r (.just n k)) t=(t,a55 m r n k):=
 lY (A:=if m<n then Kp295.say (-22)else Kp295.tellFrac (Kp295.just m r n k)) rfl fun _ h2 _=>oC fun h=>KG h2 h
noncomputable def a56(m r n:Nat):List Int:=gx m r (if m<n then[-22]else((n+1:Nat):Int)::((List.range (n+1)).map (ip m r n)).map fun(x:Nat)=>(x:Int))
theorem zS{m r n k:Nat}(h:k<=n):Kp295.justUp m r n k=ip m r n k:=if_neg (by omega)
theorem aaf(t:Table)(m r n:Nat):bh (.box m r (.all n)) t=(t,a56 m r n):=by
 refine lY (A:=if m<n then Kp295.say (-22)else⟨(n+1:Nat),Kp295.ints ((List.range (n+1)).map (Kp295.justUp m r n))⟩) rfl fun _ _ _=>oC fun h=>?_;show((n+1:Nat):Int)::((List.range (n+1)).map (Kp295.justUp m r n)).map (fun(x:Nat)=>(x:Int))=_
 congr 2
 apply List.map_congr_left;intro k hk;rw[List.mem_range]at hk;exact zS (by omega)
noncomputable def a57(m r n:Nat):List Int:=gx m r (if m<n then[-22]else[((cI (ip m r n) n:Nat):Int)])
theorem aag(t:Table)(m r n:Nat):bh (.box m r (.likeliest n)) t=(t,a57 m r n):=by
 refine lY (A:=if m<n then Kp295.say (-22)else Kp295.say (Kp295.likeliest m r n:Int)) rfl fun _ _ _=>oC fun h=>?_;show[((cI (Kp295.justUp m r n) n:Nat):Int)]=_;rw[pZ (h:=ip m r n) fun k hk=>zS hk]
noncomputable def a58(m r n:Nat):List Int:=gx m r (if m<n then[-22]else cH (mkRat ((n*r:Nat):Int) m))
theorem aah(t:Table)(m r n:Nat):bh (.box m r (.mean n)) t=(t,a58 m r n):=by
 refine lY (A:=if m<n then Kp295.say (-22)else if m=0 then Kp295.say (-6)else Kp295.tellFrac (Kp295.mean m r n)) rfl fun h0 _ _=>oC fun h=>?_;rw[if_neg (by omega)];unfold Kp295.mean;show([0,((frac _ _).1:Int),((frac _ _).2:Int)]:List Int)=_;rw[cn (by omega)]
noncomputable def a59(m r n:Nat):List Int:=gx m r (if m<n then[-22]else if m<2 then[-6]else cH (mkRat ((n*r*(m - r)*(m - n):Nat):Int) (m*m*(m - 1))))
theorem aai(t:Table)(m r n:Nat):bh (.box m r (.spread n)) t=(t,a59 m r n):=by
 refine lY (A:=if m<n then Kp295.say (-22)else if m<2 then Kp295.say (-6)else Kp295.tellFrac (spread m r n)) rfl fun h0 _ _=>oC fun h=>?_;by_cases h2:m<2
 ·rw[if_pos h2,if_pos h2];rfl
 rw[if_neg h2,if_neg h2];unfold spread;show([0,((frac _ _).1:Int),((frac _ _).2:Int)]:List Int)=_;rw[cn (Nat.mul_ne_zero (Nat.mul_ne_zero (by omega) (by omega)) (by omega))];rfl
noncomputable def mZ(m r n k:Nat):Nat:=(((List.range (n+1)).map (ip m r n)).drop k).sum
noncomputable def zT(m r n k:Nat):Rat:=mkRat ((mZ m r n k:Nat):Int) (Kp291.choose m n)
theorem SI(f:Nat->Nat)(k:Nat):∀n,(((List.range n).map f).drop k).sum=((List.range n).map fun j=>if k<=j then f j else 0).sum:=by
 intro n
 induction n with
 |zero=>simp
 |succ n ih=>
  rw[List.range_succ,List.map_append,List.map_append,List.sum_append];by_cases h:k<=n
  ·rw[List.drop_append_of_le_length (by simp;exact h),List.sum_append,ih];simp[h]
  rw[List.drop_eq_nil_of_le (by simp;omega)];have:((List.range n).map fun j=>if k<=j then f j else 0).sum=0:=by
   rw[<- ih,List.drop_eq_nil_of_le (by simp;omega)];rfl
  rw[this];simp[h]
theorem KH(m r n k:Nat):atLeastUp m r n k=mZ m r n k:=by
 unfold atLeastUp mZ;rw[bO,SI]
 congr 1
 apply List.map_congr_left;intro j hj;rw[List.mem_range]at hj;split
 ·exact zS (by omega)
 rfl
noncomputable def a60(m r n k:Nat):List Int:=gx m r (if m<n then[-22]else cH (zT m r n k))
theorem aaj(t:Table)(m r n k:Nat):bh (.box m r (.atLeast n k)) t=(t,a60 m r n k):=by
 refine lY (A:=if m<n then Kp295.say (-22)else Kp295.tellFrac (atLeast m r n k)) rfl fun _ h2 _=>oC fun h=>?_;unfold atLeast;show([0,((frac _ _).1:Int),((frac _ _).2:Int)]:List Int)=_;rw[cn (Nat.ne_of_gt (jC h2 h)),KH];rfl
noncomputable def m3(m r k a c:Nat):Option Nat:=(List.range (m+1)).find? fun n=>decide (a*Kp291.choose m n<=c*mZ m r n k)
noncomputable def a61(m r k a c:Nat):List Int:=gx m r (if ¬(1<=c/\c<=1000)∨c<a then[-22]else match m3 m r k a c with
 |some n=>[(n:Int)]
 |none=>[-33])
theorem aak(t:Table)(m r k a c:Nat):bh (.box m r (.needed k a c)) t=(t,a61 m r k a c):=by
 refine lY (A:=if c=0∨1000<c∨c<a then Kp295.say (-22)else match Kp295.needed m r k a c with
     |some n=>Kp295.say (n:Int)
     |none=>Kp295.say (-33)) rfl fun _ h2 _=>?_
 have e:Kp295.needed m r k a c=m3 m r k a c:=by
  unfold Kp295.needed m3
  congr 1
  funext n;rw[KH]
 rw[e];by_cases h3:¬(1<=c/\c<=1000)∨c<a
 ·rw[if_pos h3,if_pos (by omega)];rfl
 rw[if_neg h3,if_neg (by omega)];cases m3 m r k a c <;> rfl
noncomputable def RH(m r k n:Nat):Rat:=mkRat ((Kp291.choose (n - 1) (k - 1)*Kp291.choose (m - n) (r - k):Nat):Int) (Kp291.choose m r)
noncomputable def a62(m r k n:Nat):List Int:=gx m r (if k=0∨r<k then[-33]else if ¬(1<=n/\n<=m)then[-22]else cH (RH m r k n))
theorem aal(t:Table)(m r k n:Nat):bh (.box m r (.kthAt k n)) t=(t,a62 m r k n):=by
 refine lY (A:=if k=0∨r<k then Kp295.say (-33)else if n=0∨m<n then Kp295.say (-22)else Kp295.tellFrac (kthAt m r k n)) rfl fun _ h2 h3=>?_;by_cases h4:k=0∨r<k
 ·rw[if_pos h4,if_pos h4];rfl
 rw[if_neg h4,if_neg h4];by_cases h5:¬(1<=n/\n<=m)
 ·rw[if_pos h5,if_pos (by omega)];rfl
 rw[if_neg h5,if_neg (by omega)];unfold kthAt RH;show([0,((frac _ _).1:Int),((frac _ _).2:Int)]:List Int)=_;rw[cn (Nat.ne_of_gt (jC h2 h3))]
 congr 3
 by_cases h6:k=0∨n<k
 ·rw[if_pos h6,AS (show n - 1<k - 1 by omega),Nat.zero_mul]
 rw[if_neg h6]
noncomputable def a63(m r k:Nat):List Int:=gx m r (if k=0∨r<k then[-33]else cH (mkRat ((k*(m+1):Nat):Int) (r+1)))
theorem aam(t:Table)(m r k:Nat):bh (.box m r (.kthMean k)) t=(t,a63 m r k):=by
 refine lY (A:=if k=0∨r<k then Kp295.say (-33)else Kp295.tellFrac (kthMean m r k)) rfl fun _ h2 h3=>?_;by_cases h4:k=0∨r<k
 ·rw[if_pos h4,if_pos h4];rfl
 rw[if_neg h4,if_neg h4];unfold kthMean;show([0,((frac _ _).1:Int),((frac _ _).2:Int)]:List Int)=_;rw[cn (by omega)]
noncomputable def a64(m r n k:Nat):List Int:=gx m r (if m<n then[-22]else cH (px m n r k))
theorem aan(t:Table)(m r n k:Nat):bh (.box m r (.swapped n k)) t=(t,a64 m r n k):=
 lY (A:=if m<n then Kp295.say (-22)else Kp295.tellFrac (Kp295.just m n r k)) rfl fun _ h2 h3=>oC fun h=>KG h2 h3
noncomputable def a65(m r n k:Nat):List Int:=gx m r (if m<n then[-22]else if n<k then[-22]else[((cI (fun r=>ip m r n k) m:Nat):Int)])
theorem aao(t:Table)(m r n k:Nat):bh (.box m r (.guess n k)) t=(t,a65 m r n k):=by
 refine lY (A:=if m<n∨n<k then Kp295.say (-22)else Kp295.say (Kp295.guess m n k:Int)) rfl fun _ h2 h3=>?_;by_cases h4:m<n
 ·rw[if_pos h4,if_pos (.inl h4)];rfl
 rw[if_neg h4];by_cases h5:n<k
 ·rw[if_pos h5,if_pos (.inr h5)];rfl
 rw[if_neg h5,if_neg (by omega)];show[((cI (fun r=>Kp295.justUp m r n k) m:Nat):Int)]=_;rw[pZ (h:=fun r=>ip m r n k) fun r _=>zS (by omega)]
noncomputable def a66(m r k:Nat):List Int:=gx m r (if r<k then[-33]else if k=0 then[0]else[((m - r+k:Nat):Int)])
theorem aap(t:Table)(m r k:Nat):bh (.box m r (.certain k)) t=(t,a66 m r k):=by
 refine lY (A:=if r<k then Kp295.say (-33)else Kp295.say ((if k=0 then 0 else m - r+k:Nat):Int)) rfl fun _ h2 h3=>?_;by_cases h4:r<k
 ·rw[if_pos h4,if_pos h4];rfl
 rw[if_neg h4,if_neg h4];by_cases h5:k=0
 ·rw[if_pos h5,if_pos h5];rfl
 rw[if_neg h5,if_neg h5];rfl
noncomputable def bL(n:Nat)(a:List Nat):Kp296.Call:=
 if n=1 then .kind (a.getD 0 0)else if n=2 then .got (a.getD 0 0) (a.getD 1 0)else if n=3 then .give (a.getD 0 0) (a.getD 1 0)else if n=4 then .swap (a.getD 0 0) (a.getD 1 0)else if n=5 then .packet (a.getD 0 0) (a.getD 1 0) (a.getD 2 0) (a.getD 3 0)
 else if n=6 then .mean (a.getD 0 0)else if n=7 then .meanBoth else if n=8 then .allBy (a.getD 0 0) (a.getD 1 0)else if n=9 then .half (a.getD 0 0)else if n=10 then .swaps else if n=11 then .fairest else if n=12 then .most
 else if n=13 then .sells (a.getD 0 0) (a.getD 1 0)else if n=14 then .worth (a.getD 0 0) (a.getD 1 0)else if n=15 then .lacking (a.getD 0 0)else if n=16 then .doubles (a.getD 0 0)else if n=17 then .ahead else if n=18 then .fresh (a.getD 0 0) (a.getD 1 0)
 else if n=19 then .bought else if n=20 then .told (a.getD 0 0)
 else if n=21 then .alike (.different (a.getD 0 0))else if n=22 then .alike (.alike (a.getD 0 0))else if n=23 then .alike (.pairs (a.getD 0 0))else if n=24 then .alike .half else if n=25 then .alike (.first (a.getD 0 0))else if n=26 then .alike .mean
 else if n=27 then .alike (.even (a.getD 0 0))else if n=28 then .alike (.three (a.getD 0 0))else if n=29 then .alike (.products (a.getD 0 0))else if n=30 then .alike .squares else if n=31 then .alike (.with_ (a.getD 0 0) (a.getD 1 0))else if n=32 then .alike (.chance (a.getD 0 0))
 else if n=33 then .alike (.would (a.getD 0 0) (a.getD 1 0) (a.getD 2 0))
 else if n=34 then .many (.chance (a.getD 0 0) (a.getD 1 0))else if n=35 then .many (.all (a.getD 0 0))else if n=36 then .many (.mean (a.getD 0 0))else if n=37 then .many (.adds (a.getD 0 0))else if n=38 then .many (.likeliest (a.getD 0 0))else if n=39 then .many (.seen (a.getD 0 0) (a.getD 1 0))
 else if n=40 then .many (.even (a.getD 0 0))else if n=41 then .many (.both (a.getD 0 0) (a.getD 1 0) (a.getD 2 0))else if n=42 then .many (.needed (a.getD 0 0) (a.getD 1 0))else if n=43 then .many (.would (a.getD 0 0) (a.getD 1 0) (a.getD 2 0))else if n=44 then .many (.most (a.getD 0 0))
 else if n=45 then .urn (a.getD 0 0) (a.getD 1 0) (a.getD 2 0) (.chance (a.getD 3 0))else if n=46 then .urn (a.getD 0 0) (a.getD 1 0) (a.getD 2 0) (.row (a.getD 3 0) (a.getD 4 0) (a.getD 5 0) (a.getD 6 0) (a.getD 7 0) (a.getD 8 0) (a.getD 9 0))
 else if n=47 then .urn (a.getD 0 0) (a.getD 1 0) (a.getD 2 0) (.counts (a.getD 3 0) (a.getD 4 0) (a.getD 5 0) (a.getD 6 0))else if n=48 then .urn (a.getD 0 0) (a.getD 1 0) (a.getD 2 0) (.just (a.getD 3 0) (a.getD 4 0) (a.getD 5 0))
 else if n=49 then .urn (a.getD 0 0) (a.getD 1 0) (a.getD 2 0) (.all (a.getD 3 0) (a.getD 4 0))else if n=50 then .urn (a.getD 0 0) (a.getD 1 0) (a.getD 2 0) (.two (a.getD 3 0) (a.getD 4 0))else if n=51 then .urn (a.getD 0 0) (a.getD 1 0) (a.getD 2 0) (.mean (a.getD 3 0) (a.getD 4 0))
 else if n=52 then .urn (a.getD 0 0) (a.getD 1 0) (a.getD 2 0) (.then_ (a.getD 3 0) (a.getD 4 0))else if n=53 then .urn (a.getD 0 0) (a.getD 1 0) (a.getD 2 0) (.likeliest (a.getD 3 0) (a.getD 4 0))else if n=54 then .urn (a.getD 0 0) (a.getD 1 0) (a.getD 2 0) (.one (a.getD 3 0))
 else if n=55 then .box (a.getD 0 0) (a.getD 1 0) (.just (a.getD 2 0) (a.getD 3 0))else if n=56 then .box (a.getD 0 0) (a.getD 1 0) (.all (a.getD 2 0))else if n=57 then .box (a.getD 0 0) (a.getD 1 0) (.likeliest (a.getD 2 0))else if n=58 then .box (a.getD 0 0) (a.getD 1 0) (.mean (a.getD 2 0))
 else if n=59 then .box (a.getD 0 0) (a.getD 1 0) (.spread (a.getD 2 0))else if n=60 then .box (a.getD 0 0) (a.getD 1 0) (.atLeast (a.getD 2 0) (a.getD 3 0))else if n=61 then .box (a.getD 0 0) (a.getD 1 0) (.needed (a.getD 2 0) (a.getD 3 0) (a.getD 4 0))else if n=62 then .box (a.getD 0 0) (a.getD 1 0) (.kthAt (a.getD 2 0) (a.getD 3 0))
 else if n=63 then .box (a.getD 0 0) (a.getD 1 0) (.kthMean (a.getD 2 0))else if n=64 then .box (a.getD 0 0) (a.getD 1 0) (.swapped (a.getD 2 0) (a.getD 3 0))else if n=65 then .box (a.getD 0 0) (a.getD 1 0) (.guess (a.getD 2 0) (a.getD 3 0))else if n=66 then .box (a.getD 0 0) (a.getD 1 0) (.certain (a.getD 2 0))
 else .begin_
noncomputable def arity:List Nat:=[0,1,2,2,2,4,1,0,2,1,0,0,0,2,2,1,1,0,2,0,1,1,1,1,0,1,0,1,1,1,0,2,1,3,2,1,1,1,1,2,1,3,2,3,1,4,10,7,6,5,5,5,5,5,4,4,3,3,3,3,4,5,4,3,4,4,3]
noncomputable def oE(n:Nat)(t:Table)(a:List Nat):Table×List Int:=bh (bL n a) t
noncomputable def vI(l:List Nat):List Int:=l.map fun(n:Nat)=>(n:Int)
theorem jJ{l:List Nat}(h:l.length=0):l=[]:=by
 match l,h with
 |[],_=>exact rfl
theorem dY{l:List Nat}(h:l.length=1):∃a:Nat,l=[a]:=by
 match l,h with
 |[a],_=>exact⟨a,rfl⟩
theorem iO{l:List Nat}(h:l.length=2):∃a b:Nat,l=[a,b]:=by
 match l,h with
 |[a,b],_=>exact⟨a,b,rfl⟩
theorem iq{l:List Nat}(h:l.length=3):∃a b c:Nat,l=[a,b,c]:=by
 match l,h with
 |[a,b,c],_=>exact⟨a,b,c,rfl⟩
theorem iF{l:List Nat}(h:l.length=4):∃a b c d:Nat,l=[a,b,c,d]:=by
 match l,h with
 |[a,b,c,d],_=>exact⟨a,b,c,d,rfl⟩
theorem j9{l:List Nat}(h:l.length=5):∃a b c d e:Nat,l=[a,b,c,d,e]:=by
 match l,h with
 |[a,b,c,d,e],_=>exact⟨a,b,c,d,e,rfl⟩
theorem O3{l:List Nat}(h:l.length=6):∃a b c d e f:Nat,l=[a,b,c,d,e,f]:=by
 match l,h with
 |[a,b,c,d,e,f],_=>exact⟨a,b,c,d,e,f,rfl⟩
theorem O4{l:List Nat}(h:l.length=7):∃a b c d e f g:Nat,l=[a,b,c,d,e,f,g]:=by
 match l,h with
 |[a,b,c,d,e,f,g],_=>exact⟨a,b,c,d,e,f,g,rfl⟩
theorem Lp{l:List Nat}(h:l.length=10):∃a b c d e f g h i j:Nat,l=[a,b,c,d,e,f,g,h,i,j]:=by
 match l,h with
 |[a,b,c,d,e,f,g,h,i,j],_=>exact⟨a,b,c,d,e,f,g,h,i,j,rfl⟩
theorem SJ{l:List Nat}(h:l.length=0):callOf (PyKp296.whole [0::vI l])=some (bL 0 l):=by
 obtain rfl:=jJ h;rfl
theorem SK{l:List Nat}(h:l.length=1):callOf (PyKp296.whole [1::vI l])=some (bL 1 l):=by
 obtain⟨a,rfl⟩:=dY h;rfl
theorem SM{l:List Nat}(h:l.length=2):callOf (PyKp296.whole [2::vI l])=some (bL 2 l):=by
 obtain⟨a,b,rfl⟩:=iO h;rfl
theorem SN{l:List Nat}(h:l.length=2):callOf (PyKp296.whole [3::vI l])=some (bL 3 l):=by
 obtain⟨a,b,rfl⟩:=iO h;rfl
theorem SO{l:List Nat}(h:l.length=2):callOf (PyKp296.whole [4::vI l])=some (bL 4 l):=by
 obtain⟨a,b,rfl⟩:=iO h;rfl
theorem SQ{l:List Nat}(h:l.length=4):callOf (PyKp296.whole [5::vI l])=some (bL 5 l):=by
 obtain⟨a,b,c,d,rfl⟩:=iF h;rfl
theorem SR{l:List Nat}(h:l.length=1):callOf (PyKp296.whole [6::vI l])=some (bL 6 l):=by
 obtain⟨a,rfl⟩:=dY h;rfl
theorem SS{l:List Nat}(h:l.length=0):callOf (PyKp296.whole [7::vI l])=some (bL 7 l):=by
 obtain rfl:=jJ h;rfl
theorem SU{l:List Nat}(h:l.length=2):callOf (PyKp296.whole [8::vI l])=some (bL 8 l):=by
 obtain⟨a,b,rfl⟩:=iO h;rfl
theorem SV{l:List Nat}(h:l.length=1):callOf (PyKp296.whole [9::vI l])=some (bL 9 l):=by
 obtain⟨a,rfl⟩:=dY h;rfl
theorem O5{l:List Nat}(h:l.length=0):callOf (PyKp296.whole [10::vI l])=some (bL 10 l):=by
 obtain rfl:=jJ h;rfl
theorem O6{l:List Nat}(h:l.length=0):callOf (PyKp296.whole [11::vI l])=some (bL 11 l):=by
 obtain rfl:=jJ h;rfl
theorem O7{l:List Nat}(h:l.length=0):callOf (PyKp296.whole [12::vI l])=some (bL 12 l):=by
 obtain rfl:=jJ h;rfl
theorem O8{l:List Nat}(h:l.length=2):callOf (PyKp296.whole [13::vI l])=some (bL 13 l):=by
 obtain⟨a,b,rfl⟩:=iO h;rfl
theorem O9{l:List Nat}(h:l.length=2):callOf (PyKp296.whole [14::vI l])=some (bL 14 l):=by
 obtain⟨a,b,rfl⟩:=iO h;rfl
theorem Pa{l:List Nat}(h:l.length=1):callOf (PyKp296.whole [15::vI l])=some (bL 15 l):=by
 obtain⟨a,rfl⟩:=dY h;rfl
theorem Pb{l:List Nat}(h:l.length=1):callOf (PyKp296.whole [16::vI l])=some (bL 16 l):=by
 obtain⟨a,rfl⟩:=dY h;rfl
theorem Pc{l:List Nat}(h:l.length=0):callOf (PyKp296.whole [17::vI l])=some (bL 17 l):=by
 obtain rfl:=jJ h;rfl
theorem Pd{l:List Nat}(h:l.length=2):callOf (PyKp296.whole [18::vI l])=some (bL 18 l):=by
 obtain⟨a,b,rfl⟩:=iO h;rfl
theorem Pe{l:List Nat}(h:l.length=0):callOf (PyKp296.whole [19::vI l])=some (bL 19 l):=by
 obtain rfl:=jJ h;rfl
theorem Pf{l:List Nat}(h:l.length=1):callOf (PyKp296.whole [20::vI l])=some (bL 20 l):=by
 obtain⟨a,rfl⟩:=dY h;rfl
theorem Pg{l:List Nat}(h:l.length=1):callOf (PyKp296.whole [21::vI l])=some (bL 21 l):=by
 obtain⟨a,rfl⟩:=dY h;rfl
theorem Ph{l:List Nat}(h:l.length=1):callOf (PyKp296.whole [22::vI l])=some (bL 22 l):=by
 obtain⟨a,rfl⟩:=dY h;rfl
theorem Pj{l:List Nat}(h:l.length=1):callOf (PyKp296.whole [23::vI l])=some (bL 23 l):=by
 obtain⟨a,rfl⟩:=dY h;rfl
theorem Pk{l:List Nat}(h:l.length=0):callOf (PyKp296.whole [24::vI l])=some (bL 24 l):=by
 obtain rfl:=jJ h;rfl
theorem Pl{l:List Nat}(h:l.length=1):callOf (PyKp296.whole [25::vI l])=some (bL 25 l):=by
 obtain⟨a,rfl⟩:=dY h;rfl
theorem Pn{l:List Nat}(h:l.length=0):callOf (PyKp296.whole [26::vI l])=some (bL 26 l):=by
 obtain rfl:=jJ h;rfl
theorem Po{l:List Nat}(h:l.length=1):callOf (PyKp296.whole [27::vI l])=some (bL 27 l):=by
 obtain⟨a,rfl⟩:=dY h;rfl
theorem Pp{l:List Nat}(h:l.length=1):callOf (PyKp296.whole [28::vI l])=some (bL 28 l):=by
 obtain⟨a,rfl⟩:=dY h;rfl
theorem Pq{l:List Nat}(h:l.length=1):callOf (PyKp296.whole [29::vI l])=some (bL 29 l):=by
 obtain⟨a,rfl⟩:=dY h;rfl
theorem Pr{l:List Nat}(h:l.length=0):callOf (PyKp296.whole [30::vI l])=some (bL 30 l):=by
 obtain rfl:=jJ h;rfl
theorem Pu{l:List Nat}(h:l.length=2):callOf (PyKp296.whole [31::vI l])=some (bL 31 l):=by
 obtain⟨a,b,rfl⟩:=iO h;rfl
theorem Pw{l:List Nat}(h:l.length=1):callOf (PyKp296.whole [32::vI l])=some (bL 32 l):=by
 obtain⟨a,rfl⟩:=dY h;rfl
theorem Px{l:List Nat}(h:l.length=3):callOf (PyKp296.whole [33::vI l])=some (bL 33 l):=by
 obtain⟨a,b,c,rfl⟩:=iq h;rfl
theorem Py{l:List Nat}(h:l.length=2):callOf (PyKp296.whole [34::vI l])=some (bL 34 l):=by
 obtain⟨a,b,rfl⟩:=iO h;rfl
theorem Pz{l:List Nat}(h:l.length=1):callOf (PyKp296.whole [35::vI l])=some (bL 35 l):=by
 obtain⟨a,rfl⟩:=dY h;rfl
theorem PB{l:List Nat}(h:l.length=1):callOf (PyKp296.whole [36::vI l])=some (bL 36 l):=by
 obtain⟨a,rfl⟩:=dY h;rfl
theorem PD{l:List Nat}(h:l.length=1):callOf (PyKp296.whole [37::vI l])=some (bL 37 l):=by
 obtain⟨a,rfl⟩:=dY h;rfl
theorem PF{l:List Nat}(h:l.length=1):callOf (PyKp296.whole [38::vI l])=some (bL 38 l):=by
 obtain⟨a,rfl⟩:=dY h;rfl
theorem PH{l:List Nat}(h:l.length=2):callOf (PyKp296.whole [39::vI l])=some (bL 39 l):=by
 obtain⟨a,b,rfl⟩:=iO h;rfl
theorem PJ{l:List Nat}(h:l.length=1):callOf (PyKp296.whole [40::vI l])=some (bL 40 l):=by
 obtain⟨a,rfl⟩:=dY h;rfl
theorem PK{l:List Nat}(h:l.length=3):callOf (PyKp296.whole [41::vI l])=some (bL 41 l):=by
 obtain⟨a,b,c,rfl⟩:=iq h;rfl
theorem PL{l:List Nat}(h:l.length=2):callOf (PyKp296.whole [42::vI l])=some (bL 42 l):=by
 obtain⟨a,b,rfl⟩:=iO h;rfl
theorem PM{l:List Nat}(h:l.length=3):callOf (PyKp296.whole [43::vI l])=some (bL 43 l):=by
 obtain⟨a,b,c,rfl⟩:=iq h;rfl
theorem PN{l:List Nat}(h:l.length=1):callOf (PyKp296.whole [44::vI l])=some (bL 44 l):=by
 obtain⟨a,rfl⟩:=dY h;rfl
theorem PQ{l:List Nat}(h:l.length=4):callOf (PyKp296.whole [45::vI l])=some (bL 45 l):=by
 obtain⟨a,b,c,d,rfl⟩:=iF h;rfl
theorem PR{l:List Nat}(h:l.length=10):callOf (PyKp296.whole [46::vI l])=some (bL 46 l):=by
 obtain⟨a,b,c,d,e,f,g,h,i,j,rfl⟩:=Lp h;rfl
theorem PU{l:List Nat}(h:l.length=7):callOf (PyKp296.whole [47::vI l])=some (bL 47 l):=by
 obtain⟨a,b,c,d,e,f,g,rfl⟩:=O4 h;rfl
theorem PV{l:List Nat}(h:l.length=6):callOf (PyKp296.whole [48::vI l])=some (bL 48 l):=by
 obtain⟨a,b,c,d,e,f,rfl⟩:=O3 h;rfl
theorem PX{l:List Nat}(h:l.length=5):callOf (PyKp296.whole [49::vI l])=some (bL 49 l):=by
 obtain⟨a,b,c,d,e,rfl⟩:=j9 h;rfl
theorem PY{l:List Nat}(h:l.length=5):callOf (PyKp296.whole [50::vI l])=some (bL 50 l):=by
 obtain⟨a,b,c,d,e,rfl⟩:=j9 h;rfl
theorem PZ{l:List Nat}(h:l.length=5):callOf (PyKp296.whole [51::vI l])=some (bL 51 l):=by
 obtain⟨a,b,c,d,e,rfl⟩:=j9 h;rfl
theorem P0{l:List Nat}(h:l.length=5):callOf (PyKp296.whole [52::vI l])=some (bL 52 l):=by
 obtain⟨a,b,c,d,e,rfl⟩:=j9 h;rfl
theorem P1{l:List Nat}(h:l.length=5):callOf (PyKp296.whole [53::vI l])=some (bL 53 l):=by
 obtain⟨a,b,c,d,e,rfl⟩:=j9 h;rfl
theorem P2{l:List Nat}(h:l.length=4):callOf (PyKp296.whole [54::vI l])=some (bL 54 l):=by
 obtain⟨a,b,c,d,rfl⟩:=iF h;rfl
theorem P4{l:List Nat}(h:l.length=4):callOf (PyKp296.whole [55::vI l])=some (bL 55 l):=by
 obtain⟨a,b,c,d,rfl⟩:=iF h;rfl
theorem P5{l:List Nat}(h:l.length=3):callOf (PyKp296.whole [56::vI l])=some (bL 56 l):=by
 obtain⟨a,b,c,rfl⟩:=iq h;rfl
theorem P6{l:List Nat}(h:l.length=3):callOf (PyKp296.whole [57::vI l])=some (bL 57 l):=by
 obtain⟨a,b,c,rfl⟩:=iq h;rfl
theorem P7{l:List Nat}(h:l.length=3):callOf (PyKp296.whole [58::vI l])=some (bL 58 l):=by
 obtain⟨a,b,c,rfl⟩:=iq h;rfl
theorem P8{l:List Nat}(h:l.length=3):callOf (PyKp296.whole [59::vI l])=some (bL 59 l):=by
 obtain⟨a,b,c,rfl⟩:=iq h;rfl
theorem P9{l:List Nat}(h:l.length=4):callOf (PyKp296.whole [60::vI l])=some (bL 60 l):=by
 obtain⟨a,b,c,d,rfl⟩:=iF h;rfl
theorem Qa{l:List Nat}(h:l.length=5):callOf (PyKp296.whole [61::vI l])=some (bL 61 l):=by
 obtain⟨a,b,c,d,e,rfl⟩:=j9 h;rfl
theorem Qb{l:List Nat}(h:l.length=4):callOf (PyKp296.whole [62::vI l])=some (bL 62 l):=by
 obtain⟨a,b,c,d,rfl⟩:=iF h;rfl
theorem Qc{l:List Nat}(h:l.length=3):callOf (PyKp296.whole [63::vI l])=some (bL 63 l):=by
 obtain⟨a,b,c,rfl⟩:=iq h;rfl
theorem Qd{l:List Nat}(h:l.length=4):callOf (PyKp296.whole [64::vI l])=some (bL 64 l):=by
 obtain⟨a,b,c,d,rfl⟩:=iF h;rfl
theorem Qe{l:List Nat}(h:l.length=4):callOf (PyKp296.whole [65::vI l])=some (bL 65 l):=by
 obtain⟨a,b,c,d,rfl⟩:=iF h;rfl
theorem Qg{l:List Nat}(h:l.length=3):callOf (PyKp296.whole [66::vI l])=some (bL 66 l):=by
 obtain⟨a,b,c,rfl⟩:=iq h;rfl
theorem Qh:∀(m:Nat) (l:List Nat),m<=66->l.length=arity.getD m 0->callOf (PyKp296.whole [(m:Int)::vI l])=some (bL m l)
 |0,l,_,h=>SJ h
 |1,l,_,h=>SK h
 |2,l,_,h=>SM h
 |3,l,_,h=>SN h
 |4,l,_,h=>SO h
 |5,l,_,h=>SQ h
 |6,l,_,h=>SR h
 |7,l,_,h=>SS h
 |8,l,_,h=>SU h
 |9,l,_,h=>SV h
 |10,l,_,h=>O5 h
 |11,l,_,h=>O6 h
 |12,l,_,h=>O7 h
 |13,l,_,h=>O8 h
 |14,l,_,h=>O9 h
 |15,l,_,h=>Pa h
 |16,l,_,h=>Pb h
 |17,l,_,h=>Pc h
 |18,l,_,h=>Pd h
 |19,l,_,h=>Pe h
 |20,l,_,h=>Pf h
 |21,l,_,h=>Pg h
 |22,l,_,h=>Ph h
 |23,l,_,h=>Pj h
 |24,l,_,h=>Pk h
 |25,l,_,h=>Pl h
 |26,l,_,h=>Pn h
 |27,l,_,h=>Po h
 |28,l,_,h=>Pp h
 |29,l,_,h=>Pq h
 |30,l,_,h=>Pr h
 |31,l,_,h=>Pu h
 |32,l,_,h=>Pw h
 |33,l,_,h=>Px h
 |34,l,_,h=>Py h
 |35,l,_,h=>Pz h
 |36,l,_,h=>PB h
 |37,l,_,h=>PD h
 |38,l,_,h=>PF h
 |39,l,_,h=>PH h
 |40,l,_,h=>PJ h
 |41,l,_,h=>PK h
 |42,l,_,h=>PL h
 |43,l,_,h=>PM h
 |44,l,_,h=>PN h
 |45,l,_,h=>PQ h
 |46,l,_,h=>PR h
 |47,l,_,h=>PU h
 |48,l,_,h=>PV h
 |49,l,_,h=>PX h
 |50,l,_,h=>PY h
 |51,l,_,h=>PZ h
 |52,l,_,h=>P0 h
 |53,l,_,h=>P1 h
 |54,l,_,h=>P2 h
 |55,l,_,h=>P4 h
 |56,l,_,h=>P5 h
 |57,l,_,h=>P6 h
 |58,l,_,h=>P7 h
 |59,l,_,h=>P8 h
 |60,l,_,h=>P9 h
 |61,l,_,h=>Qa h
 |62,l,_,h=>Qb h
 |63,l,_,h=>Qc h
 |64,l,_,h=>Qd h
 |65,l,_,h=>Qe h
 |66,l,_,h=>Qg h
 |n+67,_,h,_=>absurd h (by omega)
theorem SW:∀m,m<67->shape ((m:Nat):Int)=some (arity.getD m 0,0):=by decide +kernel
theorem Ng{p:Int}(h:¬(0<=p/\p<=66)):shape p=none:=by
 unfold shape;rw[if_neg (show ¬p=0 by omega)];rw[if_neg (show ¬p=1 by omega)];rw[if_neg (show ¬p=2 by omega)];rw[if_neg (show ¬p=3 by omega)];rw[if_neg (show ¬p=4 by omega)];rw[if_neg (show ¬p=5 by omega)];rw[if_neg (show ¬p=6 by omega)];rw[if_neg (show ¬p=7 by omega)];rw[if_neg (show ¬p=8 by omega)];rw[if_neg (show ¬p=9 by omega)];rw[if_neg (show ¬p=10 by omega)];rw[if_neg (show ¬p=11 by omega)];rw[if_neg (show ¬p=12 by omega)];rw[if_neg (show ¬p=13 by omega)];rw[if_neg (show ¬p=14 by omega)];rw[if_neg (show ¬p=15 by omega)];rw[if_neg (show ¬p=16 by omega)];rw[if_neg (show ¬p=17 by omega)];rw[if_neg (show ¬p=18 by omega)];rw[if_neg (show ¬p=19 by omega)];rw[if_neg (show ¬p=20 by omega)];rw[if_neg (show ¬p=21 by omega)];rw[if_neg (show ¬p=22 by omega)];rw[if_neg (show ¬p=23 by omega)];rw[if_neg (show ¬p=24 by omega)];rw[if_neg (show ¬p=25 by omega)];rw[if_neg (show ¬p=26 by omega)];rw[if_neg (show ¬p=27 by omega)];rw[if_neg (show ¬p=28 by omega)];rw[if_neg (show ¬p=29 by omega)];rw[if_neg (show ¬p=30 by omega)];rw[if_neg (show ¬p=31 by omega)];rw[if_neg (show ¬p=32 by omega)];rw[if_neg (show ¬p=33 by omega)];rw[if_neg (show ¬p=34 by omega)];rw[if_neg (show ¬p=35 by omega)];rw[if_neg (show ¬p=36 by omega)];rw[if_neg (show ¬p=37 by omega)];rw[if_neg (show ¬p=38 by omega)];rw[if_neg (show ¬p=39 by omega)];rw[if_neg (show ¬p=40 by omega)];rw[if_neg (show ¬p=41 by omega)];rw[if_neg (show ¬p=42 by omega)];rw[if_neg (show ¬p=43 by omega)];rw[if_neg (show ¬p=44 by omega)];rw[if_neg (show ¬p=45 by omega)];rw[if_neg (show ¬p=46 by omega)];rw[if_neg (show ¬p=47 by omega)];rw[if_neg (show ¬p=48 by omega)];rw[if_neg (show ¬p=49 by omega)];rw[if_neg (show ¬p=50 by omega)];rw[if_neg (show ¬p=51 by omega)];rw[if_neg (show ¬p=52 by omega)];rw[if_neg (show ¬p=53 by omega)];rw[if_neg (show ¬p=54 by omega)];rw[if_neg (show ¬p=55 by omega)];rw[if_neg (show ¬p=56 by omega)];rw[if_neg (show ¬p=57 by omega)];rw[if_neg (show ¬p=58 by omega)];rw[if_neg (show ¬p=59 by omega)];rw[if_neg (show ¬p=60 by omega)];rw[if_neg (show ¬p=61 by omega)];rw[if_neg (show ¬p=62 by omega)];rw[if_neg (show ¬p=63 by omega)];rw[if_neg (show ¬p=64 by omega)];rw[if_neg (show ¬p=65 by omega)];rw[if_neg (show ¬p=66 by omega)]
theorem Nh{p:Int}{z:Nat×Nat}(h:shape p=some z):∃m:Nat,p=(m:Int)/\m<=66/\z=(arity.getD m 0,0):=by
 by_cases q:0<=p/\p<=66
 ·refine⟨p.toNat,by omega,by omega,?_⟩;have e:=SW p.toNat (by omega);rw[show((p.toNat:Nat):Int)=p by omega,h]at e;exact Option.some.inj e
 rw[Ng q]at h;cases h
noncomputable def ma(st:State)(m:Nat)(l:List Nat):State×List Int:=if m=0 then(some ⟨[],[],[],0⟩,[0])else match st with
 |none=>(none,[-11])
 |some t=>(some (oE m t l).1,(oE m t l).2)
theorem Qi(t:Table)(c:Kp296.Call)(hc:c≠ .begin_):(Kp296.step (some t) c).1=some ((Kp296.step (some t) c).1.getD t):=by
 cases c <;> first|exact absurd rfl hc|rfl|(unfold Kp296.step;simp only[];(repeat' split) <;> rfl)
theorem Qj(c:Kp296.Call)(hc:c≠ .begin_):Kp296.step none c=(none,Kp296.say (-11)):=by
 cases c <;> first|exact absurd rfl hc|rfl
theorem SX{m:Nat}(h0:m≠0)(h:m<=66)(l:List Nat):bL m l≠ .begin_:=by
 match m,h0,h with
 |1,_,_=>intro q;cases q
 |2,_,_=>intro q;cases q
 |3,_,_=>intro q;cases q
 |4,_,_=>intro q;cases q
 |5,_,_=>intro q;cases q
 |6,_,_=>intro q;cases q
 |7,_,_=>intro q;cases q
 |8,_,_=>intro q;cases q
 |9,_,_=>intro q;cases q
 |10,_,_=>intro q;cases q
 |11,_,_=>intro q;cases q
 |12,_,_=>intro q;cases q
 |13,_,_=>intro q;cases q
 |14,_,_=>intro q;cases q
 |15,_,_=>intro q;cases q
 |16,_,_=>intro q;cases q
 |17,_,_=>intro q;cases q
 |18,_,_=>intro q;cases q
 |19,_,_=>intro q;cases q
 |20,_,_=>intro q;cases q
 |21,_,_=>intro q;cases q
 |22,_,_=>intro q;cases q
 |23,_,_=>intro q;cases q
 |24,_,_=>intro q;cases q
 |25,_,_=>intro q;cases q
 |26,_,_=>intro q;cases q
 |27,_,_=>intro q;cases q
 |28,_,_=>intro q;cases q
 |29,_,_=>intro q;cases q
 |30,_,_=>intro q;cases q
 |31,_,_=>intro q;cases q
 |32,_,_=>intro q;cases q
 |33,_,_=>intro q;cases q
 |34,_,_=>intro q;cases q
 |35,_,_=>intro q;cases q
 |36,_,_=>intro q;cases q
 |37,_,_=>intro q;cases q
 |38,_,_=>intro q;cases q
 |39,_,_=>intro q;cases q
 |40,_,_=>intro q;cases q
 |41,_,_=>intro q;cases q
 |42,_,_=>intro q;cases q
 |43,_,_=>intro q;cases q
 |44,_,_=>intro q;cases q
 |45,_,_=>intro q;cases q
 |46,_,_=>intro q;cases q
 |47,_,_=>intro q;cases q
 |48,_,_=>intro q;cases q
 |49,_,_=>intro q;cases q
 |50,_,_=>intro q;cases q
 |51,_,_=>intro q;cases q
 |52,_,_=>intro q;cases q
 |53,_,_=>intro q;cases q
 |54,_,_=>intro q;cases q
 |55,_,_=>intro q;cases q
 |56,_,_=>intro q;cases q
 |57,_,_=>intro q;cases q
 |58,_,_=>intro q;cases q
 |59,_,_=>intro q;cases q
 |60,_,_=>intro q;cases q
 |61,_,_=>intro q;cases q
 |62,_,_=>intro q;cases q
 |63,_,_=>intro q;cases q
 |64,_,_=>intro q;cases q
 |65,_,_=>intro q;cases q
 |66,_,_=>intro q;cases q
 |0,h0,_=>exact absurd rfl h0
 |n+67,_,h=>omega
theorem JQ(st:State){m:Nat}{l:List Nat}(hm:m<=66)(hl:l.length=arity.getD m 0):Kp296Neutral.step st (PyKp296.whole [(m:Int)::vI l])=ma st m l:=by
 unfold Kp296Neutral.step;rw[Qh m l hm hl];unfold ma;by_cases h0:m=0
 ·subst h0;rw[if_pos rfl];rfl
 rw[if_neg h0];have hc:=SX h0 hm l;cases st with
 |none=>simp only[Qj _ hc];rfl
 |some t=>
  show((Kp296.step (some t) (bL m l)).1,_)=(some _,_);rw[Qi t _ hc];rfl
noncomputable def uD:Nat->State->List Nat->List Int
 |0,_,_=>[]
 |_,_,[]=>[]
 |f+1,st,m::r=>let x:=ma st m (r.take (arity.getD m 0))
  ((x.2.length:Nat):Int)::x.2++uD f x.1 (r.drop (arity.getD m 0))
noncomputable def Qk:Nat->List Nat->Prop
 |_,[]=>True
 |0,_::_=>False
 |f+1,m::r=>m<=66/\arity.getD m 0<=r.length/\Qk f (r.drop (arity.getD m 0))
theorem UX(l:List Nat)(n:Nat):(vI l).drop n=vI (l.drop n):=by unfold vI;rw[List.map_drop]
theorem UY(l:List Nat)(n:Nat):(vI l).take n=vI (l.take n):=by unfold vI;rw[List.map_take]
theorem CM:∀(f:Nat) (l:List Nat) (cs:List (List (List Int))),PyFlat.calls shape f (vI l)=some cs->Qk f l/\∀st,PyFlat.told (PyFlat.played Kp296Neutral.step st (cs.map PyKp296.whole))=uD f st l
 |f,[],cs,h=>by
  have e:PyFlat.calls shape f (vI [])=some []:=by cases f <;> rfl
  rw[e]at h;cases h;refine⟨by cases f <;> trivial,fun st=>?_⟩;cases f <;> rfl
 |0,m::r,cs,h=>by
  have e:PyFlat.calls shape 0 (vI (m::r))=none:=rfl;rw[e]at h;cases h
 |f+1,m::r,cs,h=>by
  have e:PyFlat.calls shape (f+1) (vI (m::r))=match PyFlat.call shape ((m:Int)::vI r)with
   |none=>none
   |some (c,t)=>match PyFlat.calls shape f t with
    |none=>none
    |some cs=>some (c::cs):=rfl
  rw[e]at h;have e2:PyFlat.call shape ((m:Int)::vI r)=match shape (m:Int)with
   |none=>none
   |some (n,k)=>if(vI r).length<n then none else match PyFlat.rows k ((vI r).drop n)with
    |none=>none
    |some (xs,t)=>some (((m:Int)::(vI r).take n)::xs,t):=rfl
  rw[e2]at h;cases hs:shape (m:Int)with
  |none=>rw[hs]at h;cases h
  |some z=>
   obtain⟨m',h1,h2,h3⟩:=Nh hs;have hm:m'=m:=by omega
   subst hm;rw[hs]at h;subst h3;by_cases hl:(vI r).length<arity.getD m' 0
   ·simp only[if_pos hl]at h;cases h
   simp only[if_neg hl]at h;have er:PyFlat.rows 0 ((vI r).drop (arity.getD m' 0))=some ([],(vI r).drop (arity.getD m' 0)):=rfl;simp only[er]at h;have hlen:arity.getD m' 0<=r.length:=by
    have:(vI r).length=r.length:=List.length_map ..;omega
   rw[UX,UY]at h;cases hc:PyFlat.calls shape f (vI (r.drop (arity.getD m' 0)))with
   |none=>rw[hc]at h;cases h
   |some cs'=>
    rw[hc]at h;cases h;obtain⟨i1,i2⟩:=CM f _ _ hc;refine⟨⟨h2,hlen,i1⟩,fun st=>?_⟩;have en:=JQ st (m:=m') (l:=r.take (arity.getD m' 0)) h2 (by rw[List.length_take];omega);rw[List.map_cons];show(((Kp296Neutral.step st (PyKp296.whole [(m':Int)::vI (r.take (arity.getD m' 0))])).2.length:Nat):Int)::(Kp296Neutral.step st (PyKp296.whole [(m':Int)::vI (r.take (arity.getD m' 0))])).2++PyFlat.told (PyFlat.played Kp296Neutral.step (Kp296Neutral.step st (PyKp296.whole [(m':Int)::vI (r.take (arity.getD m' 0))])).1 (cs'.map PyKp296.whole))=_;rw[en,i2];rfl
theorem Ni{l:List Nat}(h:answers_asked (vI l)=true):Qk l.length l/\answers (vI l)=uD l.length none l:=by
 unfold answers_asked at h;unfold answers PyKp296.calls;have el:(vI l).length=l.length:=List.length_map ..;rw[el]at h ⊢;cases hc:PyFlat.calls shape l.length (vI l)with
 |none=>rw[hc]at h;cases h
 |some raw=>
  obtain⟨h1,h2⟩:=CM _ _ _ hc;exact⟨h1,h2 none⟩
theorem UZ(l:List Int)(h:∀x∈l,0<=x):∃ns:List Nat,l=vI ns:=by
 induction l with
 |nil=>exact⟨[],rfl⟩
 |cons a l ih=>
  obtain⟨ns,e⟩:=ih fun x hx=>h x (List.mem_cons_of_mem _ hx);have ha:=h a List.mem_cons_self;exact⟨a.toNat::ns,by rw[e];show _=((a.toNat:Nat):Int)::_;rw[Int.toNat_of_nonneg ha];rfl⟩
def Sm(i:Int):Prop:=i.natAbs.log2<4000
theorem Sm.aaq{i j:Int}(hi:Sm i)(hj:Sm j):IntMulOk i j:=by
 have key:∀{k:Int},Sm k->Builtin.Int.intBits k<=4000:=by
  intro k hk;unfold Builtin.Int.intBits;split
  ·exact Nat.zero_le _
  exact hk
 have h1:=key hi;have h2:=key hj;unfold IntMulOk;have:Builtin.Int.intTooBig ((Builtin.Int.intBits i:Int)+(Builtin.Int.intBits j:Int))=false:=by
  unfold Builtin.Int.intTooBig;refine decide_eq_false ?_;have:(bitsLine:Int)=134217728:=by decide +kernel
  omega
 rw[this];simp
theorem Sm.of_lt{i:Int}(h:i.natAbs<2 ^ 4000):Sm i:=by
 unfold Sm;by_cases h0:i.natAbs=0
 ·rw[h0];decide +kernel
 exact(Nat.log2_lt h0).mpr h
theorem Sm.lt{i:Int}(h:Sm i):i.natAbs<2 ^ 4000:=by
 unfold Sm at h;by_cases h0:i.natAbs=0
 ·rw[h0];exact Nat.pow_pos (by decide)
 exact(Nat.log2_lt h0).mp h
theorem Sm.mono{i j:Int}(h:Sm j)(e:i.natAbs<=j.natAbs):Sm i:=.of_lt (Nat.lt_of_le_of_lt e h.lt)
section
variable{X:Cx}
theorem yh:mU X (binaryOp .Mult) (rI (fun i j=>Sm i/\Sm j) fun i j=>.int (i*j)):=Uo fun _ _ _ _ _ _ _ hc q=>mul_int q (hc.1.aaq hc.2)
theorem KI:mU X (binaryOp .FloorDiv) (rI (fun _ j=>0<j/\Sm j) fun i j=>.int (i/j)):=Uo fun i j _ _ _ _ _ hc q=>by
 have h1:(0:Int)<j:=hc.1;have hs:j.natAbs.log2<4000:=hc.2;refine floordiv_int (by omega) ?_ (.inl (PyProof.noPylong_of_log2 (by omega)));rw[Int.fdiv_eq_ediv_of_nonneg _ (by omega)];exact q
end
structure bF(K:Frag)(H:Hp)(a:Addr)(r:Rat):Prop where
 tup:ik K H a [.int r.num,.int r.den]
structure Fits(r:Rat):Prop where
 num:r.num.natAbs<2 ^ 1900
 den:r.den<2 ^ 1900
theorem Fits.U0{r:Rat}(h:Fits r):Sm r.num:=.of_lt (Nat.lt_trans h.num (Nat.pow_lt_pow_right (by decide) (by decide)))
theorem Fits.Ql{r:Rat}(h:Fits r):Sm (r.den:Int):=.of_lt (Nat.lt_trans (by rw[Int.natAbs_natCast];exact h.den) (Nat.pow_lt_pow_right (by decide) (by decide)))
local macro_rules| `(tactic|w_on)=> `(tactic|((try dsimp only[br,c6,bQ,tC,cX,rI,bT,bN,bc,bU,bw,bV,dj,bx,tB,bK,bA,bt,bZ,cf,E0,bX,de,cj,wipe,bR,di,bS,dg,bW,bz,dk,dm,bY,bp,aZ,dq,dn,bB,aR,aQ,bu,List.getElem?_cons_zero,List.getElem?_cons_succ,List.set_cons_zero,List.set_cons_succ,List.cons_append,List.nil_append,L2.start,List.length_cons,List.length_nil,List.replicate_succ,List.replicate_zero,Nat.reduceAdd,Nat.reduceSub,List.map]);(try simp only[br,c6,bQ,tC,cX,rI,bT,bN,bc,bU,bw,bV,dj,bx,tB,bK,bA,bt,bZ,cf,E0,bX,de,cj,wipe,bR,di,bS,dg,bW,bz,dk,dm,bY,bp,aZ,dq,dn,bB,aR,aQ,bu,List.getElem?_cons_zero,List.getElem?_cons_succ,List.set_cons_zero,List.set_cons_succ,Option.some.injEq,V.int.injEq,V.bl.injEq,V.ref.injEq,List.cons.injEq,List.cons_append,List.nil_append,List.append_nil,exists_eq_left',exists_eq_left,exists_eq',exists_and_left,exists_and_right,true_and,and_true,and_assoc,decide_eq_true_eq,if_true,if_false,Bool.false_eq_true,L2.start,List.map_cons,List.map_nil,List.length_cons,List.length_nil,List.replicate_succ,List.replicate_zero,Nat.reduceAdd,Nat.reduceSub,reduceCtorEq,decide_false,Bool.not_false,Bool.not_true,decide_true])))
def top(i:Nat):Stmt:=PySem.Challenge.pw_albumwhole_s01_answers.main.body.getD i (.Pass ⟨0,0,0,0⟩)
theorem xB{K:Frag}{H:Hp}{p:Addr}{xs:List V}{i:Int}{v:V}{Q:VK}(h:ik K H p xs)(e:cW xs i=some v)(q:Q v H):Rz K (.ref p) (.int i) H Q:=⟨p,xs,i,v,rfl,rfl,h,e,q⟩
theorem bq{K:Frag}{H:Hp}{p:Addr}{xs:List V}{i:Int}{v:V}{Q:VK}(h:aG K H p xs)(e:cW xs i=some v)(q:Q v H):ML K (.ref p) (.int i) H Q:=⟨p,xs,i,v,rfl,rfl,h,e,q⟩
theorem kY{ta:TA}{g:TG}{tb:TS}{D:Ends}{σ:L2.St}{H:Hp}(n:Nat)(hn:n<2 ^ 62)(lj:∀R:List V->Hp->Prop,R [.int n] H->ta σ H R)(Pv:Nat->L2.St->Hp->Prop)(h0:Pv 0 σ H)
  (hs:∀i σ H,i<n->Pv i σ H->g (.int i) σ H fun σ2 H2=>tb {D with nx:=Pv (i+1),ct:=Pv (i+1),bk:=D.nx} σ2 H2)(hd:∀σ H,Pv n σ H->D.nx σ H):Fw (Lc ta) g tb D σ H:=by
 refine lj _ ⟨n,rfl,by omega,by omega,?_⟩;have e:((n:Int)).toNat=n:=by omega
 rw[e];refine Hr Pv h0 (fun i σ H hi p=>?_) hd;have q:=hs i σ H hi p;have e:(0:Int)+(i:Int)=(i:Int):=by omega
 rw[e];exact q
def U1:Sp:=fun vs H Q _=>∃a b:Int,vs=[.int a,.int b]/\0<b/\Q (.int (Int.gcd a b)) H
abbrev U2:Stmt:=top 5
theorem Lq:aC ["one","other","rest"] ["one","other"] (ay U2):=aJ
theorem SY{a b:Int}(hb:0<b):Int.gcd b (a%b)=Int.gcd a b:=by
 rw[Int.gcd_comm b,Int.gcd_comm a];apply Nat.dvd_antisymm
 ·apply Int.dvd_gcd
  ·exact Int.gcd_dvd_right ..
  have h1:((Int.gcd (a%b) b:Nat):Int)∣a%b:=Int.gcd_dvd_left ..;have h2:((Int.gcd (a%b) b:Nat):Int)∣b:=Int.gcd_dvd_right ..;have e:a=a%b+b*(a/b):=(Int.emod_add_mul_ediv a b).symm;have h3:((Int.gcd (a%b) b:Nat):Int)∣a%b+b*(a/b):=Int.dvd_add h1 (Int.dvd_mul_of_dvd_left h2);generalize Int.gcd (a%b) b=g at h3 ⊢;rw[e];exact h3
 apply Int.dvd_gcd
 ·have h1:((Int.gcd b a:Nat):Int)∣a:=Int.gcd_dvd_right ..;have h2:((Int.gcd b a:Nat):Int)∣b:=Int.gcd_dvd_left ..;have e:a%b=a - b*(a/b):=by
   have:=Int.emod_add_mul_ediv a b;omega
  rw[e];exact Int.dvd_sub h1 (Int.dvd_mul_of_dvd_left h2)
 exact Int.gcd_dvd_left ..
theorem WW(F:bD K "common_part" "common_part" U2 f fd):aM P w K mg ae bo 1 f fd ["one","other"] U1:=by
 refine bG F Lq fun _ _ _ _ H _ Q _ hr h=>?_;obtain⟨a,b,rfl,hb,k⟩:=h;refine⟨_,ag (u4 PassesOwn.never (aP fR (pv 1) ai (aV _))
   (ag (tK (i:=2) Lq.nd rfl (Or.inl rfl) (aO Rw (pv 0) (pv 1)))
   (ag (tK (i:=0) Lq.nd rfl (Or.inl rfl) (pv 1))
   (ah (tK (i:=1) Lq.nd rfl (Or.inl rfl) (pv 2))))))
  (ah (az (pv 0))),?_⟩
 refine u5 (fun σ H'=>H'=H/\∃(x y:Int) (v:Option V),σ=[some (.int x),some (.int y),v]/\0<=y/\(0<x∨0<y)/\Int.gcd x y=Int.gcd a b)
  (fun σ _=>match σ with|[_,some (.int y),_]=>y.toNat|_=>0) ⟨rfl,a,b,_,rfl,by omega,.inr hb,rfl⟩ ?_ ?_
 ·rintro σ H' ⟨rfl,x,y,v,rfl,h0,h1,hg⟩;w_on;refine Cy (fun hy=>?_) (fun hy=>?_)
  ·refine⟨hy,Int.emod_nonneg _ (by omega),.inl hy,?_,?_⟩
   ·rw[SY hy,hg]
   have:=Int.emod_lt_of_pos x hy;have:=Int.emod_nonneg x (show y≠0 by omega);omega
  have e:y=0:=by omega
  subst e;rw[<- hg,Int.gcd_zero_right]at k;have e2:((x.natAbs:Nat):Int)=x:=by omega
  rw[e2]at k;exact k
 intro σ H1 Q1 Q2 hq;w_on;rintro⟨v,h1,i,h2,h3⟩;exact⟨v,h1,i,h2,hq _ _ h3⟩
def uE:Sp:=fun vs H Q _=>∃(b:Int) (n:Nat),vs=[.int b,.int n]/\ -(2 ^ 64)<b/\b<2 ^ 64/\n<2 ^ 62/\Q (.int (b ^ n)) H
abbrev U3:Stmt:=top 1
theorem Lr:aC ["base","exponent","product","step"] ["base","exponent"] (ay U3):=aJ
theorem WX(F:bD K "power" "power" U3 f fd)(hR:mg "range"=none):aM P w K mg ae bo 1 f fd ["base","exponent"] uE:=by
 refine bG F Lr fun _ _ _ _ H _ Q _ hr h=>?_;obtain⟨b,n,rfl,h1,h2,h3,k⟩:=h;refine⟨_,ag (tK (i:=2) Lr.nd rfl (Or.inl rfl) ai)
  (ag (fQ PassesOwn.never rfl (eK rfl hR (aa (pv 1) af)) (Mu (i:=3) Lr.nd rfl (Or.inl rfl))
   (ah (tK (i:=2) Lr.nd rfl (Or.inl rfl) (aO cM (pv 2) (pv 0)))))
  (ah (az (pv 2)))),?_⟩
 w_on;refine kY n h3 (fun R r=>by w_on;exact r) (fun i σ H'=>H'=H/\∃v:Option V,σ=[some (.int b),some (.int n),some (.int (b ^ i)),v]) ⟨rfl,_,by rw[Int.pow_zero]⟩ ?_ ?_
 ·rintro i σ H' hi ⟨rfl,v,rfl⟩;w_on;refine⟨.inr ⟨h1,h2⟩,?_⟩;rw[Int.pow_succ]
 rintro σ H' ⟨rfl,v,rfl⟩;w_on;exact k
def gy(K:Frag):Sp:=fun vs H Q _=>∃(a:Int) (b:Nat),vs=[.int a,.int b]/\0<b/\Sm (b:Int)/\∀p H',H p=none->aq H H'->H' p=some (.tup [.int (mkRat a b).num,.int ((mkRat a b).den:Nat)])->Q (.ref p) H'
abbrev Qm:Stmt:=top 6
theorem RI:aC ["above","below","common"] ["above","below"] (ay Qm):=aJ
structure Cl(P:Program)(w:World)(K:Frag)(mg:Str->Option Value)(ae:Heap)(k:Nat)(x:Str)(f:Addr)(fd:FuncData)(ps:List Str)(sp:Sp):Prop where
 ok:aM P w K mg ae bo k f fd ps sp
 kq:mg x=some (.ref f)
 kp:keepIn K (.ref f)=true
 b:Binds K fd ps []
theorem U4{f g:Addr}{fd gd:FuncData}(F:bD K "fraction" "fraction" Qm f fd)(G:Cl P w K mg ae 1 "common_part" g gd ["one","other"] U1):aM P w K mg ae bo 2 f fd ["above","below"] (gy K):=by
 refine bG F RI fun _ _ _ _ H _ Q _ hr h=>?_;obtain⟨a,b,rfl,hb,hs,k⟩:=h;refine⟨_,ag (tK (i:=2) RI.nd rfl (Or.inl rfl) (Hx G.ok hr rfl G.kq G.kp G.b .nil UP (aa (pv 0) (aa (pv 1) af))))
  (ah (az (mW (aa (aO KI (pv 0) (pv 2)) (aa (aO KI (pv 1) (pv 2)) af))))),?_⟩
 w_on;have hg0:0<Int.gcd a b:=Int.gcd_pos_of_ne_zero_right _ (by omega);have hgb:Int.gcd a b<=b:=by
  have h:=Int.gcd_dvd_right (a:=a) (b:=(b:Int));exact Nat.le_of_dvd hb (Int.natCast_dvd_natCast.mp h)
 have hgs:Sm ((Int.gcd a b:Nat):Int):=hs.mono (by rw[Int.natAbs_natCast,Int.natAbs_natCast];exact hgb);refine⟨a,b,rfl,by omega,_,rfl,by omega,hgs,_,rfl,by omega,hgs,by decide,fun p hp=>?_⟩;refine k p _ hp (fun c o e=>by rw[aE (a7 e hp)];exact e) ?_;rw[aj,RE (by omega),RF (by omega),Int.natCast_ediv]
def CN(K:Frag):Sp:=fun vs H Q _=>∃(p q:Addr) (x y:Rat),vs=[.ref p,.ref q]/\bF K H p x/\bF K H q y/\Fits x/\Fits y/\
 ∀z H',H z=none->aq H H'->H' z=some (.tup [.int (x - y).num,.int ((x - y).den:Nat)])->Q (.ref z) H'
abbrev Qn:Stmt:=top 7
theorem RJ:aC ["greater","lesser","above"] ["greater","lesser"] (ay Qn):=aJ
theorem WY{i j:Int}{a b:Nat}(hi:i.natAbs<2 ^ a)(hj:j.natAbs<2 ^ b)(h:a+b<=4000):Sm (i*j):=by
 refine .of_lt ?_;rw[Int.natAbs_mul];refine Nat.lt_of_lt_of_le (Nat.mul_lt_mul'' hi hj) ?_;rw[<- Nat.pow_add];exact Nat.pow_le_pow_right (by decide) h
theorem U5{f g:Addr}{fd gd:FuncData}(F:bD K "difference" "difference" Qn f fd)(G:Cl P w K mg ae 2 "fraction" g gd ["above","below"] (gy K)):aM P w K mg ae bo 3 f fd ["greater","lesser"] (CN K):=by
 refine bG F RJ fun _ _ _ _ H _ Q _ hr h=>?_;obtain⟨p,q,x,y,rfl,hx,hy,fx,fy,k⟩:=h;refine⟨_,ag (tK (i:=2) RJ.nd rfl (Or.inl rfl) (aO dU
   (aO yh (aD gX (pv 0) ai (fun _ _=>rfl)) (aD gX (pv 1) ai (fun _ _=>rfl)))
   (aO yh (aD gX (pv 1) ai (fun _ _=>rfl)) (aD gX (pv 0) ai (fun _ _=>rfl)))))
  (ah (az (Hx G.ok hr rfl G.kq G.kp G.b .nil UP (aa (pv 2) (aa (aO yh (aD gX (pv 0) ai (fun _ _=>rfl)) (aD gX (pv 1) ai (fun _ _=>rfl))) af))))),?_⟩
 w_on;have lD:∀{r:Rat},Fits r->((r.den:Nat):Int).natAbs<2 ^ 1900:=fun h=>by rw[Int.natAbs_natCast];exact h.den
 refine xB hx.tup rfl (xB hy.tup rfl ⟨_,rfl,_,rfl,fx.U0,fy.Ql,xB hy.tup rfl (xB hx.tup rfl ⟨_,rfl,_,rfl,fy.U0,fx.Ql,xB hx.tup rfl (xB hy.tup rfl ⟨_,rfl,_,rfl,fx.Ql,fy.Ql,?_⟩)⟩)⟩);refine⟨x.num*y.den - y.num*x.den,x.den*y.den,by rw[Int.natCast_mul],Nat.mul_pos x.den_pos y.den_pos,?_,fun z H' h1 h2 h3=>?_⟩
 ·rw[Int.natCast_mul];exact WY (lD fx) (lD fy) (by decide)
 rw[<- Rat.sub_def']at h3;exact k z H' h1 h2 h3
def CO(K:Frag):Sp:=fun vs H Q _=>∃(p q:Addr) (a b c d:Int),vs=[.ref p,.ref q]/\ik K H p [.int a,.int b]/\ik K H q [.int c,.int d]/\Sm a/\Sm b/\Sm c/\Sm d/\Q (.bl (decide (a*d<c*b))) H
def CP(K:Frag):Sp:=fun vs H Q _=>∃(p q:Addr) (x y:Rat),vs=[.ref p,.ref q]/\bF K H p x/\bF K H q y/\Fits x/\Fits y/\Q (.bl (decide (x<y))) H
theorem U6{K:Frag}(vs:List V)(H:Hp)(Q:VK)(E:XK)(h:CP K vs H Q E):CO K vs H Q E:=by
 obtain⟨p,q,x,y,rfl,hx,hy,fx,fy,k⟩:=h;refine⟨p,q,_,_,_,_,rfl,hx.tup,hy.tup,fx.U0,fx.Ql,fy.U0,fy.Ql,?_⟩;rw[decide_eq_decide.mpr (Rat.lt_iff x y)]at k;exact k
abbrev Qo:Stmt:=top 8
theorem WZ:aC ["one","other"] ["one","other"] (ay Qo):=aJ
theorem U7(F:bD K "is_less" "is_less" Qo f fd):aM P w K mg ae bo 1 f fd ["one","other"] (CO K):=by
 refine bG F WZ fun _ _ _ _ H _ Q _ hr h=>?_;obtain⟨p,q,a,b,c,d,rfl,hx,hy,sa,sb,sc,sd,k⟩:=h;refine⟨_,ah (az (rE xW (aO yh (aD gX (pv 0) ai (fun _ _=>rfl)) (aD gX (pv 1) ai (fun _ _=>rfl)))
   (aO yh (aD gX (pv 1) ai (fun _ _=>rfl)) (aD gX (pv 0) ai (fun _ _=>rfl))) (aV _))),?_⟩
 w_on;refine xB hx rfl (xB hy rfl ⟨_,rfl,_,rfl,sa,sd,xB hy rfl (xB hx rfl ⟨_,rfl,_,rfl,sc,sb,?_⟩)⟩);exact k
def gz(K:Frag):Sp:=fun vs H Q _=>∃(p:Addr) (x:Rat),vs=[.ref p]/\bF K H p x/\∀z H',H z=none->aq H H'->H' z=some (.lst [.int 0,.int x.num,.int (x.den:Nat)])->Q (.ref z) H'
abbrev Qp:Stmt:=top 9
theorem W0:aC ["pair"] ["pair"] (ay Qp):=aJ
theorem U8(F:bD K "told_fraction" "told_fraction" Qp f fd):aM P w K mg ae bo 1 f fd ["pair"] (gz K):=by
 refine bG F W0 fun _ _ _ _ H _ Q _ hr h=>?_;obtain⟨p,x,rfl,hx,k⟩:=h;refine⟨_,ah (az (aK (aa ai (aa (aD gX (pv 0) ai (fun _ _=>rfl)) (aa (aD gX (pv 0) ai (fun _ _=>rfl)) af))))),?_⟩;w_on;refine xB hx.tup rfl (xB hx.tup rfl ⟨by decide,fun z hz=>?_⟩);exact k z _ hz (fun c o e=>by rw[aE (a7 e hz)];exact e) aj
theorem aq.new{H:Hp}{a:Addr}{o:HO}(h:H a=none):aq H (upd H a o):=fun b u e=>by rw[aE (a7 e h)];exact e
theorem aq.put{H H':Hp}{a:Addr}{o:HO}(s:aq H H')(h:H a=none):aq H (upd H' a o):=fun b u e=>by rw[aE (a7 e h)];exact s b u e
theorem aq.Nj{K:Frag}{H H':Hp}{a:Addr}{xs:List V}(e:aq H H')(h:ik K H a xs):ik K H' a xs:=by
 rcases h with(h|⟨o,h⟩)|h
 ·exact .inl (.inl (e _ _ h))
 ·exact .inl (.inr ⟨o,e _ _ h⟩)
 exact .inr h
theorem aq.rat{K:Frag}{H H':Hp}{a:Addr}{r:Rat}(e:aq H H')(h:bF K H a r):bF K H' a r:=⟨aq.Nj e h.tup⟩
theorem bF.of{K:Frag}{H:Hp}{a:Addr}{r:Rat}(h:H a=some (.tup [.int r.num,.int (r.den:Nat)])):bF K H a r:=⟨.inl (.inl h)⟩
section
variable{J:It}{g:TG}{tt:TT}{te:TE}{vs:List Nat}{σ:L2.St}{H:Hp}{Q:VK}{K:Frag}
theorem Qq(n:Nat)(hn:n<=1000000)(item:Nat->V->Hp->Prop)(out:Nat->Option V)
  (hgo:∀i H',i<n->aq H H'->J.go i H')(aar:∀H',aq H H'->J.stop n H')
  (hy:∀i H' x xC,i<n->aq H H'->J.Mw i H' x xC->aq H' xC/\item i x xC)
  (step:∀i x H' (Ry:V->Hp->Prop) (Rn:Hp->Prop),i<n->aq H H'->item i x H'->(∀y H4,aq H' H4->out i=some y->Ry y H4)->(∀H3,aq H' H3->out i=none->Rn H3)->
   g x (wipe σ vs) H' fun σ2 H2=>wipe σ2 vs=wipe σ vs/\tt σ2 H2 fun b H3=>if b=true then te σ2 H3 Ry else Rn H3)
  (fin:∀D H',H D=none->aq H H'->H' D=some (.lst ((List.range n).filterMap out))->Q (.ref D) H'):
  ∀D,H D=none->∃W:Nat->Nat->Hp->Prop,(∃m,W 0 m (upd H D (.lst [])))/\∀i m H,W i m H->
   (J.stop i H/\Q (.ref D) H)∨(J.go i H/\∃Nx:Hp->Prop,(∀H',Nx H'->∃m',m'<m/\W (i+1) m' H')/\∀x H',J.Mw i H x H'->g x (wipe σ vs) H' fun σ2 H2=>wipe σ2 vs=wipe σ vs/\tt σ2 H2 fun b H3=>
    if b=true then te σ2 H3 fun y H4=>∃acc,H4 D=some (.lst acc)/\acc.length<sizeLine/\Nx (upd H4 D (.lst (acc++[y])))else Nx H3):=by
 intro D hD;refine⟨fun i m H'=>m=n - i/\i<=n/\aq H H'/\H' D=some (.lst ((List.range i).filterMap out)),⟨n,by simp,Nat.zero_le _,aq.new hD,aj⟩,?_⟩;rintro i m H' ⟨rfl,hi,hs,hd⟩;by_cases hlt:i<n
 ·refine .inr ⟨hgo i H' hlt hs,fun H5=>aq H H5/\H5 D=some (.lst ((List.range (i+1)).filterMap out)),fun H5 ⟨h1,h2⟩=>⟨n - (i+1),by omega,rfl,hlt,h1,h2⟩,fun x H5 y=>?_⟩;obtain⟨s5,it5⟩:=hy i H' x H5 hlt hs y;have s6:aq H H5:=hs.trans s5;refine step i x H5 _ _ hlt s6 it5 (fun y H4 s4 e=>?_) (fun H3 s3 e=>?_)
  ·refine⟨_,s4 _ _ (s5 _ _ hd),?_,aq.put (s6.trans s4) hD,?_⟩
   ·refine Nat.lt_of_le_of_lt (List.length_filterMap_le _ _) ?_;rw[List.length_range,sizeLine_eq];omega
   rw[aj,List.range_succ,List.filterMap_append];simp[e]
  refine⟨s6.trans s3,?_⟩;rw[s3 _ _ (s5 _ _ hd),List.range_succ,List.filterMap_append];simp[e]
 have e:i=n:=by omega
 subst e;exact .inl ⟨aar H' hs,fin D H' hD hs hd⟩
theorem lcL{tl:TE}{a:Addr}{xs:List V}(Bw:∀R:VK,R (.ref a) H->tl σ H R)(hl:aG K H a xs)(hn:xs.length<=1000000)(out:Nat->Option V)
  (step:∀i x H' (Ry:V->Hp->Prop) (Rn:Hp->Prop),xs[i]? =some x->aq H H'->(∀y H4,aq H' H4->out i=some y->Ry y H4)->(∀H3,aq H' H3->out i=none->Rn H3)->
   g x (wipe σ vs) H' fun σ2 H2=>wipe σ2 vs=wipe σ vs/\tt σ2 H2 fun b H3=>if b=true then te σ2 H3 Ry else Rn H3)
  (fin:∀D H',H D=none->aq H H'->H' D=some (.lst ((List.range xs.length).filterMap out))->Q (.ref D) H'):HJ (Ej K tl) g tt te vs σ H Q:=by
 refine Bw _ ⟨a,rfl,⟨xs,hl⟩,?_⟩;refine Qq (J:=Sb K a) xs.length hn (fun i x _=>xs[i]? =some x) out (fun i H' hi s=>⟨xs,xs[i],s.seq hl,by simp[hi]⟩) (fun H' s=>⟨xs,s.seq hl,Nat.le_refl _⟩) (fun i H' x xC hi s y=>?_)
  (fun i x H' Ry Rn hi s it h1 h2=>step i x H' Ry Rn it s h1 h2) fin
 obtain⟨e,y⟩:=y;subst e;exact⟨aq.refl _,y xs (s.seq hl)⟩
theorem Qr{ta:TA}{n:Nat}(lj:∀R:List V->Hp->Prop,R [.int n] H->ta σ H R)(hn:n<=1000000)(out:Nat->Option V)
  (step:∀i H' (Ry:V->Hp->Prop) (Rn:Hp->Prop),i<n->aq H H'->(∀y H4,aq H' H4->out i=some y->Ry y H4)->(∀H3,aq H' H3->out i=none->Rn H3)->
   g (.int i) (wipe σ vs) H' fun σ2 H2=>wipe σ2 vs=wipe σ vs/\tt σ2 H2 fun b H3=>if b=true then te σ2 H3 Ry else Rn H3)
  (fin:∀D H',H D=none->aq H H'->H' D=some (.lst ((List.range n).filterMap out))->Q (.ref D) H'):HJ (Lc ta) g tt te vs σ H Q:=by
 refine lj _ ⟨n,rfl,by omega,by omega,?_⟩;have e:((n:Int)).toNat=n:=by omega
 rw[e];refine Qq (J:=Mx 0 n) n hn (fun i x _=>x= .int i) out (fun i H' hi s=>hi) (fun H' s=>Nat.le_refl _) (fun i H' x xC hi s y=>?_)
  (fun i x H' Ry Rn hi s it h1 h2=>by subst it;exact step i H' Ry Rn hi s h1 h2) fin
 obtain⟨e,y⟩:=y;subst e;refine⟨aq.refl _,?_⟩;rw[y,Int.zero_add]
theorem lcZ{ta:TA}{a b:Addr}{xs ys:List V}{p q:Nat}(lj:∀R:List V->Hp->Prop,R [.ref a,.ref b] H->ta σ H R)(ha:aG K H a xs)(hb:aG K H b ys)(hn:xs.length<=1000000)(Nk:xs.length=ys.length)(out:Nat->Option V)
  (step:∀i x y H' (Ry:V->Hp->Prop) (Rn:Hp->Prop),xs[i]? =some x->ys[i]? =some y->aq H H'->(∀y H4,aq H' H4->out i=some y->Ry y H4)->(∀H3,aq H' H3->out i=none->Rn H3)->
   wipe (((wipe σ vs).set p (some x)).set q (some y)) vs=wipe σ vs/\tt (((wipe σ vs).set p (some x)).set q (some y)) H' fun b H3=>if b=true then te (((wipe σ vs).set p (some x)).set q (some y)) H3 Ry else Rn H3)
  (fin:∀D H',H D=none->aq H H'->H' D=some (.lst ((List.range xs.length).filterMap out))->Q (.ref D) H'):HJ (UO K ta) (Kn K 2 (vY (bc p) (vY (bc q) Mv))) tt te vs σ H Q:=by
 refine lj _ ⟨a,b,xs,ys,rfl,ha,hb,?_⟩;refine Qq (J:=Zw K a b) xs.length hn (fun i v xC=>∃T x y,v= .ref T/\xs[i]? =some x/\ys[i]? =some y/\xC T=some (.tup [x,y])) out
  (fun i H' hi s=>⟨xs,ys,xs[i],ys[i]'(Nk▸hi),s.seq ha,s.seq hb,by simp[hi],by simp[Nk▸hi]⟩) (fun H' s=>⟨xs,ys,s.seq ha,s.seq hb,.inl (Nat.le_refl _)⟩) (fun i H' x xC hi s y=>?_)
  (fun i v H' Ry Rn hi s it h1 h2=>?_) fin
 ·obtain⟨T,x',y',rfl,hT,rfl,h1,h2⟩:=y;exact⟨aq.new hT,T,x',y',rfl,h1 xs (s.seq ha),h2 ys (s.seq hb),aj⟩
 obtain⟨T,x,y,rfl,hx,hy,hT⟩:=it;exact⟨T,[x,y],rfl,.inl (.inl hT),rfl,x,[y],rfl,y,[],rfl,rfl,step i x y H' Ry Rn hx hy s h1 h2⟩
end
theorem Bx{α β:Type}(L:List α)(f:α->Option β):(List.range L.length).filterMap (fun i=>(L[i]?).bind f)=L.filterMap f:=by
 induction L with
 |nil=>rfl
 |cons a L ih=>
  rw[List.length_cons,List.range_succ_eq_map,List.filterMap_cons,List.filterMap_cons,List.filterMap_map];have e:((fun i=>((a::L)[i]?).bind f)∘Nat.succ)=fun i=>(L[i]?).bind f:=by
   funext i;simp
  rw[e,ih];simp
section
variable{g:TG}{tt:TT}{te:TE}{vs:List Nat}{σ:L2.St}{H:Hp}{Q:VK}{K:Frag}{α β:Type}
theorem yi{tl:TE}{a:Addr}(L:List α)(φ:α->V)(f:α->Option V)(Bw:∀R:VK,R (.ref a) H->tl σ H R)(hl:aG K H a (L.map φ))(hn:L.length<=1000000)
  (step:∀x H' (Ry:V->Hp->Prop) (Rn:Hp->Prop),x∈L->aq H H'->(∀y H4,aq H' H4->f x=some y->Ry y H4)->(∀H3,aq H' H3->f x=none->Rn H3)->
   g (φ x) (wipe σ vs) H' fun σ2 H2=>wipe σ2 vs=wipe σ vs/\tt σ2 H2 fun b H3=>if b=true then te σ2 H3 Ry else Rn H3)
  (fin:∀D H',H D=none->aq H H'->H' D=some (.lst (L.filterMap f))->Q (.ref D) H'):HJ (Ej K tl) g tt te vs σ H Q:=by
 refine lcL Bw hl (by rw[List.length_map];exact hn) (fun i=>(L[i]?).bind f) (fun i v H' Ry Rn hx s h1 h2=>?_) (fun D H' h1 h2 h3=>fin D H' h1 h2 ?_)
 ·rw[List.getElem?_map]at hx;cases e:L[i]? with
  |none=>rw[e]at hx;cases hx
  |some x=>
   rw[e]at hx;cases hx;refine step x H' Ry Rn (List.mem_of_getElem? e) s (fun y H4 s4 q=>h1 y H4 s4 ?_) (fun H3 s3 q=>h2 H3 s3 ?_)
   ·show(L[i]?).bind f=_;rw[e];exact q
   show(L[i]?).bind f=_;rw[e];exact q
 rw[h3,List.length_map,Bx]
theorem KJ{ta:TA}{a b:Addr}{p q:Nat}(L:List α)(M:List β)(φ:α->V)(ψ:β->V)(f:α->β->Option V)(lj:∀R:List V->Hp->Prop,R [.ref a,.ref b] H->ta σ H R)(ha:aG K H a (L.map φ))(hb:aG K H b (M.map ψ))
  (hn:L.length<=1000000)(hLM:L.length=M.length)
  (step:∀x y H' (Ry:V->Hp->Prop) (Rn:Hp->Prop),(x,y)∈L.zip M->aq H H'->(∀z H4,aq H' H4->f x y=some z->Ry z H4)->(∀H3,aq H' H3->f x y=none->Rn H3)->
   wipe (((wipe σ vs).set p (some (φ x))).set q (some (ψ y))) vs=wipe σ vs/\tt (((wipe σ vs).set p (some (φ x))).set q (some (ψ y))) H' fun b H3=>if b=true then te (((wipe σ vs).set p (some (φ x))).set q (some (ψ y))) H3 Ry else Rn H3)
  (fin:∀D H',H D=none->aq H H'->H' D=some (.lst ((L.zip M).filterMap fun z=>f z.1 z.2))->Q (.ref D) H'):HJ (UO K ta) (Kn K 2 (vY (bc p) (vY (bc q) Mv))) tt te vs σ H Q:=by
 refine lcZ lj ha hb (by rw[List.length_map];exact hn) (by rw[List.length_map,List.length_map];exact hLM) (fun i=>((L.zip M)[i]?).bind fun z=>f z.1 z.2) (fun i v u H' Ry Rn hx hy s h1 h2=>?_) (fun D H' h1 h2 h3=>fin D H' h1 h2 ?_)
 ·rw[List.getElem?_map]at hx hy;cases e:L[i]? with
  |none=>rw[e]at hx;cases hx
  |some x=>
   cases e2:M[i]? with
   |none=>rw[e2]at hy;cases hy
   |some y=>
    rw[e]at hx;rw[e2]at hy;cases hx;cases hy;have ez:(L.zip M)[i]? =some (x,y):=by rw[List.getElem?_zip_eq_some];exact⟨e,e2⟩
    refine step x y H' Ry Rn (List.mem_of_getElem? ez) s (fun y H4 s4 q=>h1 y H4 s4 ?_) (fun H3 s3 q=>h2 H3 s3 ?_)
    ·show((L.zip M)[i]?).bind _=_;rw[ez];exact q
    show((L.zip M)[i]?).bind _=_;rw[ez];exact q
 have el:(L.map φ).length=(L.zip M).length:=by rw[List.length_map,List.length_zip,hLM,Nat.min_self]
 rw[h3,el,Bx]
end
section
variable{g:TG}{tb:TS}{D:Ends}{σ:L2.St}{H:Hp}{K:Frag}
theorem forL{tl:TE}{a:Addr}{xs:List V}(Bw:∀R:VK,R (.ref a) H->tl σ H R)(hl:aG K H a xs)(Pv:Nat->L2.St->Hp->Prop)(h0:Pv 0 σ H)(hk:∀i σ H',i<=xs.length->Pv i σ H'->aG K H' a xs)
  (hs:∀i x σ H,xs[i]? =some x->Pv i σ H->g x σ H fun σ2 H2=>tb {D with nx:=Pv (i+1),ct:=Pv (i+1),bk:=D.nx} σ2 H2)(hd:∀σ H,Pv xs.length σ H->D.nx σ H):Fw (Ej K tl) g tb D σ H:=
 Bw _ ⟨a,rfl,⟨xs,hl⟩,Kr Pv h0 hk hs hd⟩
theorem U9{ta:TA}{a:Addr}{xs:List V}{p q:Nat}(lj:∀R:List V->Hp->Prop,R [.ref a] H->ta σ H R)(hl:aG K H a xs)(Pv:Nat->L2.St->Hp->Prop)(h0:Pv 0 σ H)(hk:∀i σ H',i<=xs.length->Pv i σ H'->aG K H' a xs)
  (hs:∀i x σ H',xs[i]? =some x->∀xC,Pv i σ H'->(∃T,H' T=none/\xC=upd H' T (.tup [.int (i:Nat),x]))->tb {D with nx:=Pv (i+1),ct:=Pv (i+1),bk:=D.nx} ((σ.set p (some (.int (i:Nat)))).set q (some x)) xC)(hd:∀σ H,Pv xs.length σ H->D.nx σ H):
  Fw (OL K ta) (Kn K 2 (vY (bc p) (vY (bc q) Mv))) tb D σ H:=by
 refine lj _ ⟨a,xs,rfl,hl,?_⟩;refine⟨fun i m σ H=>m=xs.length - i/\i<=xs.length/\Pv i σ H,⟨xs.length,by simp,Nat.zero_le _,h0⟩,?_⟩;rintro i m σ H ⟨rfl,hi,pv⟩;have q:=hk i σ H hi pv;by_cases hlt:i<xs.length
 ·refine .inr ⟨⟨xs,xs[i],q,by simp[hlt]⟩,Pv (i+1),fun σ' H' p'=>⟨xs.length - (i+1),by omega,rfl,hlt,p'⟩,fun x H' y=>?_⟩;obtain⟨T,x',rfl,hT,rfl,h1⟩:=y;exact⟨T,_,rfl,.inl (.inl aj),rfl,_,_,rfl,_,_,rfl,rfl,hs i x' σ H (h1 xs q) _ pv ⟨T,hT,rfl⟩⟩
 have e:i=xs.length:=by omega
 subst e;exact .inl ⟨⟨xs,q,Nat.le_refl _⟩,hd σ H pv⟩
end
theorem wV{H:Hp}{l b:Addr}{xs zs:List V}{Q:VK}(h1:H l=some (.lst xs))(h2:H b=some (.lst zs))(hn:xs.length+zs.length<=sizeLine)(q:∀p,H p=none->Q (.ref p) (upd H p (.lst (xs++zs)))):YS (.ref l) (.ref b) H Q:=⟨l,b,xs,zs,rfl,rfl,h1,h2,hn,q⟩
theorem iQ{n:Nat}(h:n<=1000000):n<=sizeLine:=by rw[sizeLine_eq];omega
structure gE(mg:Str->Option Value):Prop where
 gA:mg "range"=none
 rb:mg "enumerate"=none
 Eu:mg "zip"=none
 dZ:mg "len"=none
 gN:mg "sum"=none
 Va:mg "min"=none
 CQ:mg "list"=none
 Ls:mg "all"=none
 aas:mg "any"=none
 aat:mg "max"=none
theorem ak{X:Cx}{j k:Nat}{f:Addr}{fd:FuncData}{ps:List Str}{sp:Sp}{x:Str}{p pos:Pos}{e:Expr}{es:List Expr}{t:TA}(G:Cl X.prog X.w X.K X.mg X.ae j x f fd ps sp)(hr:gH k X.A)
  (ha:PA X (e::es) t)(Lu:j<=k:=by decide)(hg:Gl X x:=by rfl)(El:(x==("__debug__":Str))=false:=by decide)(he:starEach (e::es) X.env=(false,eval e X.env)::starEach es X.env:=by rfl)(hpl:(backTo pos (starEach es X.env)).any (·.1)=false:=by rfl):
  PE X (.Call (.Name x p) (e::es) [] pos) (bt sp [] (fun _ _ _=>False) t):=
 Hx (G.ok.mono Lu) hr hg G.kq G.kp G.b .nil (fun _ _ _ _ _ _ _ h=>h.elim) ha El he hpl
section
variable{X:Cx}{K:Frag}
theorem rn(h:X.K=K):Wt X (ML K):=by subst h;exact aA
theorem u7{es:List Expr}{k:Nat}{t:Ms}{n:Nat}{pos:PySem.Pos}(h:X.K=K)(hc:X.calm=true)(hg:Uh X es t)(hn:(assignEach es X.env).length=n:=by rfl)(Ho:(assignEach es X.env).findIdx? (·.1)=none:=by rfl):PG X (.Tuple es k pos) (Kn K n t):=by subst h;exact Co hc hg hn Ho
end
def c9(l:List Int):List V:=l.map V.int
def ax(l:List Nat):List V:=l.map fun(n:Nat)=>V.int (n:Int)
theorem fv{α:Type}{l:List α}{i:Nat}{x:α}(h:l[i]? =some x):l.take (i+1)=l.take i++[x]:=by
 rw[List.take_succ,h];rfl
theorem FI(L M:List Nat):(L.zip M).filterMap (fun z=>some (V.int ((z.1+z.2:Nat):Int)))=ax (List.zipWith (fun a b=>a+b) L M):=by
 induction L generalizing M with
 |nil=>rfl
 |cons a L ih=>
  cases M with
  |nil=>rfl
  |cons b M=>
   rw[List.zip_cons_cons,List.filterMap_cons,List.zipWith_cons_cons,ih M];rfl
def yj(K:Frag):Sp:=fun vs H Q _=>∃(a:Addr) (l:List Nat),vs=[.ref a]/\aG K H a (ax l)/\l.length<=6/\(∀w∈l,w<=120)/\∀z H',aq H H'->H' z=some (.lst (ax (table l)))->Q (.ref z) H'
abbrev p0:Stmt:=top 11
theorem eu:aC ["weights","products","weight","without","within","product","one","other"] ["weights"] (ay p0):=aJ
theorem Ew(T:gE mg)(F:bD K "set_products" "set_products" p0 f fd):aM P w K mg ae bo 1 f fd ["weights"] (yj K):=by
 refine bG F eu fun _ _ _ _ H _ Q _ hr h=>?_;obtain⟨a,l,rfl,ha,hl,hwb,k⟩:=h;refine⟨_,(ag (pz 1 eu (aK (aa ai af)))
  (ag (fQ PassesOwn.never rfl (fm (pv 0)) (qz 2 eu)
   (ag (pz 3 eu (aO lW (pv 1) (aK (aa ai af))))
  (ag (pz 4 eu (aO lW (aK (aa ai af)) (lh rfl eu.nd (fm (pv 1)) (c7 (own:=[("product",5)]) (by rfl)) (fun _ _ _ _ _=>(qz 5 eu)) (fun _ _ _ _ _=>fq) (fun _ _ _ _ _=>(aO cM (pv 5) (pv 2))))))
  (ah (j2 (i:=1) rfl eu.nd rfl rfl rfl (zN rfl T.Eu (aa (pv 3) (aa (pv 4) af))) (c7 (own:=[("one",6),("other",7)]) (by rfl)) (fun _ _ _ _ _=>(u7 (K:=K) (n:=2) rfl rfl (eJ (qz 6 eu) (eJ (qz 7 eu) lH)))) (fun _ _ _ _ _=>fq) (fun _ _ _ _ _=>(aO dh (pv 6) (pv 7))))))))
  (ah (az (pv 1))))),?_⟩
 w_on;refine⟨by decide,fun p hp=>?_⟩;refine forL (xs:=ax l) (fun R r=>by w_on;exact r) ((aq.new hp).seq ha) (fun i σ H'=>aq H H'/\∃q v2 v3 v4,σ=[some (.ref a),some (.ref q),v2,v3,v4,none,none,none]/\H' q=some (.lst (ax (table (l.take i)))))
  ⟨aq.new hp,p,_,_,_,rfl,by rw[aj];rfl⟩ (fun i σ H' _ ⟨s1,_⟩=>s1.seq ha) ?_ ?_
 ·rintro i x σ H' hx ⟨s1,q,v2,v3,v4,rfl,hq⟩;obtain⟨w,hw,rfl⟩:∃w,l[i]? =some w/\x=V.int (w:Int):=by
   unfold ax at hx;rw[List.getElem?_map]at hx;cases e:l[i]? with
   |none=>rw[e]at hx;cases hx
   |some w=>rw[e]at hx;exact⟨w,rfl,(Option.some.inj hx).symm⟩
  w_on;have Bw:(table (l.take i)).length<=7:=by rw[jG,List.length_take];omega
  refine⟨by decide,fun p1 u9=>wV ((aq.new u9) _ _ hq) aj (iQ (by simp[ax];omega)) fun p2 wx=>⟨by decide,fun p3 By=>?_⟩⟩;have s2:aq H' (upd (upd (upd H' p1 (.lst [.int 0])) p2 (.lst (ax (table (l.take i))++[.int 0]))) p3 (.lst [.int 0])):=((aq.new u9).trans (aq.new wx)).trans (aq.new By);have h2:(upd (upd (upd H' p1 (.lst [.int 0])) p2 (.lst (ax (table (l.take i))++[.int 0]))) p3 (.lst [.int 0])) p2=some (.lst (ax (table (l.take i))++[.int 0])):=(aq.new By) _ _ aj;refine yi (table (l.take i)) (fun(n:Nat)=>V.int (n:Int)) (fun(n:Nat)=>some (V.int ((n*w:Nat):Int))) (fun R r=>by w_on;exact r) (.inl (.inl (s2 _ _ hq))) (by omega) (fun x H3 Ry Rn hx s3 h1 h2=>?_) (fun D H3 hD s3 h3=>?_)
  ·w_on;refine⟨.inr (by have:=hwb w (List.mem_of_getElem? hw);omega),h1 _ _ (aq.refl _) (by rw[Int.natCast_mul])⟩
  refine wV (s3 _ _ aj) h3 (iQ ?_) fun p4 Ae=>?_
  ·simp;omega
  refine KJ (table (l.take i)++[0]) (0::(table (l.take i)).map fun n=>n*w) (fun(n:Nat)=>V.int (n:Int)) (fun(n:Nat)=>V.int (n:Int)) (fun x y=>some (V.int ((x+y:Nat):Int))) (fun R r=>by w_on;exact r) ?_ ?_ (by simp;omega) (by simp) (fun x y H5 Ry Rn Nk s5 h1 h2=>?_) (fun D5 H5 hD5 s5 h5=>?_)
  ·refine .inl (.inl ?_);rw[(s3.trans (aq.new Ae)) _ _ h2];simp[ax]
  ·refine .inl (.inl ?_);rw[aj];simp
  ·w_on;exact h1 _ _ (aq.refl _) (by rw[Int.natCast_add])
  refine⟨((s1.trans s2).trans s3).trans ((aq.new Ae).trans s5),D5,rfl,?_⟩;rw[h5,fv hw,MZ,FI]
 rintro σ H' ⟨s1,q,v2,v3,v4,rfl,hq⟩;w_on;refine k q H' s1 ?_;rw[hq];simp[ax]
theorem FJ(l:List Nat):ax l=(l.map fun(n:Nat)=>(n:Int)).map V.int:=by unfold ax;rw[List.map_map];rfl
theorem S2(l:List Nat):(l.map fun(n:Nat)=>(n:Int)).sum=((l.sum:Nat):Int):=by
 induction l with
 |nil=>rfl
 |cons a l ih=>rw[List.map_cons,List.sum_cons,List.sum_cons,ih,Int.natCast_add]
theorem kf{K:Frag}{H:Hp}{a:Addr}{l:List Nat}{Q:VK}(h:aG K H a (ax l))(q:Q (.int ((l.sum:Nat):Int)) H):UJ K [.ref a] H Q:=
 ⟨a,l.map fun(n:Nat)=>(n:Int),rfl,by rw[<- FJ];exact h,by rw[S2];exact q⟩
theorem YZ{K:Frag}{H:Hp}{a:Addr}{l:List Int}{Q:VK}(h:aG K H a (l.map V.int))(q:Q (.int l.sum) H):UJ K [.ref a] H Q:=⟨a,l,rfl,h,q⟩
theorem CS{a:Int}{b:Nat}(hb:b≠0)(ha:a.natAbs<2 ^ 1900)(hb2:b<2 ^ 1900):Fits (mkRat a b):=⟨Nat.lt_of_le_of_lt (WM hb) ha,Nat.lt_of_le_of_lt (WL hb) hb2⟩
theorem md{s n:Nat}(hs:s<=128)(hn:n<=200):s ^ n<2 ^ 1900:=by
 have h1:s ^ n<=(2 ^ 7) ^ n:=Nat.pow_le_pow_left hs n;rw[<- Nat.pow_mul]at h1;exact Nat.lt_of_le_of_lt h1 (Nat.pow_lt_pow_right (by decide) (by omega))
theorem jj{n:Nat}(h:n<2 ^ 1900):Sm (n:Int):=.of_lt (Nat.lt_trans (by rw[Int.natAbs_natCast];exact h) (Nat.pow_lt_pow_right (by decide) (by decide)))
theorem du{l:List Nat}{i:Nat}(h:i<l.length):cW (ax l) (i:Int)=some (V.int ((l.getD i 0:Nat):Int)):=by
 refine Ct ?_;unfold ax;rw[List.getElem?_map,List.getD_eq_getElem?_getD,List.getElem?_eq_getElem h];rfl
theorem aX(l:List Nat):(ax l).length=l.length:=List.length_map ..
theorem e8.abr{l:List Nat}(h:e8 l):∀w∈l,w<=120:=fun w hw=>Nat.le_trans (h.top w hw) (by decide)
def yk(K:Frag):Sp:=fun vs H Q _=>∃(a:Addr) (l:List Nat) (n:Nat),vs=[.ref a,.int n]/\aG K H a (ax l)/\e8 l/\∀H',aq H H'->Q (.int ((products l n:Nat):Int)) H'
abbrev me:Stmt:=top 12
theorem qB:aC ["weights","size","products"] ["weights","size"] (ay me):=aJ
theorem Af{f g:Addr}{fd gd:FuncData}(T:gE mg)(F:bD K "product_of_size" "product_of_size" me f fd)(lZ:Cl P w K mg ae 1 "set_products" g gd ["weights"] (yj K)):
  aM P w K mg ae bo 2 f fd ["weights","size"] (yk K):=by
 refine bG F qB fun _ _ _ _ H _ Q _ hr h=>?_;obtain⟨a,l,n,rfl,ha,hl,k⟩:=h;refine⟨_,(ag (pz 2 qB (ak lZ hr (aa (pv 0) af)))
  (ah (az (Ei (aP xW (pv 1) (aT a6 (by rfl) T.dZ boot_len (aa (pv 2) af)) (aV _)) (aD aA (pv 2) (pv 1) (fun _ _=>rfl)) ai)))),?_⟩
 w_on;refine⟨a,l,rfl,ha,hl.jr,hl.abr,fun z H' s1 hz=>?_⟩;w_on;refine⟨_,.inl (aG.of hz),?_⟩;rw[aX,jG];refine Cy (fun hn=>?_) (fun hn=>?_)
 ·have hn:n<l.length+1:=by omega
  refine bq (aG.of hz) (du (by rw[jG];exact hn)) ?_;have e:(table l).getD n 0=products l n:=by rw[List.getD_eq_getElem?_getD,rJ l n (by omega)];rfl
  rw[e];exact k H' s1
 have e:=pY l n (by omega);have k:=k H' s1;rw[e]at k;exact k
def tP(K:Frag):Sp:=fun vs H Q _=>∃(a:Addr) (l:List Nat) (n:Nat),vs=[.ref a,.int n]/\aG K H a (ax l)/\e8 l/\n<=200/\∀H',aq H H'->Q (.int ((differentUp l n:Nat):Int)) H'
abbrev m4:Stmt:=top 13
theorem jK:aC ["weights","draws","rows","place"] ["weights","draws"] (ay m4):=aJ
theorem Bz{f g:Addr}{fd gd:FuncData}(T:gE mg)(F:bD K "different_rows" "different_rows" m4 f fd)(eM:Cl P w K mg ae 2 "product_of_size" g gd ["weights","size"] (yk K)):
  aM P w K mg ae bo 3 f fd ["weights","draws"] (tP K):=by
 refine bG F jK fun _ _ _ _ H _ Q _ hr h=>?_;obtain⟨a,l,n,rfl,ha,hl,hn,k⟩:=h;refine⟨_,(ag (pz 2 jK (ak eM hr (aa (pv 0) (aa (pv 1) af))))
  (ag (fQ PassesOwn.never rfl (eK rfl T.gA (aa (pv 1) af)) (qz 3 jK)
   (ah (pz 2 jK (aO cM (pv 2) (aO dh (pv 3) ai)))))
  (ah (az (pv 2))))),?_⟩
 w_on;refine⟨a,l,n,rfl,ha,hl,fun H1 s1=>?_⟩;refine kY n (by omega) (fun R r=>by w_on;exact r) (fun i σ H'=>H'=H1/\∃v:Option V,σ=[some (.ref a),some (.int n),some (.int ((fact i*products l n:Nat):Int)),v]) ⟨rfl,_,by show _=_;rw[show fact 0=1 from rfl,Nat.one_mul]⟩ ?_ ?_
 ·rintro i σ H' hi ⟨rfl,v,rfl⟩;w_on;refine⟨.inr (by omega),?_⟩;rw[Bs];simp only[Int.natCast_mul,Int.natCast_add]
  grind
 rintro σ H' ⟨rfl,v,rfl⟩;w_on;exact k H' s1
theorem yl{l:List Nat}(hl:e8 l)(h0:0<l.sum){n:Nat}(hn:n<=200):Fits (fU l n):=by
 have h1:l.sum ^ n<2 ^ 1900:=md (Nat.le_trans hl.kd (by decide)) hn;refine CS (fj h0 n) ?_ h1;rw[Int.natAbs_natCast];exact Nat.lt_of_le_of_lt (wU l n) h1
def jk(K:Frag):Sp:=fun vs H Q _=>∃(a:Addr) (l:List Nat) (n:Nat),vs=[.ref a,.int n]/\aG K H a (ax l)/\e8 l/\0<l.sum/\n<=200/\∀z H',aq H H'->bF K H' z (fU l n)->Q (.ref z) H'
abbrev ll:Stmt:=top 14
theorem ym:aC ["weights","draws"] ["weights","draws"] (ay ll):=aJ
theorem yn(T:gE mg)(F:bD K "likely_different" "likely_different" ll f fd)(cY:Cl P w K mg ae 3 "different_rows" g1 bH ["weights","draws"] (tP K))
  (aF:Cl P w K mg ae 2 "fraction" g2 cp ["above","below"] (gy K))(cC:Cl P w K mg ae 1 "power" g3 c4 ["base","exponent"] uE):
  aM P w K mg ae bo 4 f fd ["weights","draws"] (jk K):=by
 refine bG F ym fun _ _ _ _ H _ Q _ hr h=>?_;obtain⟨a,l,n,rfl,ha,hl,h0,hn,k⟩:=h;refine⟨_,(ah (az (ak aF hr (aa (ak cY hr (aa (pv 0) (aa (pv 1) af))) (aa (ak cC hr (aa (aT (fg rfl) (by rfl) T.gN boot_sum (aa (pv 0) af)) (aa (pv 1) af))) af))))),?_⟩;w_on;refine⟨a,l,n,rfl,ha,hl,hn,fun H1 s1=>?_⟩;have hs:=hl.kd;refine kf (s1.seq ha) ⟨_,n,rfl,by omega,by omega,by omega,?_⟩;refine⟨_,l.sum ^ n,by rw[Int.natCast_pow],Nat.pow_pos h0,jj (md (by omega) hn),fun p H' _ s2 h3=>?_⟩;exact k p H' (s1.trans s2) (bF.of h3)
def Vb(K:Frag):V->V->Hp->VK->Prop:=fun x y H Q=>∃p xs,∃i:Nat,∃v,x= .ref p/\y= .int i/\aG K H p xs/\xs[i]? =some v/\Q v H
theorem j5{X:Cx}:YM X (Vb X.K):=by
 intro au s σ H o i ov iv Q I ro ri h;obtain⟨p,xs,j,v,rfl,rfl,hq,hx,q⟩:=h;cases ro;obtain⟨t,rfl⟩:=ri;obtain⟨its,r,pl,hz⟩:=I.list hq;obtain⟨w,ew,tE⟩:=r.get hx;have hl:=r.length;have hn:=Cq;have hj:j<its.length:=(List.getElem?_eq_some_iff.mp ew).1;exact wpAny_getItem_list pl.isList (by omega) (by omega) (by simpa using ew) ⟨v,H,I,tE,q⟩
theorem getL{K:Frag}{H:Hp}{p:Addr}{xs:List V}{i:Nat}{v:V}{Q:VK}(h:aG K H p xs)(e:xs[i]? =some v)(q:Q v H):Vb K (.ref p) (.int (i:Int)) H Q:=⟨p,xs,i,v,rfl,rfl,h,e,q⟩
theorem wW{H:Hp}{p:Addr}{xs:List V}{i:Nat}{v:V}{Q:Hp->Prop}(h:H p=some (.lst xs))(e:i<xs.length)(q:Q (upd H p (.lst (xs.set i v)))):UC (.ref p) (.int (i:Int)) v H Q:=
 ⟨p,xs,i,i,rfl,rfl,h,by unfold MI;rw[if_pos (by omega),if_pos (by omega)];simp,q⟩
def yo(K:Frag):Sp:=fun vs H Q _=>∃(a:Addr) (l:List Nat) (n:Nat),vs=[.ref a,.int n]/\aG K H a (ax l)/\e8 l/\0<l.sum/\n<=200/\∀z H',aq H H'->bF K H' z (1 - fU l n)->Q (.ref z) H'
theorem S3:Fits 1:=⟨by decide +kernel,by decide +kernel⟩
abbrev qa:Stmt:=top 16
theorem Ex:aC ["weights","draws"] ["weights","draws"] (ay qa):=aJ
theorem Ey(T:gE mg)(F:bD K "likely_alike" "likely_alike" qa f fd)(aY:Cl P w K mg ae 4 "likely_different" g1 bH ["weights","draws"] (jk K))
  (da:Cl P w K mg ae 3 "difference" g2 cp ["greater","lesser"] (CN K)):aM P w K mg ae bo 5 f fd ["weights","draws"] (yo K):=by
 refine bG F Ex fun _ _ _ _ H _ Q _ hr h=>?_;obtain⟨a,l,n,rfl,ha,hl,h0,hn,k⟩:=h;refine⟨_,(ah (az (ak da hr (aa (mW (aa ai (aa ai af))) (aa (ak aY hr (aa (pv 0) (aa (pv 1) af))) af))))),?_⟩;w_on;refine⟨by decide,fun p hp=>⟨a,l,n,rfl,(aq.new hp).seq ha,hl,h0,hn,fun z H' s1 hz=>?_⟩⟩;refine⟨p,z,1,fU l n,rfl,bF.of (s1 _ _ aj),hz,S3,yl hl h0 hn,fun y H2 _ s2 h2=>?_⟩;exact k y H2 (((aq.new hp).trans s1).trans s2) (bF.of h2)
def BA(K:Frag):Sp:=fun vs H Q _=>∃(a:Addr) (l:List Nat),vs=[.ref a]/\aG K H a (ax l)/\e8 l/\∀H',aq H H'->Q (.int ((squares l:Nat):Int)) H'
abbrev uF:Stmt:=top 17
theorem rP:aC ["weights","weight"] ["weights"] (ay uF):=aJ
theorem HX(T:gE mg)(F:bD K "square_sum" "square_sum" uF f fd):aM P w K mg ae bo 1 f fd ["weights"] (BA K):=by
 refine bG F rP fun _ _ _ _ H _ Q _ hr h=>?_;obtain⟨a,l,rfl,ha,hl,k⟩:=h;refine⟨_,(ah (az (aT (fg rfl) (by rfl) T.gN boot_sum (aa (lh rfl rP.nd (fm (pv 0)) (c7 (own:=[("weight",1)]) (by rfl)) (fun _ _ _ _ _=>(qz 1 rP)) (fun _ _ _ _ _=>fq) (fun _ _ _ _ _=>(aO cM (pv 1) (pv 1)))) af)))),?_⟩;w_on;refine yi l (fun(n:Nat)=>V.int (n:Int)) (fun(n:Nat)=>some (V.int ((n*n:Nat):Int))) (fun R r=>by w_on;exact r) ha (by have:=hl.jr;omega) (fun x H3 Ry Rn hx s3 h1 h2=>?_) (fun D H3 hD s3 h3=>?_)
 ·w_on;have:=hl.top x hx;exact⟨.inr (by omega),h1 _ _ (aq.refl _) (by rw[Int.natCast_mul])⟩
 have e:(l.filterMap fun(n:Nat)=>some (V.int ((n*n:Nat):Int)))=ax (l.map fun n=>n*n):=by
  unfold ax;rw[List.map_map,<- List.filterMap_eq_map];rfl
 rw[e]at h3;refine kf (aG.of h3) ?_;have k:=k H3 s3;unfold squares at k;rw[bO]at k;exact k
def CT(K:Frag):Sp:=fun vs H Q _=>∃(a:Addr) (l:List Nat) (n:Nat),vs=[.ref a,.int n]/\aG K H a (ax l)/\e8 l/\0<l.sum/\n<=200/\∀z H',aq H H'->bF K H' z (CJ l n)->Q (.ref z) H'
theorem W2(n:Nat):((n:Int)*((n:Int) - 1))/2=((C2 n:Nat):Int):=by
 unfold C2;cases n with
 |zero=>rfl
 |succ n=>
  rw[Nat.add_sub_cancel,Int.natCast_ediv,Int.natCast_mul]
  congr 2
  omega
abbrev uG:Stmt:=top 18
theorem rQ:aC ["weights","draws","pairs","total"] ["weights","draws"] (ay uG):=aJ
theorem HY(T:gE mg)(F:bD K "mean_pairs" "mean_pairs" uG f fd)(iA:Cl P w K mg ae 1 "square_sum" g1 bH ["weights"] (BA K))
  (aF:Cl P w K mg ae 2 "fraction" g2 cp ["above","below"] (gy K)):aM P w K mg ae bo 3 f fd ["weights","draws"] (CT K):=by
 refine bG F rQ fun _ _ _ _ H _ Q _ hr h=>?_;obtain⟨a,l,n,rfl,ha,hl,h0,hn,k⟩:=h;refine⟨_,(ag (pz 2 rQ (aO Hs (aO cM (pv 1) (aO dU (pv 1) ai)) ai))
  (ag (pz 3 rQ (aT (fg rfl) (by rfl) T.gN boot_sum (aa (pv 0) af)))
  (ah (az (ak aF hr (aa (aO cM (pv 2) (ak iA hr (aa (pv 0) af))) (aa (aO cM (pv 3) (pv 3)) af))))))),?_⟩
 w_on;have hs:=hl.kd;refine⟨.inl (by omega),⟨by decide,by decide⟩,kf ha ?_⟩;rw[W2];w_on;refine⟨a,l,rfl,ha,hl,fun H1 s1=>?_⟩;w_on;have hc:C2 n<=40000:=by
  have h1:=CA n;have h2:n*(n - 1)<=200*200:=Nat.mul_le_mul hn (by omega);omega
 refine⟨.inl (by omega),.inl (by omega),?_⟩;refine⟨_,l.sum*l.sum,by rw[<- Int.natCast_mul,<- Int.natCast_mul],Nat.mul_pos h0 h0,jj (Nat.lt_of_le_of_lt (Nat.mul_le_mul hs hs) (by decide +kernel)),fun z H' _ s2 h2=>?_⟩;exact k z H' (s1.trans s2) (bF.of h2)
def yp(K:Frag):Sp:=fun vs H Q _=>∃(a:Addr) (l:List Nat) (n:Nat),vs=[.ref a,.int ((n+1:Nat):Int)]/\aG K H a (ax l)/\e8 l/\0<l.sum/\n<200/\∀z H',aq H H'->bF K H' z (fU l n - fU l (n+1))->Q (.ref z) H'
abbrev qb:Stmt:=top 20
theorem Ez:aC ["weights","draws"] ["weights","draws"] (ay qb):=aJ
theorem EA(T:gE mg)(F:bD K "likely_first" "likely_first" qb f fd)(aY:Cl P w K mg ae 4 "likely_different" g1 bH ["weights","draws"] (jk K))
  (da:Cl P w K mg ae 3 "difference" g2 cp ["greater","lesser"] (CN K)):aM P w K mg ae bo 5 f fd ["weights","draws"] (yp K):=by
 refine bG F Ez fun _ _ _ _ H _ Q _ hr h=>?_;obtain⟨a,l,n,rfl,ha,hl,h0,hn,k⟩:=h;refine⟨_,(ah (az (ak da hr (aa (ak aY hr (aa (pv 0) (aa (aO dU (pv 1) ai) af))) (aa (ak aY hr (aa (pv 0) (aa (pv 1) af))) af))))),?_⟩;w_on;refine⟨a,l,n,by rw[show((n+1:Nat):Int) - 1=(n:Int)by omega],ha,hl,h0,by omega,fun z H1 s1 hz=>?_⟩;w_on;refine⟨a,l,n+1,rfl,s1.seq ha,hl,h0,by omega,fun y H2 s2 hy=>?_⟩;refine⟨z,y,_,_,rfl,aq.rat s2 hz,hy,yl hl h0 (by omega),yl hl h0 (by omega),fun x H3 _ s3 h3=>?_⟩;exact k x H3 ((s1.trans s2).trans s3) (bF.of h3)
def CU(K:Frag):Sp:=fun vs H Q _=>∃(a:Addr) (l:List Nat),vs=[.ref a]/\aG K H a (ax l)/\e8 l/\∀H',aq H H'->Q (.int ((Kp291.half l:Nat):Int)) H'
abbrev uH:Stmt:=top 19
theorem m5:aC ["weights","total","draws"] ["weights"] (ay uH):=aJ
theorem HZ(T:gE mg)(F:bD K "least_half" "least_half" uH f fd)(cY:Cl P w K mg ae 3 "different_rows" g1 bH ["weights","draws"] (tP K))
  (cC:Cl P w K mg ae 1 "power" g2 cp ["base","exponent"] uE):aM P w K mg ae bo 4 f fd ["weights"] (CU K):=by
 refine bG F m5 fun _ _ _ _ H _ Q _ hr h=>?_;obtain⟨a,l,rfl,ha,hl,k⟩:=h;refine⟨_,(ag (pz 1 m5 (aT (fg rfl) (by rfl) T.gN boot_sum (aa (pv 0) af)))
  (ag (pz 2 m5 ai)
  (ag (u4 PassesOwn.never (aP fR (aO cM ai (ak cY hr (aa (pv 0) (aa (pv 2) af)))) (ak cC hr (aa (pv 1) (aa (pv 2) af))) (aV _))
   (ah (G3 (i:=2) m5.nd rfl (by first|exact Or.inl rfl|exact Or.inr rfl) ai mT)))
  (ah (az (pv 2)))))),?_⟩
 w_on;have hs:=hl.kd;have hf:=hl.jr;refine kf ha ?_;w_on;refine u5 (fun σ H'=>aq H H'/\∃n:Nat,σ=[some (.ref a),some (.int (l.sum:Nat)),some (.int (n:Nat))]/\n<=l.length+1/\∀j,j<n->¬2*differentUp l j<=l.sum ^ j)
  (fun σ _=>match σ with|[_,_,some (.int n)]=>l.length+2 - n.toNat|_=>0) ⟨aq.refl _,0,rfl,by omega,fun j hj=>by omega⟩ ?_ ?_
 ·rintro σ H' ⟨s1,n,rfl,hn,hlt⟩;w_on;refine⟨a,l,n,rfl,s1.seq ha,hl,by omega,fun H1 s2=>?_⟩;w_on;refine⟨.inl (by omega),_,n,rfl,by omega,by omega,by omega,?_⟩;w_on;have e:((l.sum:Nat):Int) ^ n=((l.sum ^ n:Nat):Int):=by rw[Int.natCast_pow]
  rw[e];refine Cy (fun hgt=>?_) (fun hgt=>?_)
  ·have mQ:¬2*differentUp l n<=l.sum ^ n:=by omega
   have Ut:n≠l.length+1:=by
    intro q;rw[q,rK]at mQ;simp at mQ
   refine⟨s1.trans s2,⟨n+1,by rw[Int.natCast_add];rfl,by omega,fun j hj=>?_⟩,by omega⟩;by_cases Lw:j=n
   ·rw[Lw];exact mQ
   exact hlt j (by omega)
  have hh:=Gd (l:=l) (n:=n) (by omega) hlt;have k:=k H1 (s1.trans s2);rw[hh]at k;exact k
 intro σ H1 Q1 Q2 hq;w_on;rintro⟨v1,e1,v2,e2,a',l',n',e3,h3,h4,h5,h6⟩;refine⟨v1,e1,v2,e2,a',l',n',e3,h3,h4,h5,fun H' s'=>?_⟩;obtain⟨i,h7,h8,v3,e4,v4,e5,b,n2,e6,h9,h10,h11,i2,h12,h13⟩:=h6 H' s';exact⟨i,h7,h8,v3,e4,v4,e5,b,n2,e6,h9,h10,h11,i2,h12,hq _ _ h13⟩
theorem S4{α:Type}(n:Nat)(v:α):(List.replicate n [v]).flatten=List.replicate n v:=by
 induction n with
 |zero=>rfl
 |succ n ih=>rw[List.replicate_succ,List.flatten_cons,ih,List.replicate_succ];rfl
theorem CV{H:Hp}{l:Addr}{n:Nat}{v:V}{Q:VK}(h:H l=some (.lst [v]))(hn:n<=1000000)(q:∀p,H p=none->Q (.ref p) (upd H p (.lst (List.replicate n v)))):YT (.ref l) (.int (n:Int)) H Q:=by
 refine⟨l,n,[v],rfl,rfl,h,by omega,by omega,by rw[sizeLine_eq];simp;omega,fun p hp=>?_⟩;rw[Int.toNat_natCast,S4];exact q p hp
def CW(K:Frag):Sp:=fun vs H Q _=>∃(a:Addr) (l:List Nat),vs=[.ref a]/\aG K H a (ax l)/\e8 l/\0<l.sum/\∀z H',aq H H'->bF K H' z (FH l)->Q (.ref z) H'
abbrev uI:Stmt:=top 21
theorem kr:aC ["weights","total","above","draws"] ["weights"] (ay uI):=aJ
theorem Ia(T:gE mg)(F:bD K "mean_first" "mean_first" uI f fd)(cY:Cl P w K mg ae 3 "different_rows" g1 bH ["weights","draws"] (tP K))
  (cC:Cl P w K mg ae 1 "power" g2 cp ["base","exponent"] uE)(aF:Cl P w K mg ae 2 "fraction" g3 c4 ["above","below"] (gy K)):aM P w K mg ae bo 4 f fd ["weights"] (CW K):=by
 refine bG F kr fun _ _ _ _ H _ Q _ hr h=>?_;obtain⟨a,l,rfl,ha,hl,h0,k⟩:=h;refine⟨_,(ag (pz 1 kr (aT (fg rfl) (by rfl) T.gN boot_sum (aa (pv 0) af)))
  (ag (pz 2 kr ai)
  (ag (fQ PassesOwn.never rfl (eK rfl T.gA (aa (aO dh (aT a6 (by rfl) T.dZ boot_len (aa (pv 0) af)) ai) af)) (qz 3 kr)
   (ah (pz 2 kr (aO dh (aO cM (pv 2) (pv 1)) (ak cY hr (aa (pv 0) (aa (pv 3) af)))))))
  (ah (az (ak aF hr (aa (pv 2) (aa (ak cC hr (aa (pv 1) (aa (aT a6 (by rfl) T.dZ boot_len (aa (pv 0) af)) af))) af)))))))),?_⟩
 w_on;have hs:=hl.kd;have hf:=hl.jr;refine kf ha ?_;w_on;refine kY (l.length+1) (by omega) (fun R r=>by w_on;exact⟨_,.inl ha,by rw[aX];exact r⟩)
  (fun i σ H'=>aq H H'/\∃v:Option V,σ=[some (.ref a),some (.int (l.sum:Nat)),some (.int (((List.range i).foldl (fun a n=>a*l.sum+differentUp l n) 0:Nat):Int)),v]) ⟨aq.refl _,_,rfl⟩ ?_ ?_
 ·rintro i σ H' hi ⟨s1,v,rfl⟩;w_on;refine⟨.inr (by omega),a,l,i,rfl,s1.seq ha,hl,by omega,fun H1 s2=>?_⟩;w_on;refine⟨s1.trans s2,?_⟩;rw[List.range_succ,List.foldl_append];simp only[List.foldl_cons,List.foldl_nil,Int.natCast_add,Int.natCast_mul]
 rintro σ H' ⟨s1,v,rfl⟩;w_on;refine⟨_,.inl (s1.seq ha),?_⟩;rw[aX];w_on;refine⟨_,l.length,rfl,by omega,by omega,by omega,?_⟩;refine⟨_,l.sum ^ l.length,by rw[Int.natCast_pow],Nat.pow_pos h0,jj (md (by omega) (by omega)),fun z H2 _ s2 h2=>?_⟩;rw[horner]at h2;exact k z H2 (s1.trans s2) (bF.of h2)
def AV(K:Frag):Sp:=fun vs H Q _=>∃(a:Addr) (l:List Nat) (n:Nat),vs=[.ref a,.int n]/\aG K H a (ax l)/\e8 l/\0<l.sum/\n<=200/\∀z H',aq H H'->bF K H' z (Er l n)->Q (.ref z) H'
theorem yq(n:Nat):ax (List.replicate n 1)=List.replicate n (V.int 1):=by unfold ax;rw[List.map_replicate];rfl
theorem FK{l:List Nat}(h:0<l.sum):0<l.length:=by
 cases l with
 |nil=>simp at h
 |cons a l=>simp
abbrev jl:Stmt:=top 15
theorem tF:aC ["weights","draws"] ["weights","draws"] (ay jl):=aJ
theorem tG(T:gE mg)(F:bD K "likely_even_different" "likely_even_different" jl f fd)(aY:Cl P w K mg ae 4 "likely_different" g1 bH ["weights","draws"] (jk K)):aM P w K mg ae bo 5 f fd ["weights","draws"] (AV K):=by
 refine bG F tF fun _ _ _ _ H _ Q _ hr h=>?_;obtain⟨a,l,n,rfl,ha,hl,h0,hn,k⟩:=h;refine⟨_,(ah (az (ak aY hr (aa (aO qW (aK (aa ai af)) (aT a6 (by rfl) T.dZ boot_len (aa (pv 0) af))) (aa (pv 1) af))))),?_⟩;w_on;refine⟨by decide,fun p hp=>⟨_,.inl ((aq.new hp).seq ha),?_⟩⟩;rw[aX];refine CV aj (by have:=hl.jr;omega) fun q hq=>?_;have s1:aq H (upd (upd H p (.lst [.int 1])) q (.lst (List.replicate l.length (V.int 1)))):=(aq.new hp).trans (aq.new hq);refine⟨q,List.replicate l.length 1,n,rfl,aG.of (by rw[aj,yq]),KC hl,by rw[zQ];exact FK h0,hn,fun z H2 s2 hz=>k z H2 (s1.trans s2) hz⟩
def ku:Sp:=fun vs H Q _=>∃m n:Nat,vs=[.int m,.int n]/\m<=1000/\n<=1000/\Q (.int ((Kp291.choose m n:Nat):Int)) H
abbrev BB:Stmt:=top 2
theorem tQ:aC ["many","few","number","step"] ["many","few"] (ay BB):=aJ
theorem Nl(T:gE mg)(F:bD K "choices" "choices" BB f fd):aM P w K mg ae bo 1 f fd ["many","few"] ku:=by
 refine bG F tQ fun _ _ _ _ H _ Q _ hr h=>?_;obtain⟨m,n,rfl,hm,hn,k⟩:=h;refine⟨_,(ag (pz 2 tQ ai)
  (ag (fQ PassesOwn.never rfl (eK rfl T.gA (aa (pv 1) af)) (qz 3 tQ)
   (ah (pz 2 tQ (aO Hs (aO cM (pv 2) (aO dU (pv 0) (pv 3))) (aO dh (pv 3) ai)))))
  (ah (az (pv 2))))),?_⟩
 w_on;refine kY n (by omega) (fun R r=>by w_on;exact r)
  (fun i σ H'=>H'=H/\∃v:Option V,σ=[some (.int m),some (.int n),some (.int ((Kp291.choose m i:Nat):Int)),v]) ⟨rfl,_,rfl⟩ ?_ ?_
 ·rintro i σ H' hi ⟨rfl,v,rfl⟩;w_on;refine⟨.inr (by omega),⟨by omega,by omega⟩,?_⟩;rw[CH];by_cases h:i<=m
  ·rw[Int.natCast_ediv,Int.natCast_mul,Int.natCast_sub h];rfl
  rw[AS (show m<i by omega)];simp
 rintro σ H' ⟨rfl,v,rfl⟩;w_on;exact k
def FL(K:Frag):Sp:=fun vs H Q _=>∃(a:Addr) (l:List Nat) (i j:Nat),vs=[.ref a,.int i,.int j]/\aG K H a (ax l)/\l.length<=1000/\i<l.length/\j<l.length/\∀z H',aq H H'->H' z=some (.lst (ax (Kp291.level l i j)))->Q (.ref z) H'
theorem ia(l:List Nat)(i v:Nat):(ax l).set i (V.int (v:Int))=ax (l.set i v):=by unfold ax;rw[List.map_set]
abbrev yr:Stmt:=top 45
theorem wy:aC ["weights","one","other","level","new_weights"] ["weights","one","other"] (ay yr):=aJ
theorem Lx(T:gE mg)(F:bD K "levelled" "levelled" yr f fd):aM P w K mg ae bo 1 f fd ["weights","one","other"] (FL K):=by
 refine bG F wy fun _ _ _ _ H _ Q _ hr h=>?_;obtain⟨a,l,i,j,rfl,ha,hlen,hi,hj,k⟩:=h;refine⟨_,(ag (pz 3 wy (aO Hs (aO dh (aD aA (pv 0) (pv 1) (fun _ _=>rfl)) (aD aA (pv 0) (pv 2) (fun _ _=>rfl))) ai))
  (ag (pz 4 wy (rF lJ (by rfl) T.CQ boot_list (aa (pv 0) af)))
  (ag (Rq (pv 3) (Rp (pv 4) (pv 1) set_list))
  (ag (Rq (pv 3) (Rp (pv 4) (pv 2) set_list))
  (ah (az (pv 4))))))),?_⟩
 w_on;refine bq ha (du hi) (bq ha (du hj) ?_);w_on;refine⟨⟨by decide,by decide⟩,⟨_,.inl ha,fun z hz=>?_⟩⟩;w_on;have e:((l.getD i 0:Nat):Int)+((l.getD j 0:Nat):Int)=((l.getD i 0+l.getD j 0:Nat):Int):=by rw[Int.natCast_add]
 have e2:(((l.getD i 0+l.getD j 0:Nat):Int))/2=(((l.getD i 0+l.getD j 0)/2:Nat):Int):=by rw[Int.natCast_ediv];rfl
 rw[e,e2];refine wW aj (by rw[aX];exact hi) ?_;w_on;refine wW aj (by rw[List.length_set,aX];exact hj) ?_;w_on;refine k z _ ?_ ?_
 ·exact aq.put (aq.put (aq.new hz) hz) hz
 rw[aj,ia,ia];rfl
def tab(f:Nat->Nat)(n:Nat):List Nat:=(List.range (n+1)).map f
theorem gB(f:Nat->Nat)(n:Nat):(tab f n).length=n+1:=by unfold tab;rw[List.length_map,List.length_range]
theorem rp(f:Nat->Nat)(n i:Nat)(h:i<=n):(tab f n).getD i 0=f i:=by
 unfold tab;rw[List.getD_eq_getElem?_getD,List.getElem?_map,List.getElem?_range (by omega)];rfl
theorem yt(f:Nat->Nat)(n i:Nat)(h:i<=n):(ax (tab f n))[i]? =some (V.int ((f i:Nat):Int)):=by
 unfold ax tab;rw[List.getElem?_map,List.getElem?_map,List.getElem?_range (by omega)];rfl
theorem Nm(f:Nat->Nat)(n i v:Nat):(tab f n).set i v=tab (fun k=>if k=i then v else f k) n:=by
 unfold tab;apply List.ext_getElem?;intro k;rw[List.getElem?_set,List.getElem?_map,List.getElem?_map];by_cases hk:k<n+1
 ·rw[List.getElem?_range hk];by_cases h:i=k
  ·subst h;simp[hk]
  rw[if_neg h];simp[show ¬k=i from fun q=>h q.symm]
 rw[List.getElem?_eq_none (by simpa using hk)];by_cases h:i=k
 ·subst h;simp[hk]
 rw[if_neg h];rfl
def part2(f:Nat->Nat)(w n:Nat):Nat->Nat
 |0=>0
 |t+1=>part2 f w n t+f (n - t)*(Kp291.choose n t*w ^ t)
theorem Qs(f:Nat->Nat)(w n:Nat):part2 f w n (min n 2+1)=jH f w n:=by
 unfold jH;have c0:Kp291.choose n 0=1:=rfl
 match n with
 |0=>simp[part2,c0]
 |1=>
  simp[part2];rw[ye];have:Kp291.choose 1 0=1:=rfl;rw[this]
  grind
 |n+2=>
  have hm:min (n+2) 2+1=3:=by omega
  rw[hm];simp only[part2];have c0:Kp291.choose (n+2) 0=1:=rfl;rw[c0,ye,tM,if_pos (by omega),if_pos (by omega)]
  grind
theorem kv{f g:Nat->Nat}{n:Nat}(h:∀k,k<=n->f k=g k):tab f n=tab g n:=by
 unfold tab;apply List.map_congr_left;intro k hk;rw[List.mem_range]at hk;exact h k (by omega)
theorem KL(n:Nat):ax (tab (fun _=>0) n)=List.replicate (n+1) (V.int 0):=by
 unfold ax tab;rw[List.map_map,List.eq_replicate_iff];refine⟨by simp,fun x hx=>?_⟩;obtain⟨i,_,e⟩:=List.mem_map.mp hx;rw[<- e];rfl
theorem RK(n:Nat):ax (tab (T []) n)=V.int 1::List.replicate n (V.int 0):=by
 have e:tab (T []) n=1::List.replicate n 0:=by
  apply List.ext_getElem?;intro k;unfold tab;rw[List.getElem?_map];cases k with
  |zero=>simp[Lh]
  |succ k=>
   rw[List.getElem?_cons_succ,List.getElem?_replicate];by_cases hk:k<n
   ·rw[if_pos hk,List.getElem?_range (by omega)];simp[Lh]
   rw[if_neg hk,List.getElem?_eq_none (by simp;omega)];rfl
 rw[e];simp[ax]
theorem JR{j t:Nat}(ht:t<=2)(hj:j<=200):Kp291.choose j t<=40000:=by
 match t,ht with
 |0,_=>show 1<=40000;decide
 |1,_=>rw[ye];omega
 |2,_=>
  rw[tM];have h1:=CA j;have h2:j*(j - 1)<=200*200:=Nat.mul_le_mul hj (by omega);omega
theorem Nn{w t:Nat}(hw:w<=20)(ht:t<=2):w ^ t<=400:=by
 match t,ht with
 |0,_=>simp
 |1,_=>simp;omega
 |2,_=>exact Nat.pow_le_pow_left hw 2
def Np(K:Frag):Sp:=fun vs H Q _=>∃(a:Addr) (l:List Nat) (n:Nat),vs=[.ref a,.int n]/\aG K H a (ax l)/\e8 l/\n<=200/\∀H',aq H H'->Q (.int ((T l n:Nat):Int)) H'
theorem S5(i:Nat):(if((2:Int)<(i:Int))then(2:Int)else(i:Int))=((min i 2:Nat):Int):=by
 by_cases h:(2:Int)<(i:Int)
 ·rw[if_pos h];omega
 rw[if_neg h];omega
abbrev ka:Stmt:=top 22
theorem dC:aC ["weights","draws","rows","weight","longer","length","times","placed"] ["weights","draws"] (ay ka):=aJ
theorem S6(T:gE mg)(F:bD K "twice_at_most_rows" "twice_at_most_rows" ka f fd)(cv:Cl P w K mg ae 1 "choices" g1 bH ["many","few"] ku)
  (cC:Cl P w K mg ae 1 "power" g2 cp ["base","exponent"] uE):aM P w K mg ae bo 2 f fd ["weights","draws"] (Np K):=by
 refine bG F dC fun _ _ _ _ H _ Q _ hr h=>?_;obtain⟨a,l,n,rfl,ha,hl,hn,k⟩:=h;refine⟨_,(ag (pz 2 dC (aO lW (aK (aa ai af)) (aO qW (aK (aa ai af)) (pv 1))))
  (ag (fQ PassesOwn.never rfl (fm (pv 0)) (qz 3 dC)
   (ag (pz 4 dC (aO qW (aK (aa ai af)) (aO dh (pv 1) ai)))
  (ag (fQ PassesOwn.never rfl (eK rfl T.gA (aa (aO dh (pv 1) ai) af)) (qz 5 dC)
   (ah (fQ PassesOwn.never rfl (eK rfl T.gA (aa (aO dh (aT (Ht rfl) (by rfl) T.Va boot_min (aa (pv 5) (aa ai af))) ai) af)) (qz 6 dC)
   (ag (pz 7 dC (aO cM (ak cv hr (aa (pv 5) (aa (pv 6) af))) (ak cC hr (aa (pv 3) (aa (pv 6) af)))))
  (ah (lI (pv 4) (pv 5) j5 (aO cM (aD aA (pv 2) (aO dU (pv 5) (pv 6)) (fun _ _=>rfl)) (pv 7)) mT set_list))))))
  (ah (pz 2 dC (pv 4))))))
  (ah (az (aD aA (pv 2) (pv 1) (fun _ _=>rfl)))))),?_⟩
 w_on;have hs:=hl.kd;have hf:=hl.jr;refine⟨by decide,fun p1 u9=>⟨by decide,fun p2 wx=>CV aj (by omega) fun p3 By=>?_⟩⟩;w_on;refine wV ((aq.new By) _ _ ((aq.new wx) _ _ aj)) aj (iQ (by simp;omega)) fun p4 Ae=>?_;w_on;refine forL (xs:=ax l) (fun R r=>by w_on;exact r) ((((aq.new u9).trans (aq.new wx)).trans ((aq.new By).trans (aq.new Ae))).seq ha)
  (fun i σ H'=>aq H H'/\∃q v3 v4 v5 v6 v7,σ=[some (.ref a),some (.int (n:Int)),some (.ref q),v3,v4,v5,v6,v7]/\H' q=some (.lst (ax (tab (Al.T (l.take i)) n))))
  ⟨((aq.new u9).trans (aq.new wx)).trans ((aq.new By).trans (aq.new Ae)),p4,_,_,_,_,_,rfl,by rw[aj,List.take_zero,RK]⟩ (fun i σ H' _ ⟨s1,_⟩=>s1.seq ha) ?_ ?_
 ·rintro i x σ H' hx ⟨s1,q,v3,v4,v5,v6,v7,rfl,hq⟩;obtain⟨w,hw,rfl⟩:∃w,l[i]? =some w/\x=V.int (w:Int):=by
   unfold ax at hx;rw[List.getElem?_map]at hx;cases e:l[i]? with
   |none=>rw[e]at hx;cases hx
   |some w=>rw[e]at hx;exact⟨w,rfl,(Option.some.inj hx).symm⟩
  have abt:=hl.top w (List.mem_of_getElem? hw);w_on;refine⟨by decide,fun p5 Nq=>?_⟩;have e1:(n:Int)+1=((n+1:Nat):Int):=by omega
  rw[e1];refine CV aj (by omega) fun p6 Vc=>?_;have s2:aq H' (upd (upd H' p5 (.lst [.int 0])) p6 (.lst (List.replicate (n+1) (V.int 0)))):=(aq.new Nq).trans (aq.new Vc);have n6:H' p6=none:=(aq.new Nq).free Vc;w_on;refine kY (n+1) (by omega) (fun R r=>by w_on;rw[e1];exact r)
   (fun j σ H2=>aq H' H2/\∃v5 v6 v7,σ=[some (.ref a),some (.int (n:Int)),some (.ref q),some (.int (w:Int)),some (.ref p6),v5,v6,v7]/\H2 p6=some (.lst (ax (tab (fun k=>if k<j then jH (Al.T (l.take i)) w k else 0) n))))
   ⟨s2,_,_,_,rfl,by rw[aj,<- List.replicate_succ,<- KL];rfl⟩ ?_ ?_
  ·rintro j σ H2 hj ⟨s3,v5,v6,v7,rfl,h6⟩;w_on;refine kY (min j 2+1) (by omega) (fun R r=>by
     w_on;rw[S5,show((min j 2:Nat):Int)+1=((min j 2+1:Nat):Int)by omega];exact r)
    (fun t σ H3=>aq H' H3/\∃v6 v7,σ=[some (.ref a),some (.int (n:Int)),some (.ref q),some (.int (w:Int)),some (.ref p6),some (.int (j:Int)),v6,v7]/\H3 p6=some (.lst (ax (tab (fun k=>if k<j then jH (Al.T (l.take i)) w k else if k=j then part2 (Al.T (l.take i)) w j t else 0) n))))
    ⟨s3,_,_,rfl,by
     rw[h6]
     congr 3
     apply kv;intro k _;by_cases h:k<j
     ·rw[if_pos h,if_pos h]
     rw[if_neg h,if_neg h];split <;> rfl⟩ ?_ ?_
   ·rintro t σ H3 ht ⟨s4,v6,v7,rfl,h6⟩;have htj:t<=j:=by omega
    have ht2:t<=2:=by omega
    w_on;refine⟨j,t,rfl,by omega,by omega,?_⟩;w_on;refine⟨_,t,rfl,by omega,by omega,by omega,?_⟩;w_on;have e2:(w:Int) ^ t=((w ^ t:Nat):Int):=by rw[Int.natCast_pow]
    have c1:=JR ht2 (show j<=200 by omega);have c2:=Nn abt ht2;rw[e2];refine⟨.inr (by omega),?_⟩;refine getL (aG.of h6) (yt _ n j (by omega)) ?_;w_on;have e3:(j:Int) - (t:Int)=((j - t:Nat):Int):=by omega
    rw[e3];refine bq (aG.of (s4 _ _ hq)) (by rw[du (by rw[gB];omega),rp _ _ _ (by omega)]) ?_;w_on;rw[<- Int.natCast_mul];refine⟨.inr ?_,?_⟩
    ·have:Kp291.choose j t*w ^ t<=40000*400:=Nat.mul_le_mul c1 c2;omega
    rw[<- Int.natCast_mul,<- Int.natCast_add];refine wW h6 (by rw[aX,gB];omega) ?_;rw[ia,Nm];refine⟨aq.put s4 n6,?_⟩;rw[aj]
    congr 3
    apply kv;intro k _;by_cases h:k=j
    ·subst h;rw[if_pos rfl,if_neg (Nat.lt_irrefl _),if_pos rfl,if_neg (Nat.lt_irrefl _)];rfl
    rw[if_neg h,if_neg h];by_cases h':k<j
    ·rw[if_pos h',if_pos h']
    rw[if_neg h',if_neg h',if_neg h]
   rintro σ H3 ⟨s4,v6,v7,rfl,h6⟩;refine⟨s4,⟨_,_,_,rfl⟩,?_⟩;rw[h6,Qs]
   congr 3
   apply kv;intro k _;by_cases h:k<j
   ·rw[if_pos h,if_pos (by omega)]
   rw[if_neg h];by_cases h2:k=j
   ·rw[if_pos h2,if_pos (by omega),h2]
   rw[if_neg h2,if_neg (by omega)]
  rintro σ H2 ⟨s3,v5,v6,v7,rfl,h6⟩;w_on;refine⟨s1.trans s3,?_⟩;rw[h6,fv hw]
  congr 3
  apply kv;intro k hk;rw[if_pos (by omega),WQ]
 rintro σ H' ⟨s1,q,v3,v4,v5,v6,v7,rfl,hq⟩;w_on;rw[aX,List.take_length]at hq;refine bq (aG.of hq) (by rw[du (by rw[gB];omega),rp _ _ _ (Nat.le_refl _)]) ?_;exact k H' s1
def Nr(K:Frag):Sp:=fun vs H Q _=>∃(a:Addr) (l:List Nat) (n:Nat),vs=[.ref a,.int n]/\aG K H a (ax l)/\e8 l/\0<l.sum/\n<=200/\∀z H',aq H H'->bF K H' z (CK l n)->Q (.ref z) H'
abbrev qc:Stmt:=top 23
theorem va:aC ["weights","draws","every_row"] ["weights","draws"] (ay qc):=aJ
theorem EB(T:gE mg)(F:bD K "likely_three" "likely_three" qc f fd)(iM:Cl P w K mg ae 2 "twice_at_most_rows" g1 bH ["weights","draws"] (Np K))
  (cC:Cl P w K mg ae 1 "power" g2 cp ["base","exponent"] uE)(aF:Cl P w K mg ae 2 "fraction" g3 c4 ["above","below"] (gy K)):aM P w K mg ae bo 3 f fd ["weights","draws"] (Nr K):=by
 refine bG F va fun _ _ _ _ H _ Q _ hr h=>?_;obtain⟨a,l,n,rfl,ha,hl,h0,hn,k⟩:=h;refine⟨_,(ag (pz 2 va (ak cC hr (aa (aT (fg rfl) (by rfl) T.gN boot_sum (aa (pv 0) af)) (aa (pv 1) af))))
  (ah (az (ak aF hr (aa (aO dU (pv 2) (ak iM hr (aa (pv 0) (aa (pv 1) af)))) (aa (pv 2) af)))))),?_⟩
 w_on;have hs:=hl.kd;refine kf ha ?_;w_on;refine⟨_,n,rfl,by omega,by omega,by omega,?_⟩;w_on;refine⟨a,l,n,rfl,ha,hl,hn,fun H1 s1=>?_⟩;w_on;have hT:=abq l n;refine⟨((l.sum ^ n - Al.T l n:Nat):Int),l.sum ^ n,?_,Nat.pow_pos h0,jj (md (by omega) hn),fun z H' _ s2 h2=>?_⟩
 ·rw[Int.natCast_sub hT,Int.natCast_pow]
 exact k z H' (s1.trans s2) (bF.of h2)
theorem dv(a b:Int):Uq (.int a) (.int b)=true:=rfl
section
variable{g:TG}{tb:TS}{D:Ends}{σ:L2.St}{H:Hp}{K:Frag}
theorem Qt{tl:TE}{post:Addr->Hp->Prop}(Bw:∀R:VK,(∀z H1,post z H1->R (.ref z) H1)->tl σ H R)
  (body:∀z H1,post z H1->∃xs,aG K H1 z xs/\∃Pv:Nat->L2.St->Hp->Prop,Pv 0 σ H1/\(∀i σ H',i<=xs.length->Pv i σ H'->aG K H' z xs)/\
   (∀i x σ H,xs[i]? =some x->Pv i σ H->g x σ H fun σ2 H2=>tb {D with nx:=Pv (i+1),ct:=Pv (i+1),bk:=D.nx} σ2 H2)/\∀σ H,Pv xs.length σ H->D.nx σ H):Fw (Ej K tl) g tb D σ H:=by
 refine Bw _ fun z H1 hp=>?_;obtain⟨xs,hl,Pv,h0,hk,hs,hd⟩:=body z H1 hp;exact⟨z,rfl,⟨xs,hl⟩,Kr Pv h0 hk hs hd⟩
theorem Vd{ta:TA}{p q:Nat}{post:Addr->Hp->Prop}(lj:∀R:List V->Hp->Prop,(∀z H1,post z H1->R [.ref z] H1)->ta σ H R)
  (body:∀z H1,post z H1->∃xs,aG K H1 z xs/\∃Pv:Nat->L2.St->Hp->Prop,Pv 0 σ H1/\(∀i σ H',i<=xs.length->Pv i σ H'->aG K H' z xs)/\
   (∀i x σ H',xs[i]? =some x->∀xC,Pv i σ H'->aq H' xC->tb {D with nx:=Pv (i+1),ct:=Pv (i+1),bk:=D.nx} ((σ.set p (some (.int (i:Nat)))).set q (some x)) xC)/\∀σ H,Pv xs.length σ H->D.nx σ H):
  Fw (OL K ta) (Kn K 2 (vY (bc p) (vY (bc q) Mv))) tb D σ H:=by
 refine lj _ fun z H1 hp=>?_;obtain⟨xs,hl,Pv,h0,hk,hs,hd⟩:=body z H1 hp;exact U9 (ta:=fun _ H R=>R [.ref z] H) (fun R r=>r) hl Pv h0 hk (fun i x σ H' hx xC pv ⟨T,hT,e⟩=>hs i x σ H' hx xC pv (by subst e;exact aq.new hT)) hd
end
def dP(l c:List Nat):List Nat:=(l.zip c).filterMap fun z=>if z.2=0 then some z.1 else none
theorem JS(L:List (Nat×Nat)):L.filterMap (fun z=>if z.2=0 then some (V.int (z.1:Int))else none)=ax (L.filterMap fun z=>if z.2=0 then some z.1 else none):=by
 induction L with
 |nil=>rfl
 |cons a L ih=>
  rw[List.filterMap_cons,List.filterMap_cons];by_cases h:a.2=0
  ·simp only[if_pos h];rw[ih];rfl
  simp only[if_neg h];exact ih
theorem Ly{s:List Int}{b:Nat}(h:∀x∈s,x.natAbs<=b)(w:Nat):∀x∈sstep s w,x.natAbs<=2*b:=by
 intro x hx;unfold sstep at hx;obtain⟨i,hi,e⟩:=List.getElem_of_mem hx;rw[List.getElem_zipWith]at e;have key:∀y:Int,(y∈s++List.replicate w 0∨y∈List.replicate w 0++s)->y.natAbs<=b:=by
  intro y hy;have:y∈s∨y=0:=by
   rcases hy with hy|hy
   ·rcases List.mem_append.mp hy with q|q
    ·exact .inl q
    exact .inr (List.mem_replicate.mp q).2
   rcases List.mem_append.mp hy with q|q
   ·exact .inr (List.mem_replicate.mp q).2
   exact .inl q
  rcases this with q|q
  ·exact h y q
  rw[q];simp
 have h1:=key _ (.inl (List.getElem_mem (by rw[List.length_zipWith]at hi;omega:i<(s++List.replicate w 0).length)));have h2:=key _ (.inr (List.getElem_mem (by rw[List.length_zipWith]at hi;omega:i<(List.replicate w 0++s).length)));rw[<- e];omega
theorem CY(ws:List Nat):∀x∈aS ws,x.natAbs<=2 ^ ws.length:=by
 refine snoc_ind (P:=fun ws=>∀x∈aS ws,x.natAbs<=2 ^ ws.length) (fun x hx=>?_) (fun l w ih x hx=>?_) ws
 ·simp[aS]at hx;rw[hx]
  decide
 rw[fH]at hx;rw[List.length_append,List.length_singleton,Nat.pow_succ,Nat.mul_comm];exact Ly ih w x hx
structure Lk(total:Nat)(ws:List Nat):Prop where
 jr:ws.length<=6
 sum:ws.sum<=total
 top:total<=120
theorem Lk.bound{total:Nat}{ws:List Nat}(h:Lk total ws){x:Int}(hx:x∈aS ws):x.natAbs<=64:=
 Nat.le_trans (CY ws x hx) (Nat.le_trans (Nat.pow_le_pow_right (by decide) h.jr) (by decide))
theorem Lk.len{total:Nat}{ws:List Nat}(h:Lk total ws):(aS ws).length<=121:=by
 rw[lX];have:=h.sum;have:=h.top;omega
theorem Nt(g:Nat->Rat){s:List Int}{i:Nat}{x:Int}(h:s[i]? =some x):cP g 0 (s.take (i+1))=cP g 0 (s.take i)+(x:Rat)*g i:=by
 have hi:i<s.length:=(List.getElem?_eq_some_iff.mp h).1;rw[fv h,uC,List.length_take,Nat.min_eq_left (by omega)]
 congr 1
 rw[cP,cP,Nat.zero_add,Rat.add_zero]
theorem Nu(g:Nat->Int){s:List Int}{i:Nat}{x:Int}(h:s[i]? =some x):j6 g 0 (s.take (i+1))=j6 g 0 (s.take i)+x*g i:=by
 have hi:i<s.length:=(List.getElem?_eq_some_iff.mp h).1;rw[fv h,JL,List.length_take,Nat.min_eq_left (by omega)]
 congr 1
 rw[j6,j6,Nat.zero_add,Int.add_zero]
theorem Qu{ab:Int}{bl t i:Nat}{x:Int}(hb:0<bl)(hi:0<i):mkRat (ab*(i:Int) - x*(t:Int)*(bl:Int)) (bl*i)=mkRat ab bl - (x:Rat)*mkRat (t:Int) i:=by
 rw[Rat.mkRat_eq_div,Rat.mkRat_eq_div,Rat.mkRat_eq_div];have e1:(((bl*i:Nat):Nat):Rat)=(bl:Rat)*(i:Rat):=by rw[Rat.natCast_mul]
 rw[e1,Rat.intCast_sub,Rat.intCast_mul,Rat.intCast_mul,Rat.intCast_mul];have h1:((bl:Nat):Rat)≠0:=by
  intro q;rw[Rat.natCast_eq_zero_iff]at q;omega
 have h2:((i:Nat):Rat)≠0:=by
  intro q;rw[Rat.natCast_eq_zero_iff]at q;omega
 have c1:(((bl:Nat):Int):Rat)=((bl:Nat):Rat):=rfl;have c2:(((i:Nat):Int):Rat)=((i:Nat):Rat):=rfl;have c3:(((t:Nat):Int):Rat)=((t:Nat):Rat):=rfl;rw[c1,c2,c3]
 grind
def CZ(K:Frag):Sp:=fun vs H Q _=>∃(a b:Addr) (l c:List Nat),vs=[.ref a,.ref b]/\aG K H a (ax l)/\aG K H b (ax c)/\l.length<=1000/\l.length=c.length/\∀z H',aq H H'->H' z=some (.lst (ax (dP l c)))->Q (.ref z) H'
abbrev mf:Stmt:=top 110
theorem js:aC ["weights","counts","weight","count"] ["weights","counts"] (ay mf):=aJ
theorem Ag(T:gE mg)(F:bD K "lacking_weights" "lacking_weights" mf f fd):aM P w K mg ae bo 1 f fd ["weights","counts"] (CZ K):=by
 refine bG F js fun _ _ _ _ H _ Q _ hr h=>?_;obtain⟨a,b,l,c,rfl,ha,hb,hl,hlc,k⟩:=h;refine⟨_,(ah (az (lh rfl js.nd (zN rfl T.Eu (aa (pv 0) (aa (pv 1) af))) (c7 (own:=[("weight",2),("count",3)]) (by rfl)) (fun _ _ _ _ _=>(u7 (K:=K) (n:=2) rfl rfl (eJ (qz 2 js) (eJ (qz 3 js) lH)))) (fun _ _ _ _ _=>yb (aP iE (pv 3) ai (aV _))) (fun _ _ _ _ _=>(pv 2))))),?_⟩;w_on;refine KJ l c (fun(n:Nat)=>V.int (n:Int)) (fun(n:Nat)=>V.int (n:Int)) (fun x y=>if y=0 then some (V.int (x:Int))else none) (fun R r=>by w_on;exact r) ha hb (by omega) hlc (fun x y H5 Ry Rn Nk s5 h1 h2=>?_) (fun D H5 hD s5 h5=>?_)
 ·w_on;refine⟨dv _ _,Cy (fun hy=>?_) (fun hy=>?_)⟩
  ·exact h1 _ _ (aq.refl _) (if_pos (by omega))
  exact h2 _ (aq.refl _) (if_neg (by omega))
 rw[JS]at h5;exact k D H5 s5 h5
def zU(K:Frag):Sp:=fun vs H Q _=>∃(a:Addr) (l:List Nat),vs=[.ref a]/\aG K H a (ax l)/\l.length<=6/\l.sum<=120/\∀z H',aq H H'->H' z=some (.lst (c9 (aS l)))->Q (.ref z) H'
theorem Lz(L M:List Int):(L.zip M).filterMap (fun z=>some (V.int (z.1 - z.2)))=c9 (List.zipWith (fun a b=>a - b) L M):=by
 induction L generalizing M with
 |nil=>rfl
 |cons a L ih=>
  cases M with
  |nil=>rfl
  |cons b M=>
   rw[List.zip_cons_cons,List.filterMap_cons,List.zipWith_cons_cons,ih M];rfl
theorem LA(l:List Nat)(i:Nat):(l.take i).sum<=l.sum:=by
 have h:(l.take i++l.drop i).sum=l.sum:=by rw[List.take_append_drop]
 rw[List.sum_append]at h;omega
theorem FN{l:List Nat}{x:Nat}(h:x∈l):x<=l.sum:=by
 obtain⟨r,e,_⟩:=wq h;omega
abbrev rR:Stmt:=top 111
theorem gn:aC ["weights","signed","weight","without","within","even","odd"] ["weights"] (ay rR):=aJ
theorem Gf(T:gE mg)(F:bD K "signed_sets" "signed_sets" rR f fd):aM P w K mg ae bo 1 f fd ["weights"] (zU K):=by
 refine bG F gn fun _ _ _ _ H _ Q _ hr h=>?_;obtain⟨a,l,rfl,ha,hl,abu,k⟩:=h;refine⟨_,(ag (pz 1 gn (aK (aa ai af)))
  (ag (fQ PassesOwn.never rfl (fm (pv 0)) (qz 2 gn)
   (ag (pz 3 gn (aO lW (pv 1) (aO qW (aK (aa ai af)) (pv 2))))
  (ag (pz 4 gn (aO lW (aO qW (aK (aa ai af)) (pv 2)) (pv 1)))
  (ah (j2 (i:=1) rfl gn.nd rfl rfl rfl (zN rfl T.Eu (aa (pv 3) (aa (pv 4) af))) (c7 (own:=[("even",5),("odd",6)]) (by rfl)) (fun _ _ _ _ _=>(u7 (K:=K) (n:=2) rfl rfl (eJ (qz 5 gn) (eJ (qz 6 gn) lH)))) (fun _ _ _ _ _=>fq) (fun _ _ _ _ _=>(aO dU (pv 5) (pv 6))))))))
  (ah (az (pv 1))))),?_⟩
 w_on;refine⟨by decide,fun p hp=>?_⟩;refine forL (xs:=ax l) (fun R r=>by w_on;exact r) ((aq.new hp).seq ha) (fun i σ H'=>aq H H'/\∃q v2 v3 v4,σ=[some (.ref a),some (.ref q),v2,v3,v4,none,none]/\H' q=some (.lst (c9 (aS (l.take i)))))
  ⟨aq.new hp,p,_,_,_,rfl,by rw[aj];rfl⟩ (fun i σ H' _ ⟨s1,_⟩=>s1.seq ha) ?_ ?_
 ·rintro i x σ H' hx ⟨s1,q,v2,v3,v4,rfl,hq⟩;obtain⟨w,hw,rfl⟩:∃w,l[i]? =some w/\x=V.int (w:Int):=by
   unfold ax at hx;rw[List.getElem?_map]at hx;cases e:l[i]? with
   |none=>rw[e]at hx;cases hx
   |some w=>rw[e]at hx;exact⟨w,rfl,(Option.some.inj hx).symm⟩
  have abX:w<=120:=Nat.le_trans (FN (List.mem_of_getElem? hw)) abu;have hlen:(aS (l.take i)).length<=121:=by
   rw[lX];have:=LA l i;omega
  w_on;refine⟨by decide,fun p1 u9=>CV aj (by omega) fun p2 wx=>?_⟩;w_on;have s2:aq H' (upd (upd H' p1 (.lst [.int 0])) p2 (.lst (List.replicate w (V.int 0)))):=(aq.new u9).trans (aq.new wx);refine wV (s2 _ _ hq) aj (iQ (by simp[c9];omega)) fun p3 By=>?_;w_on;refine⟨by decide,fun p4 Ae=>CV aj (by omega) fun p5 Nq=>?_⟩;w_on;have s5:=(s2.trans (aq.new (o:=.lst (c9 (aS (l.take i))++List.replicate w (V.int 0))) By)).trans ((aq.new (o:=.lst [.int 0]) Ae).trans (aq.new (o:=.lst (List.replicate w (V.int 0))) Nq));refine wV aj (s5 _ _ hq) (iQ (by simp[c9];omega)) fun p6 Vc=>?_;w_on;refine KJ (aS (l.take i)++List.replicate w 0) (List.replicate w 0++aS (l.take i)) V.int V.int (fun x y=>some (V.int (x - y))) (fun R r=>by w_on;exact r) ?_ ?_ (by simp;omega) (by simp;omega) (fun x y H7 Ry Rn Nk s7 h1 h2=>?_) (fun D7 H7 hD7 s7 h7=>?_)
  ·refine .inl (.inl ?_);rw[(((aq.new Ae).trans (aq.new Nq)).trans (aq.new Vc)) _ _ aj];simp[c9]
  ·refine .inl (.inl ?_);rw[aj];simp[c9]
  ·w_on;exact h1 _ _ (aq.refl _) rfl
  refine⟨(s1.trans s5).trans ((aq.new Vc).trans s7),?_⟩;w_on;rw[h7,fv hw,fH,Lz];rfl
 rintro σ H' ⟨s1,q,v2,v3,v4,rfl,hq⟩;w_on;refine k q H' s1 ?_;rw[hq,aX,List.take_length]
theorem Ib{s:List Int}{i:Nat}{v:V}(h:(c9 s)[i]? =some v):∃x,s[i]? =some x/\v=V.int x:=by
 unfold c9 at h;rw[List.getElem?_map]at h;cases e:s[i]? with
 |none=>rw[e]at h;cases h
 |some x=>rw[e]at h;exact⟨x,rfl,(Option.some.inj h).symm⟩
theorem mh(l:List Int):(c9 l).length=l.length:=List.length_map ..
theorem Nv{i:Nat}(hi:i<=121):8192*i*128 ^ i<2 ^ 1900:=by
 have h1:8192*i*128 ^ i<=8192*121*128 ^ 121:=Nat.mul_le_mul (Nat.mul_le_mul_left _ hi) (Nat.pow_le_pow_right (by decide) hi);exact Nat.lt_of_le_of_lt h1 (by decide +kernel)
theorem LB{i:Nat}(hi:i<=121):128 ^ i<2 ^ 1900:=by
 exact Nat.lt_of_le_of_lt (Nat.pow_le_pow_right (by decide) hi) (by decide +kernel)
theorem S7{ab x:Int}{bl i t p:Nat}(h1:ab.natAbs<=8192*i*p)(h2:bl<=p)(hx:x.natAbs<=64)(ht:t<=120)(hi:i<=120):(ab*(i:Int) - x*(t:Int)*(bl:Int)).natAbs<=8192*(i+1)*(p*128):=by
 have a1:(ab*(i:Int)).natAbs<=8192*i*p*128:=by
  rw[Int.natAbs_mul,Int.natAbs_natCast];exact Nat.mul_le_mul h1 (by omega)
 have a2:(x*(t:Int)*(bl:Int)).natAbs<=64*120*p:=by
  rw[Int.natAbs_mul,Int.natAbs_mul,Int.natAbs_natCast,Int.natAbs_natCast];exact Nat.mul_le_mul (Nat.mul_le_mul hx ht) h2
 have e:8192*(i+1)*(p*128)=8192*i*p*128+8192*128*p:=by grind
 rw[e];have:64*120*p<=8192*128*p:=Nat.mul_le_mul_right _ (by decide);omega
def C0(K:Frag):Sp:=fun vs H Q _=>∃(t:Nat) (a:Addr) (l:List Nat),vs=[.int t,.ref a]/\aG K H a (ax l)/\Lk t l/\∀z H',aq H H'->bF K H' z (gw t l)->Fits (gw t l)->Q (.ref z) H'
abbrev uJ:Stmt:=top 112
theorem iG:aC ["total","lacking","above","below","weight","signed"] ["total","lacking"] (ay uJ):=aJ
theorem Ic(T:gE mg)(F:bD K "mean_draws" "mean_draws" uJ f fd)(eg:Cl P w K mg ae 1 "signed_sets" g1 bH ["weights"] (zU K))
  (aF:Cl P w K mg ae 2 "fraction" g2 cp ["above","below"] (gy K)):aM P w K mg ae bo 3 f fd ["total","lacking"] (C0 K):=by
 refine bG F iG fun _ _ _ _ H _ Q _ hr h=>?_;obtain⟨t,a,l,rfl,ha,hl,k⟩:=h;have ht:=hl.top;have hlen:=hl.len;refine⟨_,(ag (pz 2 iG ai)
  (ag (pz 3 iG ai)
  (ag (fQ PassesOwn.never rfl (Cw rfl T.rb (aa (ak eg hr (aa (pv 1) af)) af)) (Co rfl (eJ (qz 4 iG) (eJ (qz 5 iG) lH)))
   (ah (a9 (PW.pt (La (aP fR (pv 4) ai (aV _)) (Hm (aP Ur (pv 5) ai (aV _)))))
   (ag (pz 2 iG (aO dU (aO cM (pv 2) (pv 4)) (aO cM (aO cM (pv 5) (pv 0)) (pv 3))))
  (ah (pz 3 iG (aO cM (pv 3) (pv 4)))))
   aI)))
  (ah (az (ak aF hr (aa (pv 2) (aa (pv 3) af)))))))),?_⟩
 w_on;refine Vd (post:=fun z H1=>aq H H1/\H1 z=some (.lst (c9 (aS l)))) (fun R r=>by
  w_on;exact⟨a,l,rfl,ha,hl.jr,by have:=hl.sum;omega,fun z H1 s1 hz=>r z H1 ⟨s1,hz⟩⟩) (fun z H1 ⟨s1,hz⟩=>?_)
 refine⟨_,aG.of hz,fun i σ H'=>aq H1 H'/\∃(ab:Int) (bl:Nat) (v4 v5:Option V),σ=[some (.int (t:Int)),some (.ref a),some (.int ab),some (.int (bl:Int)),v4,v5]/\0<bl/\bl<=128 ^ i/\ab.natAbs<=8192*i*128 ^ i/\
   mkRat ab bl= - cP (fun w=>mkRat (t:Int) w) 0 ((aS l).take i),⟨aq.refl _,0,1,_,_,rfl,by decide,by simp,by simp,?_⟩,fun i σ H' _ ⟨s2,_⟩=>aG.of (s2 _ _ hz),?_,?_⟩
 ·rw[List.take_zero,cP,Rat.zero_mkRat];rfl
 ·rintro i y σ H' hy xC ⟨s2,ab,bl,v4,v5,rfl,S8,Qv,ha1,hm⟩ s3;obtain⟨x,hx,rfl⟩:=Ib hy;have hi:i<(aS l).length:=(List.getElem?_eq_some_iff.mp hx).1;have hb:=hl.bound (List.mem_of_getElem? hx);w_on;have hw:=Nt (fun w=>mkRat (t:Int) w) hx;refine Cy (fun hi0=>⟨dv _ _,?_⟩) (fun hi0=>?_)
  ·refine Cy (fun hx0=>?_) (fun hx0=>?_)
   ·refine⟨.inr (by omega),.inr (by omega),.inl ?_,.inr (by omega),s2.trans s3,?_⟩
    ·have:(x*(t:Int)).natAbs<=64*120:=by
      rw[Int.natAbs_mul,Int.natAbs_natCast];exact Nat.mul_le_mul hb ht
     omega
    refine⟨bl*i,by rw[Int.natCast_mul],Nat.mul_pos S8 (by omega),?_,?_,?_⟩
    ·rw[Nat.pow_succ];exact Nat.mul_le_mul Qv (by omega)
    ·rw[Nat.pow_succ];exact S7 ha1 Qv hb ht (by omega)
    rw[Qu S8 (by omega),hm,hw,Rat.neg_add,Rat.sub_eq_add_neg]
   have hx1:x=0:=by simpa using hx0
   refine⟨s2.trans s3,bl,rfl,S8,?_,?_,?_⟩
   ·rw[Nat.pow_succ];omega
   ·rw[Nat.pow_succ];refine Nat.le_trans ha1 (Nat.mul_le_mul (by omega) (by omega))
   rw[hw,hx1,hm];simp[Rat.add_zero]
  have hi1:i=0:=by omega
  refine⟨s2.trans s3,bl,rfl,S8,?_,?_,?_⟩
  ·rw[Nat.pow_succ];omega
  ·rw[Nat.pow_succ];refine Nat.le_trans ha1 (Nat.mul_le_mul (by omega) (by omega))
  rw[hw,hm,hi1,Rat.mkRat_zero,Rat.mul_zero,Rat.add_zero]
 rintro σ H' ⟨s2,ab,bl,v4,v5,rfl,S8,Qv,ha1,hm⟩;rw[mh]at Qv ha1 hm;rw[List.take_length]at hm;have b1:=Nat.lt_of_le_of_lt Qv (LB hlen);have b2:=Nat.lt_of_le_of_lt ha1 (Nv hlen);w_on;refine⟨ab,bl,rfl,S8,jj b1,fun z2 H2 _ s3 h3=>?_⟩;have e:mkRat ab bl=gw t l:=hm;have ft:Fits (mkRat ab bl):=CS (by omega) b2 b1;rw[e]at h3 ft;exact k z2 H2 ((s1.trans s2).trans s3) (bF.of h3) ft
def mJ(K:Frag):Sp:=fun vs H Q _=>∃(a b:Addr) (l c:List Nat),vs=[.ref a,.ref b]/\aG K H a (ax l)/\aG K H b (ax c)/\e8 l/\l.length=c.length/\
 ∀z H',aq H H'->bF K H' z (gw l.sum (dP l c))->Fits (gw l.sum (dP l c))->Q (.ref z) H'
theorem Qw(l c:List Nat):(dP l c).length<=l.length:=by
 unfold dP;refine Nat.le_trans (List.length_filterMap_le _ _) ?_;rw[List.length_zip];omega
theorem Qx(l c:List Nat):(dP l c).sum<=l.sum:=by
 unfold dP
 induction l generalizing c with
 |nil=>exact Nat.le_refl _
 |cons a l ih=>
  cases c with
  |nil=>simp
  |cons b c=>
   rw[List.zip_cons_cons,List.filterMap_cons,List.sum_cons];have:=ih c;by_cases h:b=0
   ·simp only[if_pos h,List.sum_cons];omega
   simp only[if_neg h];omega
theorem e8.lk{l:List Nat}(h:e8 l)(c:List Nat):Lk l.sum (dP l c):=⟨Nat.le_trans (Qw l c) h.jr,Qx l c,h.kd⟩
abbrev m6:Stmt:=top 113
theorem BC:aC ["weights","counts"] ["weights","counts"] (ay m6):=aJ
theorem BD(T:gE mg)(F:bD K "collector_mean" "collector_mean" m6 f fd)(pA:Cl P w K mg ae 3 "mean_draws" g1 bH ["total","lacking"] (C0 K))
  (cR:Cl P w K mg ae 1 "lacking_weights" g2 cp ["weights","counts"] (CZ K)):aM P w K mg ae bo 4 f fd ["weights","counts"] (mJ K):=by
 refine bG F BC fun _ _ _ _ H _ Q _ hr h=>?_;obtain⟨a,b,l,c,rfl,ha,hb,hl,hlc,k⟩:=h;refine⟨_,(ah (az (ak pA hr (aa (aT (fg rfl) (by rfl) T.gN boot_sum (aa (pv 0) af)) (aa (ak cR hr (aa (pv 0) (aa (pv 1) af))) af))))),?_⟩;w_on;have hf:=hl.jr;refine kf ha ?_;w_on;refine⟨a,b,l,c,rfl,ha,hb,by omega,hlc,fun z H1 s1 hz=>?_⟩;exact⟨l.sum,z,dP l c,rfl,aG.of hz,hl.lk c,fun y H2 s2 hy hf=>k y H2 (s1.trans s2) hy hf⟩
def Ie(K:Frag):Sp:=fun vs H Q _=>∃(t:Nat) (a:Addr) (l:List Nat) (n:Nat),vs=[.int t,.ref a,.int n]/\aG K H a (ax l)/\Lk t l/\0<t/\n<=200/\∀z H',aq H H'->bF K H' z (pk t l n)->Q (.ref z) H'
abbrev oF:Stmt:=top 114
theorem iT:aC ["total","lacking","draws","rows","weight","signed"] ["total","lacking","draws"] (ay oF):=aJ
theorem C1(T:gE mg)(F:bD K "likely_all_by" "likely_all_by" oF f fd)(eg:Cl P w K mg ae 1 "signed_sets" g1 bH ["weights"] (zU K))
  (aF:Cl P w K mg ae 2 "fraction" g2 cp ["above","below"] (gy K))(cC:Cl P w K mg ae 1 "power" g3 c4 ["base","exponent"] uE):aM P w K mg ae bo 3 f fd ["total","lacking","draws"] (Ie K):=by
 refine bG F iT fun _ _ _ _ H _ Q _ hr h=>?_;obtain⟨t,a,l,n,rfl,ha,hl,W3,hn,k⟩:=h;have ht:=hl.top;have hsm:=hl.sum;have hlen:=hl.len;refine⟨_,(ag (pz 3 iT ai)
  (ag (fQ PassesOwn.never rfl (Cw rfl T.rb (aa (ak eg hr (aa (pv 1) af)) af)) (Co rfl (eJ (qz 4 iT) (eJ (qz 5 iT) lH)))
   (ah (G3 (i:=3) iT.nd rfl (by first|exact Or.inl rfl|exact Or.inr rfl) (aO cM (pv 5) (ak cC hr (aa (aO dU (pv 0) (pv 4)) (aa (pv 2) af)))) mT)))
  (ah (az (ak aF hr (aa (pv 3) (aa (ak cC hr (aa (pv 0) (aa (pv 2) af))) af))))))),?_⟩
 w_on;refine Vd (post:=fun z H1=>aq H H1/\H1 z=some (.lst (c9 (aS l)))) (fun R r=>by
  w_on;exact⟨a,l,rfl,ha,hl.jr,by omega,fun z H1 s1 hz=>r z H1 ⟨s1,hz⟩⟩) (fun z H1 ⟨s1,hz⟩=>?_)
 refine⟨_,aG.of hz,fun i σ H'=>aq H1 H'/\∃(v4 v5:Option V),σ=[some (.int (t:Int)),some (.ref a),some (.int (n:Int)),some (.int (j6 (fun w=>(((t - w) ^ n:Nat):Int)) 0 ((aS l).take i))),v4,v5],
  ⟨aq.refl _,_,_,rfl⟩,fun i σ H' _ ⟨s2,_⟩=>aG.of (s2 _ _ hz),?_,?_⟩
 ·rintro i y σ H' hy xC ⟨s2,v4,v5,rfl⟩ s3;obtain⟨x,hx,rfl⟩:=Ib hy;have hi:i<(aS l).length:=(List.getElem?_eq_some_iff.mp hx).1;have hb:=hl.bound (List.mem_of_getElem? hx);rw[lX]at hi;w_on;have e1:(t:Int) - (i:Int)=((t - i:Nat):Int):=by omega
  rw[e1];refine⟨_,n,rfl,by omega,by omega,by omega,?_⟩;w_on;refine⟨.inl (by omega),s2.trans s3,?_⟩;rw[Nu _ hx,Int.natCast_pow]
 rintro σ H' ⟨s2,v4,v5,rfl⟩;w_on;rw[mh,List.take_length];refine⟨_,n,rfl,by omega,by omega,by omega,?_⟩;refine⟨_,t ^ n,by rw[Int.natCast_pow],Nat.pow_pos W3,jj (md (by omega) hn),fun z2 H2 _ s3 h3=>?_⟩;refine k z2 H2 ((s1.trans s2).trans s3) (bF.of ?_);rw[HS W3];exact h3
def rS(t:Nat)(l:List Nat)(n:Nat):Nat:=(l.map fun w=>t ^ n - (t - w) ^ n).sum
def C3(K:Frag):Sp:=fun vs H Q _=>∃(t:Nat) (a:Addr) (l:List Nat) (n:Nat),vs=[.int t,.ref a,.int n]/\aG K H a (ax l)/\Lk t l/\0<t/\n<=200/\∀z H',aq H H'->bF K H' z (mkRat ((rS t l n:Nat):Int) (t ^ n))->Q (.ref z) H'
abbrev uK:Stmt:=top 116
theorem kx:aC ["total","lacking","draws","every_row","rows","weight"] ["total","lacking","draws"] (ay uK):=aJ
theorem Ig(T:gE mg)(F:bD K "mean_fresh" "mean_fresh" uK f fd)
  (aF:Cl P w K mg ae 2 "fraction" g2 cp ["above","below"] (gy K))(cC:Cl P w K mg ae 1 "power" g3 c4 ["base","exponent"] uE):aM P w K mg ae bo 3 f fd ["total","lacking","draws"] (C3 K):=by
 refine bG F kx fun _ _ _ _ H _ Q _ hr h=>?_;obtain⟨t,a,l,n,rfl,ha,hl,W3,hn,k⟩:=h;have ht:=hl.top;have hsm:=hl.sum;have hf:=hl.jr;refine⟨_,(ag (pz 3 kx (ak cC hr (aa (pv 0) (aa (pv 2) af))))
  (ag (pz 4 kx (aT (fg rfl) (by rfl) T.gN boot_sum (aa (lh rfl kx.nd (fm (pv 1)) (c7 (own:=[("weight",5)]) (by rfl)) (fun _ _ _ _ _=>(qz 5 kx)) (fun _ _ _ _ _=>fq) (fun _ _ _ _ _=>(aO dU (pv 3) (ak cC hr (aa (aO dU (pv 0) (pv 5)) (aa (pv 2) af)))))) af)))
  (ah (az (ak aF hr (aa (pv 4) (aa (pv 3) af))))))),?_⟩
 w_on;refine⟨_,n,rfl,by omega,by omega,by omega,?_⟩;w_on;refine yi l (fun(n:Nat)=>V.int (n:Int)) (fun(x:Nat)=>some (V.int ((t ^ n - (t - x) ^ n:Nat):Int))) (fun R r=>by w_on;exact r) ha (by omega) (fun x H3 Ry Rn hx s3 h1 h2=>?_) (fun D H3 hD s3 h3=>?_)
 ·w_on;have hxs:=FN hx;have e1:(t:Int) - (x:Int)=((t - x:Nat):Int):=by omega
  rw[e1];refine⟨_,n,rfl,by omega,by omega,by omega,?_⟩;w_on;refine h1 _ _ (aq.refl _) ?_;rw[Int.natCast_sub (Nat.pow_le_pow_left (Nat.sub_le _ _) n),Int.natCast_pow,Int.natCast_pow]
 have e:(l.filterMap fun(x:Nat)=>some (V.int ((t ^ n - (t - x) ^ n:Nat):Int)))=ax (l.map fun x=>t ^ n - (t - x) ^ n):=by
  unfold ax;rw[List.map_map,<- List.filterMap_eq_map];rfl
 rw[e]at h3;refine kf (aG.of h3) ?_;w_on;refine⟨_,t ^ n,by rw[Int.natCast_pow],Nat.pow_pos W3,jj (md (by omega) hn),fun z2 H2 _ s4 h4=>?_⟩;exact k z2 H2 (s3.trans s4) (bF.of h4)
theorem Qy(g:Nat->Int)(s:List Int):j6 g 0 s=((List.range s.length).map fun i=>s.getD i 0*g i).sum:=by
 have key:∀(s:List Int) (k:Nat),j6 g k s=((List.range s.length).map fun i=>s.getD i 0*g (k+i)).sum:=by
  intro s
  induction s with
  |nil=>intro k;rfl
  |cons a s ih=>
   intro k;rw[j6,ih,List.length_cons,List.range_succ_eq_map,List.map_cons,List.sum_cons,List.map_map]
   congr 1
   congr 1
   apply List.map_congr_left;intro i _;simp only[Function.comp];rw[List.getD_cons_succ]
   congr 2
   omega
 rw[key s 0]
 congr 1
 apply List.map_congr_left;intro i _;rw[Nat.zero_add]
theorem EC(L:List Nat)(p:Nat->Bool)(f:Nat->Int)(h:∀i∈L,p i=false->f i=0):((L.filter p).map f).sum=(L.map f).sum:=by
 induction L with
 |nil=>rfl
 |cons a L ih=>
  have ih:=ih fun i hi=>h i (List.mem_cons_of_mem _ hi);by_cases hp:p a=true
  ·rw[List.filter_cons_of_pos hp,List.map_cons,List.map_cons,List.sum_cons,List.sum_cons,ih]
  have hp:p a=false:=by simpa using hp
  rw[List.filter_cons_of_neg (by rw[hp];simp),List.map_cons,List.sum_cons,ih,h a List.mem_cons_self hp,Int.zero_add]
noncomputable def places(s:List Int):List Nat:=(List.range s.length).filter fun i=>s.getD i 0 != 0
noncomputable def l0(t:Nat)(s:List Int)(n:Nat):List Int:=(places s).map fun i=>s.getD i 0*(((t - i) ^ n:Nat):Int)
theorem Nw(t:Nat)(l:List Nat)(n:Nat):(l0 t (aS l) n).sum=j7 t l n:=by
 unfold l0 j7 places;rw[Qy,EC];intro i _ h;have:(aS l).getD i 0=0:=by simpa using h
 rw[this,Int.zero_mul]
theorem Qz(s:List Int):(List.range s.length).filterMap (fun i=>if s.getD i 0=0 then none else some (V.int (i:Int)))=ax (places s):=by
 unfold places ax;generalize List.range s.length=L
 induction L with
 |nil=>rfl
 |cons a L ih=>
  rw[List.filterMap_cons];by_cases h:s.getD a 0=0
  ·rw[if_pos h,List.filter_cons_of_neg (by rw[h];simp)];exact ih
  rw[if_neg h,List.filter_cons_of_pos (by simpa using h)];show _::_=_;rw[ih];rfl
theorem Ih{s:List Int}{i:Nat}(h:i∈places s):i<s.length:=List.mem_range.mp (List.mem_filter.mp h).1
theorem places_len(s:List Int):(places s).length<=s.length:=by
 unfold places;refine Nat.le_trans (List.length_filter_le _ _) ?_;rw[List.length_range];exact Nat.le_refl _
theorem LC(t:Nat)(s:List Int)(n:Nat):((l0 t s n).zip (places s)).filterMap (fun z=>some (V.int (z.1*((t - z.2:Nat):Int))))=c9 (l0 t s (n+1)):=by
 unfold l0 c9;generalize places s=L
 induction L with
 |nil=>rfl
 |cons a L ih=>
  rw[List.map_cons,List.zip_cons_cons,List.filterMap_cons,List.map_cons,List.map_cons];simp only;rw[ih,Int.mul_assoc,<- Int.natCast_mul,<- Nat.pow_succ]
theorem Ii{s:List Int}{i:Nat}(h:i<s.length):cW (c9 s) (i:Int)=some (V.int (s.getD i 0)):=by
 refine Ct ?_;unfold c9;rw[List.getElem?_map,List.getD_eq_getElem?_getD,List.getElem?_eq_getElem h];rfl
noncomputable def RL(K:Frag):Sp:=fun vs H Q _=>∃(t:Nat) (a:Addr) (l:List Nat) (m:Nat),vs=[.int t,.ref a]/\aG K H a (ax l)/\Lk t l/\((t ^ m:Nat):Int)<=2*j7 t l m/\
 ∀(n:Nat) H',aq H H'->((t ^ n:Nat):Int)<=2*j7 t l n->(∀j,j<n->¬((t ^ j:Nat):Int)<=2*j7 t l j)->Q (.int (n:Int)) H'
noncomputable abbrev uL:Stmt:=top 115
theorem dQ:aC ["total","lacking","signed","weights","rows","every_row","draws","weight","row"] ["total","lacking"] (ay uL):=aJ
theorem Ij(T:gE mg)(F:bD K "half_draws" "half_draws" uL f fd)(eg:Cl P w K mg ae 1 "signed_sets" g1 bH ["weights"] (zU K)):
  aM P w K mg ae bo 2 f fd ["total","lacking"] (RL K):=by
 refine bG F dQ fun _ _ _ _ H _ Q _ hr h=>?_;obtain⟨t,a,l,m,rfl,ha,hl,hm,k⟩:=h;have ht:=hl.top;have hsm:=hl.sum;have hlen:=hl.len;have hpl:=places_len (aS l);refine⟨_,(ag (pz 2 dQ (ak eg hr (aa (pv 1) af)))
  (ag (j2 (i:=3) rfl dQ.nd rfl rfl rfl (eK rfl T.gA (aa (aT a6 (by rfl) T.dZ boot_len (aa (pv 2) af)) af)) (c7 (own:=[("weight",7)]) (by rfl)) (fun _ _ _ _ _=>(qz 7 dQ)) (fun _ _ _ _ _=>yb (aP Ur (aD (rn (K:=K) rfl) (pv 2) (pv 7) (fun _ _=>rfl)) ai (aV _))) (fun _ _ _ _ _=>(pv 7)))
  (ag (j2 (i:=4) rfl dQ.nd rfl rfl rfl (fm (pv 3)) (c7 (own:=[("weight",7)]) (by rfl)) (fun _ _ _ _ _=>(qz 7 dQ)) (fun _ _ _ _ _=>fq) (fun _ _ _ _ _=>(aD (rn (K:=K) rfl) (pv 2) (pv 7) (fun _ _=>rfl))))
  (ag (pz 5 dQ ai)
  (ag (pz 6 dQ ai)
  (ag (u4 PassesOwn.never (aP xW (aO cM ai (aT (fg rfl) (by rfl) T.gN boot_sum (aa (pv 4) af))) (pv 5) (aV _))
   (ag (j2 (i:=4) rfl dQ.nd rfl rfl rfl (zN rfl T.Eu (aa (pv 4) (aa (pv 3) af))) (c7 (own:=[("row",8),("weight",7)]) (by rfl)) (fun _ _ _ _ _=>(u7 (K:=K) (n:=2) rfl rfl (eJ (qz 8 dQ) (eJ (qz 7 dQ) lH)))) (fun _ _ _ _ _=>fq) (fun _ _ _ _ _=>(aO cM (pv 8) (aO dU (pv 0) (pv 7)))))
  (ag (pz 5 dQ (aO cM (pv 5) (pv 0)))
  (ah (G3 (i:=6) dQ.nd rfl (by first|exact Or.inl rfl|exact Or.inr rfl) ai mT)))))
  (ah (az (pv 6))))))))),?_⟩
 w_on;refine⟨a,l,rfl,ha,hl.jr,by omega,fun z H1 s1 hz=>?_⟩;w_on;refine Qr (n:=(aS l).length) (fun R r=>by w_on;exact⟨_,.inl (aG.of hz),by rw[mh];exact r⟩) (by omega) (fun i=>if(aS l).getD i 0=0 then none else some (V.int (i:Int))) (fun i H3 Ry Rn hi s3 h1 h2=>?_) (fun D H3 hD s3 h3=>?_)
 ·w_on;refine bq (aG.of (s3 _ _ hz)) (Ii hi) ?_;w_on;refine⟨dv _ _,?_⟩;by_cases h0:(aS l).getD i 0=0
  ·rw[if_neg (by rw[decide_eq_true h0];simp)];exact h2 _ (aq.refl _) (if_pos h0)
  rw[if_pos (by rw[decide_eq_false h0];rfl)];exact h1 _ _ (aq.refl _) (if_neg h0)
 rw[Qz]at h3;w_on;refine yi (places (aS l)) (fun(n:Nat)=>V.int (n:Int)) (fun(i:Nat)=>some (V.int ((aS l).getD i 0))) (fun R r=>by w_on;exact r) (aG.of h3) (by omega) (fun x H5 Ry Rn hx s5 h1 h2=>?_) (fun D5 H5 hD5 s5 h5=>?_)
 ·w_on;refine bq (aG.of ((s3.trans s5) _ _ hz)) (Ii (Ih hx)) ?_;exact h1 _ _ (aq.refl _) rfl
 have e5:((places (aS l)).filterMap fun(i:Nat)=>some (V.int ((aS l).getD i 0)))=c9 (l0 t (aS l) 0):=by
  unfold l0 c9;rw[List.map_map,<- List.filterMap_eq_map]
  congr 1
  funext i;simp
 rw[e5]at h5;w_on;refine u5 (fun σ H'=>aq H5 H'/\∃(q:Addr) (n:Nat),σ=[some (.int (t:Int)),some (.ref a),some (.ref z),some (.ref D),some (.ref q),some (.int ((t ^ n:Nat):Int)),some (.int (n:Int)),none,none]/\H' q=some (.lst (c9 (l0 t (aS l) n)))/\n<=m/\∀j,j<n->¬((t ^ j:Nat):Int)<=2*j7 t l j)
  (fun σ _=>match σ with|[_,_,_,_,_,_,some (.int n),_,_]=>m+1 - n.toNat|_=>0) ⟨aq.refl _,D5,0,rfl,h5,by omega,fun j hj=>by omega⟩ ?_ ?_
 ·rintro σ H' ⟨s6,q,n,rfl,hq,hnm,hlt⟩;w_on;refine YZ (l:=l0 t (aS l) n) (aG.of hq) ?_;rw[Nw];w_on;refine⟨.inl (by omega),Cy (fun hc=>?_) (fun hc=>?_)⟩
  ·have mQ:¬((t ^ n:Nat):Int)<=2*j7 t l n:=by omega
   have ab2:n≠m:=fun e=>mQ (e▸hm);refine KJ (l0 t (aS l) n) (places (aS l)) V.int (fun(n:Nat)=>V.int (n:Int)) (fun x y=>some (V.int (x*((t - y:Nat):Int)))) (fun R r=>by w_on;exact r) (aG.of hq) (aG.of ((s5.trans s6) _ _ h3)) (by unfold l0;rw[List.length_map];omega)
    (by unfold l0;rw[List.length_map]) (fun x y H7 Ry Rn Nk s7 h1 h2=>?_) (fun D7 H7 hD7 s7 h7=>?_)
   ·w_on;have hy:=Ih (List.of_mem_zip Nk).2;rw[lX]at hy;have e1:(t:Int) - (y:Int)=((t - y:Nat):Int):=by omega
    rw[e1];exact⟨.inr (by omega),h1 _ _ (aq.refl _) rfl⟩
   rw[LC]at h7;w_on;refine⟨.inr (by omega),?_⟩;refine⟨s6.trans s7,⟨n+1,?_,?_,h7,by omega,fun j hj=>?_⟩,?_⟩
   ·rw[Nat.pow_succ,Int.natCast_mul]
   ·omega
   ·by_cases Lw:j=n
    ·rw[Lw];exact mQ
    exact hlt j (by omega)
   omega
  exact k n H' (((s1.trans s3).trans s5).trans s6) (by omega) hlt
 intro σ H1 Q1 Q2 hq;w_on;rintro⟨v1,e1,a',l',e2,h3,x,e,hc,v,e5,x1,e6,hQ⟩;exact⟨v1,e1,a',l',e2,h3,x,e,hc,v,e5,x1,e6,hq _ _ hQ⟩
structure AA where
 a:Addr
 dx:Addr
 aw:Addr
 ao:Addr
 a0:Addr
 a1:Addr
def AA.foot(A:AA):List Addr:=[A.a,A.dx,A.aw,A.ao,A.a0,A.a1]
def gY(b:Bool)(aw ao:Addr)(n:Nat):List (Str×V):=fD "packets" (.int (n:Int)) (fD "owned" (.ref ao) (fD "weights" (.ref aw) (fD "begun" (.bl b) [])))
theorem Ny(b:Bool)(aw ao:Addr)(n:Nat):(gY b aw ao n).lookup ("begun":Str)=some (.bl b):=by
 unfold gY;rw[dI,if_neg (by decide +kernel),dI,if_neg (by decide +kernel),dI,if_neg (by decide +kernel),dI,if_pos rfl]
theorem JT(b:Bool)(aw ao:Addr)(n:Nat):(gY b aw ao n).lookup ("weights":Str)=some (.ref aw):=by
 unfold gY;rw[dI,if_neg (by decide +kernel),dI,if_neg (by decide +kernel),dI,if_pos rfl]
theorem FO(b:Bool)(aw ao:Addr)(n:Nat):(gY b aw ao n).lookup ("owned":Str)=some (.ref ao):=by
 unfold gY;rw[dI,if_neg (by decide +kernel),dI,if_pos rfl]
theorem AW(b:Bool)(aw ao:Addr)(n:Nat):(gY b aw ao n).lookup ("packets":Str)=some (.int (n:Int)):=by
 unfold gY;rw[dI,if_pos rfl]
theorem Ve(b:Bool)(aw ao:Addr)(n:Nat){m:Str}(h1:¬m="begun")(h2:¬m="weights")(h3:¬m="owned")(h4:¬m="packets"):(gY b aw ao n).lookup m=none:=by
 unfold gY;rw[dI,if_neg h4,dI,if_neg h3,dI,if_neg h2,dI,if_neg h1]
 all_goals rfl
theorem C4{f:Str}{v x:V}{r:List (Str×V)}:fD f v ((f,x)::r)=(f,v)::r:=by
 show(if f=f then _ else _)=_;rw[if_pos rfl]
theorem jT{f g:Str}{v x:V}{r:List (Str×V)}(h:¬g=f):fD f v ((g,x)::r)=(g,x)::fD f v r:=by
 show(if g=f then _ else _)=_;rw[if_neg h]
theorem kZ(b:Bool)(aw ao:Addr)(n:Nat):gY b aw ao n=[(("begun":Str),V.bl b),(("weights":Str),V.ref aw),(("owned":Str),V.ref ao),(("packets":Str),V.int (n:Int))]:=by
 unfold gY;have e1:fD "begun" (V.bl b) []=[(("begun":Str),V.bl b)]:=rfl;have e2:fD "weights" (V.ref aw) []=[(("weights":Str),V.ref aw)]:=rfl;have e3:fD "owned" (V.ref ao) []=[(("owned":Str),V.ref ao)]:=rfl;have e4:fD "packets" (V.int (n:Int)) []=[(("packets":Str),V.int (n:Int))]:=rfl;rw[e1,jT (f:="weights") (by decide +kernel),e2,jT (f:="owned") (by decide +kernel),jT (f:="owned") (by decide +kernel),e3,jT (f:="packets") (by decide +kernel),jT (f:="packets") (by decide +kernel),jT (f:="packets") (by decide +kernel),e4]
theorem QA(b c:Bool)(aw ao:Addr)(n:Nat):fD "begun" (.bl c) (gY b aw ao n)=gY c aw ao n:=by
 rw[kZ,kZ,C4]
theorem QB(b:Bool)(aw aw' ao:Addr)(n:Nat):fD "weights" (.ref aw') (gY b aw ao n)=gY b aw' ao n:=by
 rw[kZ,kZ,jT (by decide +kernel),C4]
theorem Ik(b:Bool)(aw ao ao':Addr)(n:Nat):fD "owned" (.ref ao') (gY b aw ao n)=gY b aw ao' n:=by
 rw[kZ,kZ,jT (by decide +kernel),jT (by decide +kernel),C4]
theorem Il(b:Bool)(aw ao:Addr)(n m:Nat):fD "packets" (.int (m:Int)) (gY b aw ao n)=gY b aw ao m:=by
 rw[kZ,kZ,jT (by decide +kernel),jT (by decide +kernel),jT (by decide +kernel),C4]
theorem rq(b:Bool)(aw ao:Addr)(n:Nat):(gY b aw ao n).length=4:=by
 rw[kZ];rfl
structure bj(C:Addr)(H:Hp)(A:AA)(b:Bool)(t:Table):Prop where
 ins:H A.a=some (.ins C A.dx (gY b A.aw A.ao t.bought))
 own:H A.dx=some (.own A.a)
 fY:H A.aw=some (.lst (ax t.kinds))
 lst:H A.ao=some (.lst [.ref A.a0,.ref A.a1])
 one:H A.a0=some (.lst (ax t.one))
 two:H A.a1=some (.lst (ax t.two))
 nd:A.foot.Nodup
 l1:t.one.length=t.kinds.length
 l2:t.two.length=t.kinds.length
 ok:e8 t.kinds
theorem bj.same{C:Addr}{H H':Hp}{A:AA}{b:Bool}{t:Table}(h:bj C H A b t)(s:aq H H'):bj C H' A b t:=
 ⟨s _ _ h.ins,s _ _ h.own,s _ _ h.fY,s _ _ h.lst,s _ _ h.one,s _ _ h.two,h.nd,h.l1,h.l2,h.ok⟩
def Kept(A:AA)(H H':Hp):Prop:=∀b o,H b=some o->b∉A.foot->H' b=some o
theorem Kept.of{A:AA}{H H':Hp}(s:aq H H'):Kept A H H':=fun b o e _=>s b o e
structure gm(K:Frag)(mg:Str->Option Value)(C:Addr):Prop where
 blt:gE mg
 cl:Ek K C
 nB:mV K C "begun"
 nW:mV K C "weights"
 nO:mV K C "owned"
 nP:mV K C "packets"
 mgC:mg "Album"=some (.ref C)
theorem abv{K:Frag}{mg:Str->Option Value}{C:Addr}{H:Hp}{A:AA}{b:Bool}{t:Table}{ta:TE}{σ:L2.St}{Q:VK}(T:gm K mg C)(h:bj C H A b t)(lj:∀R:VK,R (.ref A.a) H->ta σ H R)(q:Q (.ref A.aw) H):xX K ta "weights" σ H Q:=
 lj _ ⟨A.a,C,A.dx,_,_,rfl,h.ins,T.cl,T.nW,JT _ _ _ _,q⟩
theorem abw{K:Frag}{mg:Str->Option Value}{C:Addr}{H:Hp}{A:AA}{b:Bool}{t:Table}{ta:TE}{σ:L2.St}{Q:VK}(T:gm K mg C)(h:bj C H A b t)(lj:∀R:VK,R (.ref A.a) H->ta σ H R)(q:Q (.ref A.ao) H):xX K ta "owned" σ H Q:=
 lj _ ⟨A.a,C,A.dx,_,_,rfl,h.ins,T.cl,T.nO,FO _ _ _ _,q⟩
theorem abx{K:Frag}{mg:Str->Option Value}{C:Addr}{H:Hp}{A:AA}{b:Bool}{t:Table}{ta:TE}{σ:L2.St}{Q:VK}(T:gm K mg C)(h:bj C H A b t)(lj:∀R:VK,R (.ref A.a) H->ta σ H R)(q:Q (.bl b) H):xX K ta "begun" σ H Q:=
 lj _ ⟨A.a,C,A.dx,_,_,rfl,h.ins,T.cl,T.nB,Ny _ _ _ _,q⟩
theorem aby{K:Frag}{mg:Str->Option Value}{C:Addr}{H:Hp}{A:AA}{b:Bool}{t:Table}{ta:TE}{σ:L2.St}{Q:VK}(T:gm K mg C)(h:bj C H A b t)(lj:∀R:VK,R (.ref A.a) H->ta σ H R)(q:Q (.int (t.bought:Int)) H):xX K ta "packets" σ H Q:=
 lj _ ⟨A.a,C,A.dx,_,_,rfl,h.ins,T.cl,T.nP,AW _ _ _ _,q⟩
theorem fW{K:Frag}{mg:Str->Option Value}{C:Addr}{H:Hp}{A:AA}{b:Bool}{t:Table}{ta:TE}{σ:L2.St}{Q:VK}(T:gm K mg C)(h:bj C H A b t)(q:Q (.ref A.aw) H)(lj:∀R:VK,R (.ref A.a) H->ta σ H R:=by intro R r;w_on;exact r):xX K ta "weights" σ H Q:=abv T h lj q
theorem fO{K:Frag}{mg:Str->Option Value}{C:Addr}{H:Hp}{A:AA}{b:Bool}{t:Table}{ta:TE}{σ:L2.St}{Q:VK}(T:gm K mg C)(h:bj C H A b t)(q:Q (.ref A.ao) H)(lj:∀R:VK,R (.ref A.a) H->ta σ H R:=by intro R r;w_on;exact r):xX K ta "owned" σ H Q:=abw T h lj q
theorem fB{K:Frag}{mg:Str->Option Value}{C:Addr}{H:Hp}{A:AA}{b:Bool}{t:Table}{ta:TE}{σ:L2.St}{Q:VK}(T:gm K mg C)(h:bj C H A b t)(q:Q (.bl b) H)(lj:∀R:VK,R (.ref A.a) H->ta σ H R:=by intro R r;w_on;exact r):xX K ta "begun" σ H Q:=abx T h lj q
theorem fP{K:Frag}{mg:Str->Option Value}{C:Addr}{H:Hp}{A:AA}{b:Bool}{t:Table}{ta:TE}{σ:L2.St}{Q:VK}(T:gm K mg C)(h:bj C H A b t)(q:Q (.int (t.bought:Int)) H)(lj:∀R:VK,R (.ref A.a) H->ta σ H R:=by intro R r;w_on;exact r):xX K ta "packets" σ H Q:=aby T h lj q
theorem bM{H:Hp}{a p:Addr}{o:HO}(h:upd H a o p=none):p≠a/\H p=none:=by
 unfold upd at h;by_cases e:p=a
 ·rw[if_pos e]at h;cases h
 rw[if_neg e]at h;exact⟨e,h⟩
def tR(C:Addr):Sp:=fun vs H Q _=>∃(A:AA) (b:Bool) (t:Table) (n:Nat),vs=[.ref A.a,.int n]/\bj C H A b t/\Q (.bl (decide (n<2))) H
abbrev jL:Stmt:=inClass (top 144) 2
theorem vb:aC ["self","collector"] ["self","collector"] (ay jL):=aJ
theorem C5(X:gm K mg C)(F:bD K "has_collector" "Album.has_collector" jL f fd):aM P w K mg ae bo 1 f fd ["self","collector"] (tR C):=by
 have T:=X.blt;refine bG F vb fun _ A _ _ H _ Q _ hr h=>?_;obtain⟨A,b,t,n,rfl,ha,k⟩:=h;refine⟨_,(ah (az (rE xW (pv 1) (aT a6 (by rfl) T.dZ boot_len (aa (bg (pv 0) rfl) af)) (aV _)))),?_⟩;w_on;refine fO X ha ?_;w_on;refine⟨_,.inl (aG.of ha.lst),?_⟩;have e:decide ((n:Int)<(([V.ref A.a0,V.ref A.a1]:List V).length:Int))=decide (n<2):=decide_eq_decide.mpr (by simp;omega);rw[e];exact k
def Hc(C:Addr):Sp:=fun vs H Q _=>∃(A:AA) (b:Bool) (t:Table) (n:Nat),vs=[.ref A.a,.int n]/\bj C H A b t/\Q (.bl (decide (n<t.kinds.length))) H
abbrev m7:Stmt:=inClass (top 144) 3
theorem BE:aC ["self","kind"] ["self","kind"] (ay m7):=aJ
theorem LD(X:gm K mg C)(F:bD K "has_kind" "Album.has_kind" m7 f fd):aM P w K mg ae bo 1 f fd ["self","kind"] (Hc C):=by
 have T:=X.blt;refine bG F BE fun _ A _ _ H _ Q _ hr h=>?_;obtain⟨A,b,t,n,rfl,ha,k⟩:=h;refine⟨_,(ah (az (rE xW (pv 1) (aT a6 (by rfl) T.dZ boot_len (aa (bg (pv 0) rfl) af)) (aV _)))),?_⟩;w_on;refine fW X ha ?_;w_on;refine⟨_,.inl (aG.of ha.fY),?_⟩;rw[aX,decide_eq_decide.mpr (show((n:Int)<(t.kinds.length:Int))↔n<t.kinds.length by omega)];exact k
def Nz(C:Addr):Sp:=fun vs H Q _=>∃(A:AA) (b:Bool) (t:Table),vs=[.ref A.a]/\bj C H A b t/\
 ∀(A':AA) H',A'.a=A.a->bj C H' A' true ⟨[],[],[],0⟩->Kept A H H'->(∀c∈A'.foot,c∈A.foot∨H c=none)->(∀c,H' c=none->H c=none)->Q .e7 H'
abbrev rT:Stmt:=inClass (top 144) 1
theorem Gg:aC ["self"] ["self"] (ay rT):=aJ
theorem S9(X:gm K mg C)(F:bD K "begin" "Album.begin" rT f fd):aM P w K mg ae bo 1 f fd ["self"] (Nz C):=by
 have T:=X.blt;refine bG F Gg fun _ A _ _ H _ Q _ hr h=>?_;obtain⟨A,b,t,rfl,ha,k⟩:=h;refine⟨_,(ag (qV (pv 0) Ug rfl)
  (ag (qV (pv 0) (aK af) rfl)
  (ag (qV (pv 0) (aK (aa (aK af) (aa (aK af) af))) rfl)
  (ah (qV (pv 0) ai rfl))))),?_⟩
 w_on;have nd:=ha.nd;have n1:A.dx≠A.a/\A.aw≠A.a/\A.ao≠A.a/\A.a0≠A.a/\A.a1≠A.a:=by
  unfold AA.foot at nd;simp only[List.nodup_cons,List.mem_cons,not_or]at nd;exact⟨fun e=>nd.1.1 e.symm,fun e=>nd.1.2.1 e.symm,fun e=>nd.1.2.2.1 e.symm,fun e=>nd.1.2.2.2.1 e.symm,fun e=>nd.1.2.2.2.2.1 e.symm⟩
 refine⟨C,A.dx,_,ha.ins,X.cl,X.nB,by rw[rq];decide,?_⟩;rw[QA];w_on;refine⟨by decide,fun p1 u9=>⟨C,A.dx,gY true A.aw A.ao t.bought,?_,X.cl,X.nW,by rw[rq];decide,?_⟩⟩
 ·obtain⟨h1,_⟩:=bM u9;simp[upd,Ne.symm h1]
 rw[QB];w_on;refine⟨by decide,fun p2 wx=>⟨by decide,fun p3 By=>⟨by decide,fun p4 Ae=>?_⟩⟩⟩;obtain⟨a1,b1⟩:=bM u9;obtain⟨a2,q2⟩:=bM wx;obtain⟨Vf,q2⟩:=bM q2;obtain⟨_,b2⟩:=bM q2;obtain⟨Vg,q3⟩:=bM By;obtain⟨a3,q3⟩:=bM q3;obtain⟨Vh,q3⟩:=bM q3;obtain⟨_,b3⟩:=bM q3;obtain⟨Vi,q4⟩:=bM Ae;obtain⟨Vj,q4⟩:=bM q4;obtain⟨a4,q4⟩:=bM q4;obtain⟨Vk,q4⟩:=bM q4;obtain⟨_,b4⟩:=bM q4;have yu:∀p,H p=none->p≠A.dx:=fun p h e=>by rw[e,ha.own]at h;cases h
 refine⟨C,A.dx,gY true p1 A.ao t.bought,by simp[upd,Ne.symm a4,Ne.symm a3,Ne.symm a2],X.cl,X.nO,by rw[rq];decide,?_⟩;rw[Ik];w_on;refine⟨C,A.dx,gY true p1 p4 t.bought,by simp[upd],X.cl,X.nP,by rw[rq];decide,?_⟩;have eP:=Il true p1 p4 t.bought 0;rw[show V.int ((0:Nat):Int)=V.int 0 from rfl]at eP;rw[eP];refine k ⟨A.a,A.dx,p1,p4,p2,p3⟩ _ rfl ⟨?_,?_,?_,?_,?_,?_,?_,rfl,rfl,⟨by decide,fun w h=>by simp at h,fun w h=>by simp at h⟩⟩ (fun b o e hb=>?_) (fun c hc=>?_) (fun c hc=>by(repeat (replace hc:=(bM hc).2));exact hc)
 ·simp[upd]
 ·have e1:A.dx≠A.a:=n1.1;simp[upd,n1.1,Ne.symm (yu _ b4),Ne.symm (yu _ b3),Ne.symm (yu _ b2),Ne.symm (yu _ b1),ha.own]
 ·simp[upd,a1,Ne.symm Vk,Ne.symm Vh,Ne.symm Vf,ax]
 ·simp[upd,a4]
 ·simp[upd,a2,Ne.symm Vj,Ne.symm Vg,ax]
 ·simp[upd,a3,Ne.symm Vi,ax]
 ·unfold AA.foot;simp[Ne.symm n1.1,Ne.symm a1,Ne.symm a2,Ne.symm a3,Ne.symm a4,Ne.symm (yu _ b1),Ne.symm (yu _ b2),Ne.symm (yu _ b3),Ne.symm (yu _ b4),Ne.symm Vk,Ne.symm Vf,Ne.symm Vh,Vj,Vi,Ne.symm Vg]
 ·have NA:b≠A.a:=fun e=>hb (by rw[e];unfold AA.foot;simp);have Ge:∀p,H p=none->b≠p:=fun p h q=>by rw[<- q,e]at h;cases h
  simp[upd,NA,Ge _ b4,Ge _ b3,Ge _ b2,Ge _ b1,e]
 unfold AA.foot at hc ⊢;simp only[List.mem_cons,List.not_mem_nil,or_false]at hc;rcases hc with rfl|rfl|rfl|rfl|rfl|rfl
 ·exact .inl (by simp)
 ·exact .inl (by simp)
 ·exact .inr b1
 ·exact .inr b4
 ·exact .inr b2
 exact .inr b3
noncomputable def lp(q:Str)(c:Addr):HO:=.ext fun h=>h.CodeRec (.ref c) q
noncomputable def qC(q:Str)(params:Arguments)(body:Expr)(scope:Scope)(cl:List (Str×Addr))(pm:Value)(f c:Addr):HO:=.ext fun h=>∃ctv,h.get? f=some (kla_obj "<lambda>" q params body scope cl pm c ctv)
theorem Ta{P:Program}{w:World}{H:Hp}{h:Heap}{q:Str}{c:Addr}(x:h.CodeRec (.ref c) q):gv P w H h c (lp q c):=by
 refine⟨x,?_,fun h1 h2 y k=>?_⟩
 ·obtain⟨c2,oc,vs,t,e,ho,_⟩:=x;cases e;exact⟨_,ho⟩
 obtain⟨c2,oc,vs,t,e,ho,r⟩:=y;cases e;exact⟨c,oc,vs,t,rfl,k _ ho,r⟩
theorem NC{P:Program}{w:World}{H:Hp}{h:Heap}{q:Str}{params:Arguments}{body:Expr}{scope:Scope}{cl:List (Str×Addr)}{pm:Value}{f c:Addr}{ctv:Value}(x:h.get? f=some (kla_obj "<lambda>" q params body scope cl pm c ctv)):gv P w H h f (qC q params body scope cl pm f c):=by
 refine⟨⟨ctv,x⟩,⟨_,x⟩,fun h1 h2 y k=>?_⟩;obtain⟨ct,e⟩:=y;exact⟨ct,k _ e⟩
noncomputable def Vl(pos:Pos)(c:Addr):Array Value:= #[rawInt pos.line,rawInt pos.col,.ref c]
noncomputable def Y0(P:Addr)(pos:Pos)(q:Str)(params:Arguments)(body:Expr)(scope:Scope)(cl:List (Str×Addr))(pm:Value):TE:=fun _ H Q=>∃ps,H P=some (.oA ps)/\TriplesOk ps.toList/\
 ((codeAmong pos ps.toList=none/\∀c f,H c=none->H f=none->c≠f->Q (.ref f) (upd (upd (upd H P (.oA (ps++Vl pos c))) c (lp q c)) f (qC q params body scope cl pm f c)))∨ (∃c,codeAmong pos ps.toList=some (.ref c)/\H c=some (lp q c)/\∀f,H f=none->Q (.ref f) (upd H f (qC q params body scope cl pm f c))))
noncomputable def BM(ae:Heap)(mg:Str->Option Value):Prop:=∃bm o,mg "__builtins__"=some (.ref bm)/\bm≠builtinsNs/\bm≠mainGlobals/\ae.get? bm=some o/\o.cls= .type "module"/\o.dict=some builtinsNs/\o.data= .plain
theorem He{X:Cx}{params:Arguments}{body:Expr}{scope:Scope}{cl:List (Str×Addr)}{pos:Pos}{c P:Addr}{q:Str}(uM:X.env.code= .ref c)(C:CodeHd X.ae c P)(hb:BM X.ae X.mg)(hq:X.env.qual++"<lambda>"=q)
  (abz:defaultsOf params X.env=([],[]):=by rfl)(hcl:closureFor scope X.env=pure cl:=by rfl):PE X (.Lambda params body scope pos) (Y0 P pos q params body scope cl ((X.mg "__name__").getD .none)):=by
 intro au s σ H Q I h;subst hq;obtain⟨ps,hP,ht,h⟩:=h;refine PySem.W.kla_eval abz ?_;have hPs:s.heap.get? P=some (tabObj ps):=I.cJ P _ hP;have nb:∀{b:Addr} {o:Obj},X.ae.get? b=some o->b≠P:=fun{b o} e z=>by
  have:=(I.bs b o e).2;rw[z,hP]at this;cases this
 have hgP:mainGlobals≠P:=by
  obtain⟨o,es,ep,e,_⟩:=I.mod.glob;exact nb e
 obtain⟨bm,ob,b1,b2,b3,b4,b5,b6,b7⟩:=hb;have hB:s.heap.BuiltinsAt X.mg P:=⟨bm,ob,b1,b2,b3,nb b4,I.bk _ _ b4,b5,b6,b7⟩;have hLP:X.env.locals≠P:=fun z=>by
  have:=I.free;rw[z,hP]at this;cases this
 rcases h with⟨hn,k⟩|⟨c',hf,Uc,k⟩
 ·refine PySem.W.kla_makeFunction (mg:=X.mg) hcl I.ok.glob (I.mod.glob.keeps I.bk) uM (C.keeps I.bk) hPs ht hn hgP hB fun c' ctv h' tk hx hge hlt abA htb=>?_;have hsz:s.heap.objs.size<=h'.objs.size:=Nat.le_trans hge (Nat.le_of_lt hlt);have nc:H c'=none:=I.cJ.fresh hge;have nf:H h'.objs.size=none:=I.cJ.fresh hsz;have W4:c'≠h'.objs.size:=Nat.ne_of_lt hlt;have hPc:P≠c':=a7 hP nc;have hPf:P≠h'.objs.size:=a7 hP nf;have old:∀b,b≠P->b≠c'->b≠h'.objs.size->upd (upd (upd H P (.oA (ps++Vl pos c'))) c' (lp (X.env.qual++"<lambda>") c')) h'.objs.size (qC (X.env.qual++"<lambda>") params body scope cl ((X.mg "__name__").getD .none) h'.objs.size c') b=H b:=fun b h1 h2 h3=>by
   rw[aE h3,aE h2,aE h1]
  have gt:∀b o,b≠P->s.heap.get? b=some o->(h'.push (kla_obj "<lambda>" (X.env.qual++"<lambda>") params body scope cl ((X.mg "__name__").getD .none) c' ctv)).get? b=some o:=fun b o hb e=>Heap.get?_push_of_some _ (hx b o hb e);have lt1:∀b o,s.heap.get? b=some o->b≠c'/\b≠h'.objs.size:=fun b o e=>⟨Nat.ne_of_lt (Nat.lt_of_lt_of_le (Heap.lt_size e) hge),Nat.ne_of_lt (Nat.lt_of_lt_of_le (Heap.lt_size e) hsz)⟩;have nP:∀b,H b=none->b≠P:=fun b n z=>by rw[z,hP]at n;cases n
  refine⟨.ref h'.objs.size,_,?_,rfl,k c' h'.objs.size nc nf W4⟩;refine I.step (g':=s.gens) (d':=s.drawn) (ch:=[]) (fun b hb=>absurd hb (by simp)) (fun b o _ _ _ e n=>gt b o (nP b n) e) (fun b o _ _ _ e n=>⟨o.slots,gt b o (nP b n) e⟩) (fun b o _ e n=>?_) (fun b o _ e=>?_) (fun b xs e=>?_) (fun b o u e=>?_) (fun b qs e=>?_) (fun m hm=>?_) (fun b u e=>?_) I.bare
  ·rw[old b (nP b n) (lt1 b o e).1 (lt1 b o e).2];exact n
  ·by_cases hb:b=P
   ·subst hb;exact⟨_,Heap.get?_push_of_some _ htb⟩
   exact⟨o,gt b o hb e⟩
  ·rw[old b (fun z=>by rw[z,hP]at e;cases e) (a7 e nc) (a7 e nf)];exact e
  ·rw[old b (fun z=>by rw[z,hP]at e;cases e) (a7 e nc) (a7 e nf)];exact e
  ·by_cases hb:b=P
   ·subst hb;rw[hP]at e;cases e;exact⟨Vl pos c',by rw[aE hPf,aE hPc,aj]⟩
   exact⟨#[],by rw[old b hb (a7 e nc) (a7 e nf),e];simp⟩
  ·exact(hm.extBut hx hLP).push _
  by_cases h1:b=h'.objs.size
  ·subst h1;rw[aj]at e;cases e;exact NC (Heap.get?_push_size _ rfl)
  rw[aE h1]at e;by_cases h2:b=c'
  ·subst h2;rw[aj]at e;cases e;refine Ta ?_;obtain⟨c2,oc,vs,t,e1,ho,r⟩:=abA;exact⟨c2,oc,vs,t,e1,Heap.get?_push_of_some _ ho,r⟩
  rw[aE h2]at e;by_cases h3:b=P
  ·subst h3;rw[aj]at e;cases e;exact Heap.get?_push_of_some _ htb
  rw[aE h3]at e;refine(I.cJ b u e).xS (fun b' u' pX e'=>?_) (fun b' e'=>?_) fun b' xs e'=>?_
  ·refine gt b' u' (fun z=>?_) e';rcases pX with rfl|pX
   ·exact h3 z
   rw[z,hP]at pX;cases pX
  ·rw[old b' (fun z=>by rw[z,hP]at e';cases e') (a7 e' nc) (a7 e' nf)];exact e'
  rw[old b' (fun z=>by rw[z,hP]at e';cases e') (a7 e' nc) (a7 e' nf)];exact e'
 refine PySem.W.kla_makeFunctionHit (mg:=X.mg) hcl I.ok.glob (I.mod.glob.keeps I.bk) uM (C.keeps I.bk) hPs ht hf hB fun ctv h' tk hk hsz=>?_;have nf:H h'.objs.size=none:=I.cJ.fresh hsz;refine⟨.ref h'.objs.size,_,I.laid (t':=tk) (fun b u e=>Heap.get?_push_of_some _ (hk b u e)) hsz ?_,rfl,k _ nf⟩;exact NC (ctv:=ctv) (Heap.get?_push_size _ rfl)
noncomputable def uN(P:Addr)(ls:List (Pos×Str))(H:Hp):Prop:=∃ps,H P=some (.oA ps)/\TriplesOk ps.toList/\∀x∈ls,codeAmong x.1 ps.toList=none∨∃c,codeAmong x.1 ps.toList=some (.ref c)/\H c=some (lp x.2 c)
theorem uN.none{P:Addr}{ls:List (Pos×Str)}{H:Hp}(h:H P=some (.oA #[])):uN P ls H:=⟨#[],h,trivial,fun _ _=>.inl rfl⟩
theorem AX{pos:Pos}{c:Value}:∀(l:List Value),TriplesOk l->TriplesOk (l++[rawInt pos.line,rawInt pos.col,c])
 |[],_=>trivial
 | .int _ _:: .int _ _::_::rest,h=>AX rest h
theorem FP{pos pos':Pos}{c:Value}(om:¬(pos'.line=pos.line/\pos'.col=pos.col)):∀(l:List Value),TriplesOk l->codeAmong pos' (l++[rawInt pos.line,rawInt pos.col,c])=codeAmong pos' l
 |[],_=>by
  show(if((pos.line:Int)==pos'.line&&(pos.col:Int)==pos'.col)=true then some c else codeAmong pos' [])=_;rw[if_neg];intro h;rw[Bool.and_eq_true,beq_iff_eq,beq_iff_eq]at h;exact om (by omega)
 | .int a _:: .int b _::d::rest,h=>by
  show(if(a==pos'.line&&b==pos'.col)=true then some d else codeAmong pos' (rest++_))=if(a==pos'.line&&b==pos'.col)=true then some d else codeAmong pos' rest;rw[FP om rest h]
theorem Hf{P:Addr}{ls:List (Pos×Str)}{pos:Pos}{q:Str}{params:Arguments}{body:Expr}{scope:Scope}{cl:List (Str×Addr)}{pm:Value}{σ:L2.St}{H:Hp}{Q:VK}(hL:uN P ls H)(hm:(pos,q)∈ls)(hd:∀x∈ls,x=(pos,q)∨¬(x.1.line=pos.line/\x.1.col=pos.col))
  (k:∀c f H',H f=none->uN P ls H'->H' f=some (qC q params body scope cl pm f c)->H' c=some (lp q c)->(∀b o,H b=some o->b≠P->H' b=some o)->Q (.ref f) H'):Y0 P pos q params body scope cl pm σ H Q:=by
 obtain⟨ps,hP,ht,hx⟩:=hL;refine⟨ps,hP,ht,?_⟩;rcases hx _ hm with hn|⟨c,hc,Ud⟩
 ·refine .inl ⟨hn,fun c f nc nf W4=>?_⟩;have hPc:P≠c:=a7 hP nc;have hPf:P≠f:=a7 hP nf;refine k c f _ nf ⟨ps++Vl pos c,by rw[aE hPf,aE hPc,aj],?_,fun x Tb=>?_⟩ aj (by rw[aE W4,aj]) (fun b o e hb=>by rw[aE (a7 e nf),aE (a7 e nc),aE hb];exact e)
  ·rw[Array.toList_append];exact AX _ ht
  rw[Array.toList_append];rcases hd x Tb with rfl|om
  ·exact .inr ⟨c,codeAmong_snoc _ ht hn,by rw[aE W4,aj]⟩
  have e:codeAmong x.1 (ps.toList++(Vl pos c).toList)=codeAmong x.1 ps.toList:=FP om _ ht;rw[e];rcases hx x Tb with h1|⟨c',h1,h2⟩
  ·exact .inl h1
  refine .inr ⟨c',h1,?_⟩;rw[aE (a7 h2 nf),aE (a7 h2 nc),aE (fun z=>by rw[z,hP]at h2;cases h2)];exact h2
 refine .inr ⟨c,hc,Ud,fun f nf=>?_⟩;have old:∀b o,H b=some o->upd H f (qC q params body scope cl pm f c) b=some o:=fun b o e=>by rw[aE (a7 e nf)];exact e
 refine k c f _ nf ⟨ps,old _ _ hP,ht,fun x Tb=>?_⟩ aj (old _ _ Ud) fun b o e _=>old b o e;rcases hx x Tb with h1|⟨c',h1,h2⟩
 ·exact .inl h1
 exact .inr ⟨c',h1,old _ _ h2⟩
theorem uN.of{P:Addr}{ls:List (Pos×Str)}{H H':Hp}(h:uN P ls H)(k1:∀ps,H P=some (.oA ps)->H' P=some (.oA ps))(k2:∀b q,H b=some (lp q b)->H' b=some (lp q b)):uN P ls H':=by
 obtain⟨ps,hP,ht,hx⟩:=h;refine⟨ps,k1 _ hP,ht,fun x Tb=>?_⟩;rcases hx x Tb with h1|⟨c,h1,h2⟩
 ·exact .inl h1
 exact .inr ⟨c,h1,k2 _ _ h2⟩
noncomputable def era(H:Hp)(c:Addr):Hp:=fun b=>if b=c then none else H b
theorem rA{H:Hp}{c:Addr}:era H c c=none:=if_pos rfl
theorem fZ{H:Hp}{b c:Addr}(h:b≠c):era H c b=H b:=if_neg h
noncomputable def iH(o:Obj)(c:Addr):HO:=.mR o (.own c)
theorem Im{P:Program}{w:World}{H:Hp}{h:Heap}{c:Addr}{o:Obj}(x:kU P w H h)(hc:H c=some (iH o c)):kU P w (era H c) h:=fun b u e=>by
 have hb:b≠c:=fun z=>by rw[z,rA]at e;cases e
 rw[fZ hb]at e;refine(x b u e).xS (fun _ _ _ q=>q) (fun d q=>?_) fun d xs q=>?_
 ·rw[fZ (fun z=>by rw[z,hc]at q;cases q)];exact q
 rw[fZ (fun z=>by rw[z,hc]at q;cases q)];exact q
theorem KN{P:Program}{w:World}{H:Hp}{h:Heap}{c:Addr}{o:Obj}(x:kU P w H h)(n:H c=none)(e:h.get? c=some o):kU P w (upd H c (iH o c)) h:=fun b u q=>by
 by_cases hb:b=c
 ·subst hb;rw[aj]at q;cases q;exact⟨e,o,e⟩
 rw[aE hb]at q;refine(x b u q).xS (fun _ _ _ q=>q) (fun d q=>?_) fun d xs q=>?_
 ·rw[aE (a7 q n)];exact q
 rw[aE (a7 q n)];exact q
noncomputable def Io(sp:Sp)(c:Addr)(i:Nat)(t:TA):TE:=fun σ H Q=>t σ H fun vs H1=>∃g,σ[i]? =some (some (.ref g))/\∀o:Obj,o.data= .cell (some (.ref g))->H1 c=none->
 sp vs (upd H1 c (iH o c)) (fun v H2=>H2 c=some (iH o c)->Q v (era H2 c)) (fun _ _ _=>False)
theorem Tc{X:Cx}{k:Nat}{f:Addr}{fd:FuncData}{ps:List Str}{sp:Sp}{au:List (Addr×Obj)}{σ:L2.St}{H:Hp}{s:Shared}{Q:VK}{us:List Value}{vs:List V}{x:Str}{c g:Addr}{i:Nat}
  (F:aM X.prog X.w X.K X.mg X.ae bo k f fd ps sp)(hr:gH k X.A)(hb:Binds X.K fd ps [])(I:Inv X au σ H s)(r:Vals vs us)(hN:X.N[i]? =some x)(hk:X.env.scope.names.lookup x=some .cell)(hc:X.env.cells.lookup x=some c)(Ot:X.fn x=true)
  (hg:σ[i]? =some (some (.ref g)))(h:∀o:Obj,o.data= .cell (some (.ref g))->H c=none->sp vs (upd H c (iH o c)) (fun v H2=>H2 c=some (iH o c)->Q v (era H2 c)) (fun _ _ _=>False)):
  wpAny (model X.prog X.w) X.A (call (.ref f) us) (EP X au σ Q) X.xe s:=by
 have nc:H c=none:=I.oB x c hc;obtain⟨o,ho,hd⟩:∃o,s.heap.get? c=some o/\o.data= .cell (some (.ref g)):=by
  obtain⟨m,hn,hl⟩:=I.loc;obtain⟨u,ru,lk⟩:=hl i x _ hN hg (.inr (.inl hk));obtain rfl:u=Value.ref g:=ru;rcases lk with⟨h1,_⟩|⟨_,c',h1,o,h2,h3⟩
  ·have h1:X.env.scope.names.lookup x=some .local:=h1;rw[hk]at h1;cases h1
  rw[hc]at h1;cases h1;exact⟨o,h2,h3⟩
 have hq:=h o hd nc;have csz:X.tw.heap.objs.size<=c:=I.ok.R8 x c Ot hc;have e0:=I.Uw;have nst:c∉Bl X.stack:=fun z=>by
  rcases List.mem_cons.mp (I.G2 c z)with e|hb
  ·exact I.Mn x c hc e
  obtain⟨_,o',Ad,_⟩:=I.ok.rD.mem hb;exact absurd (Nat.lt_of_lt_of_le (Heap.lt_size Ad) csz) (Nat.lt_irrefl _)
 have e1:FA X.prog X.w X.K X.mg X.ae X.A X.stack s (upd H c (iH o c)):=⟨e0.frames,e0.mod,fun b o' e=>⟨(e0.bs b o' e).1,by
   rw[aE (fun z=>by
    rw[z]at e;exact absurd (Nat.lt_of_lt_of_le (Heap.lt_size e) (Nat.le_trans I.ok.Gb csz)) (Nat.lt_irrefl _))]
   exact(e0.bs b o' e).2⟩,e0.Gb,e0.rD,fun b hb=>by rw[aE (show b≠c from fun z=>nst (z▸hb))];exact e0.JE b hb,KN e0.cJ nc ho,e0.bare⟩
 have hl:(us++[]).length=ps.length:=by rw[List.append_nil,<- r.length];exact F.len _ _ _ _ hq
 have hbb:=hb s us I.vW hl;rw[List.append_nil]at hbb;refine wpAny_call (codeAny_mono (F.run X.A X.stack s _ ⟨us,[]⟩ us vs _ _ hr e1 hbb r hq) fun r s' hq=>?_);cases r with
 |error e=>exact False.elim hq
 |ok fl=>
  cases fl with
  |ret u=>
   obtain⟨v,H1,os,bare,un,cJ,rv,q⟩:=hq;have h1:H1 c=some (iH o c):=un.wO c o _ aj;have u2:Un (Bl X.stack) [] H (era H1 c) s.heap s'.heap:=by
    refine⟨fun b ob e n hb hx=>?_,fun b ob e n hb hx=>?_,fun b ob e n hx=>?_,un.there,fun b xs e=>?_,fun b ob xs e=>?_,fun b qs e=>?_⟩
    ·by_cases z:b=c
     ·subst z;rw[ho]at e;cases e;exact(cJ _ _ h1).1
     exact un.keep b ob e (by rw[aE z];exact n) hb hx
    ·have z:b≠c:=fun z=>nst (z▸hb);exact un.slot b ob e (by rw[aE z];exact n) hb hx
    ·by_cases z:b=c
     ·rw[z,rA]
     rw[fZ z];exact un.free b ob e (by rw[aE z];exact n) hx
    ·have z:b≠c:=a7 e nc;rw[fZ z];exact un.tups b xs (by rw[aE z];exact e)
    ·have z:b≠c:=a7 e nc;rw[fZ z];exact un.wO b ob xs (by rw[aE z];exact e)
    have z:b≠c:=a7 e nc;obtain⟨more,e2⟩:=un.xT b qs (by rw[aE z];exact e);exact⟨more,by rw[fZ z];exact e2⟩
   exact⟨v,era H1 c,I.Ue os u2 (Im cJ h1) bare (fun b z=>absurd z (by simp)),rv,q h1⟩
  |next=>exact False.elim hq
  |brk=>exact False.elim hq
  |cont=>exact False.elim hq
theorem C6{X:Cx}{j k:Nat}{f:Addr}{fd:FuncData}{ps:List Str}{sp:Sp}{y x:Str}{p pos:Pos}{e:Expr}{es:List Expr}{t:TA}{c:Addr}{i:Nat}(G:Cl X.prog X.w X.K X.mg X.ae j y f fd ps sp)(hr:gH k X.A)
  (ha:PA X (e::es) t)(hN:X.N[i]? =some x)(hk:X.env.scope.names.lookup x=some .cell)(hc:X.env.cells.lookup x=some c)(Ot:X.fn x=true)(Lu:j<=k:=by decide)(hg:Gl X y:=by rfl)(El:(y==("__debug__":Str))=false:=by decide)
  (he:starEach (e::es) X.env=(false,eval e X.env)::starEach es X.env:=by rfl)(hpl:(backTo pos (starEach es X.env)).any (·.1)=false:=by rfl):
  PE X (.Call (.Name y p) (e::es) [] pos) (Io sp c i t):=by
 intro au s σ H Q I h;refine wpAny_Call_Name_kw (Cn I hg G.kq ?_ El);refine callWith_K (h₀:=X.ae) I.ok.mod.R6 G.kp (c8 (ha pos au s σ H _ I h) fun us s1 ⟨vs,H1,I1,r,g,q1,q2⟩=>⟨I1.vW,?_⟩) he hpl;exact Tc (G.ok.mono Lu) hr G.b I1 r hN hk hc Ot q1 q2
structure vc(N ps:List Str)(x:Str)(sc:Scope):Prop where
 kind:sc.kind= .function
 co:sc.isCoroutine=false
 gen:sc.isGenerator=false
 nd:N.Nodup
 eN:N=ps++[x]
 par:∀y∈ps,sc.names.lookup y=some .local
 RM:∀y∈sc.names,y.2≠ .cell
 free:sc.names.lookup x=some .free
 only:∀y∈sc.names,y.2= .free->y.1=x
noncomputable def cxX(P:Program)(w:World)(K:Frag)(mg:Str->Option Value)(ae:Heap)(N:List Str)(qual:Str)(scope:Scope)(f:Addr)(cd:Value)(cl:List (Str×Addr))(A:Around)(bP:List Env)(s:Shared)(H:Hp)(E:XK):Cx where
 prog:=P
 w:=w
 K:=K
 mg:=mg
 ae:=ae
 A:=A.deeper (envX qual scope s.heap.objs.size f cd cl)
 N:=N
 tw:=s
 R7:=H
 env:=envX qual scope s.heap.objs.size f cd cl
 bP:=bP
 stack:=envX qual scope s.heap.objs.size f cd cl::bP
 ex:=[]
 calm:=true
 fn:=fun _=>false
 pn:=[]
 xe:=fun e s'=>wpAny (model P w) (A.deeper (envX qual scope s.heap.objs.size f cd cl)) («leaving» (envX qual scope s.heap.objs.size f cd cl) e) (fun _ OH=>bo bP H s E e OH) (fun e' OH=>bo bP H s E e' OH) s'
theorem FQ{v:Value}{x:Str}:∀{ps:List Str} {us:List Value} {i:Nat},ps.Nodup->ps[i]? =some x->us[i]? =some v->(ps.zip us).reverse.lookup x=some v
 |[],_,_,_,h,_=>by simp at h
 |_::_,[],_,_,_,h=>by simp at h
 |p::ps,u::us,0,nd,h1,h2=>by
  simp at h1 h2;subst h1 h2;rw[List.zip_cons_cons,List.reverse_cons,List.lookup_append];have:(ps.zip us).reverse.lookup p=none:=by
   rw[List.lookup_eq_none_iff];intro z hz;rw[List.mem_reverse]at hz;have hm:=(List.of_mem_zip (show(z.1,z.2)∈ps.zip us from hz)).1;have:p≠z.1:=fun e=>(List.nodup_cons.mp nd).1 (e▸hm);simpa using this
  rw[this];simp
 |p::ps,u::us,i+1,nd,h1,h2=>by
  rw[List.zip_cons_cons,List.reverse_cons,List.lookup_append,FQ (i:=i) (List.nodup_cons.mp nd).2 (by simpa using h1) (by simpa using h2)];rfl
theorem C7{P:Program}{w:World}{K:Frag}{mg:Str->Option Value}{ae:Heap}{k:Nat}{f c cg g:Addr}{o:Obj}{q x:Str}{params:Arguments}{body:Expr}{scope:Scope}{pm:Value}{N ps:List Str}{sp:Sp}(S:vc N ps x scope)(hod:o.data= .cell (some (.ref g)))
  (len:∀vs H Q E,sp vs H Q E->vs.length=ps.length)
  (hf:∀vs H Q E,sp vs H Q E->H f=some (qC q params body scope [(x,cg)] pm f c)/\H c=some (lp q c)/\H cg=some (iH o cg))
  (wa:∀(A:Around) (bP:List Env) (s:Shared) (H:Hp) (vs:List V) (Q:VK) (E:XK),gH k (A.deeper (envX q scope s.heap.objs.size f (.ref c) [(x,cg)]))->sp vs H Q E->
   ∃t,PE (cxX P w K mg ae N q scope f (.ref c) [(x,cg)] A bP s (era H cg) E).Hn body t/\t (vs.map some++[some (.ref g)]) (era H cg) (fun v H'=>H' cg=none->Q v (upd H' cg (iH o cg)))):
  aM P w K mg ae bo (k+1) f (kla_fn "<lambda>" q params body scope [(x,cg)] pm (.ref c) .none) ps sp:=by
 refine⟨len,fun A bP s H args us vs Q E hr e0 hb r Cs=>?_⟩;have hl:=len _ _ _ _ Cs;obtain⟨h1,h2,h3⟩:=hf _ _ _ _ Cs;obtain⟨⟨ctv,ho⟩,_⟩:=(show gv P w H s.heap f (qC q params body scope [(x,cg)] pm f c)from e0.cJ _ _ h1);obtain⟨pU,_⟩:=(show gv P w H s.heap c (lp q c)from e0.cJ _ _ h2);have pV:s.heap.get? cg=some o:=(e0.cJ _ _ h3).1;have lim:s.heap.NoLimit:=e0.mod.nolimit.keeps fun b o e=>(e0.bs b o e).1;have pX:BindsTo s (kla_fn "<lambda>" q params body scope [(x,cg)] pm (.ref c) ctv) args (ps.zip us):=hb;have hul:us.length=ps.length:=by rw[<- r.length];exact hl
 have Wr:ps.Nodup:=by
  have:=S.nd;rw[S.eN]at this;exact(List.nodup_append.mp this).1
 refine PySem.W.kla_callFunE (body:=body) hr.depth ho rfl S.co S.gen rfl pU (pX _ _ _ _ ?_);refine wpAny_newFunctionEnv S.RM (fun y hy=>S.par y.1 (List.of_mem_zip (show(y.1,y.2)∈ps.zip us from hy)).1) (fun h' QC hsb=>⟨lim.fresh _ hsb,PySem.W.kla_codeExpr ?_⟩) S.kind;have hk:∀b u,s.heap.get? b=some u->h'.get? b=some u:=fun b u e=>hsb.extBut b u (Nat.ne_of_lt (Heap.lt_size e)) (Heap.get?_push_of_some _ e);obtain⟨t,ht,hq⟩:=wa A bP s H vs Q E (hr.deeper _) Cs;have nf:cg∉Bl bP:=fun z=>by have:=e0.JE _ z;rw[h3]at this;cases this
 have MH:∀b:Addr,b∉([]:List Addr):=fun b=>by simp
 have RN:∀{y:Str} {d:Addr},([(x,cg)]:List (Str×Addr)).lookup y=some d->y=x/\d=cg:=fun{y d} e=>by
  by_cases z:y=x
  ·subst z;simp at e;exact⟨rfl,e.symm⟩
  have hb:(y==x)=false:=beq_eq_false_iff_ne.mpr z;simp[List.lookup_cons,hb]at e
 have I:Inv (cxX P w K mg ae N q scope f (.ref c) [(x,cg)] A bP s (era H cg) E) [] (vs.map some++[some (.ref g)]) (era H cg) {s with heap:=h',toks:=s.toks+(ps.zip us).length}:=by
  refine⟨⟨e0.mod,S.kind,rfl,rfl,Nat.le_refl _,fun y z d h1 h2=>?_,fun y hy=>?_,fun y d h _=>(Bool.noConfusion (show false=true from h)),fun _=>hr.hd,Around.frames_deeper e0.frames,.inr ⟨rfl,rfl⟩,fun b z=>absurd z (MH b),fun b ob e=>⟨(e0.bs b ob e).1,?_⟩,e0.Gb,fun b _ _=>MH b,fun b z=>absurd z (MH b),e0.rD,fun b hb=>?_⟩,
   rfl,e0.bare,Un.kept hk,⟨_,QC,fun i y v h1 h2 h3=>?_⟩,fun y d e=>?_,?_,fun y d e=>?_,fun p hp=>absurd (show p∈([]:List (Addr×Obj))from hp) (by simp),(Im e0.cJ h3).kept hk,?_⟩
  ·exact(RN h1).1.trans (RN h2).1.symm
  ·have hy:scope.names.lookup y=some .cell∨scope.names.lookup y=some .free:=hy;rcases hy with hy|hy
   ·exact absurd rfl (S.RM _ (PySem.mem_of_lookup hy))
   have e:=S.only _ (PySem.mem_of_lookup hy) rfl;exact⟨cg,by show([(x,cg)]:List (Str×Addr)).lookup y=_;rw[show y=x from e];simp⟩
  ·show era H cg b=none;by_cases z:b=cg
   ·rw[z,rA]
   rw[fZ z];exact(e0.bs b ob e).2
  ·show era H cg b=none;by_cases z:b=cg
   ·rw[z,rA]
   rw[fZ z];exact e0.JE b hb
  ·have h1:N[i]? =some y:=h1;rw[S.eN]at h1;by_cases hi:i<ps.length
   ·rw[List.getElem?_append_left hi]at h1;rw[List.getElem?_append_left (by rw[List.length_map,hl];exact hi),List.getElem?_map]at h2;have ha:vs[i]? =some v:=by
     cases e:vs[i]? with
     |none=>rw[e]at h2;cases h2
     |some a=>rw[e]at h2;cases h2;rfl
    obtain⟨u,hu,rv⟩:=r.get ha;exact⟨u,rv,.inl ⟨S.par y (List.mem_of_getElem? h1),FQ Wr h1 hu⟩⟩
   have Vm:i=ps.length:=by
    have:=(List.getElem?_eq_some_iff.mp h1).1;simp at this;omega
   subst Vm;rw[List.getElem?_append_right (Nat.le_refl _),Nat.sub_self]at h1;rw[List.getElem?_append_right (by rw[List.length_map,hl];exact Nat.le_refl _),List.length_map,hl,Nat.sub_self]at h2;simp at h1 h2;subst h1 h2;refine⟨.ref g,rfl,.inr ⟨.inr S.free,cg,by show([(x,cg)]:List (Str×Addr)).lookup x=_;simp,o,hk _ _ pV,hod⟩⟩
  ·obtain⟨_,rfl⟩:=RN e;exact⟨_,o,hk _ _ pV,hod⟩
  ·exact(Im e0.cJ h3).fresh (Nat.le_refl _)
  ·obtain⟨_,rfl⟩:=RN e;exact rA
  show(vs.map some++[some (V.ref g)]).length=N.length;rw[S.eN,List.length_append,List.length_append,List.length_map,hl];rfl
 refine wpAny_mono (ht.Hn [] _ _ _ _ I hq) (fun u s' hs=>?_) fun e s' hs=>hs;obtain⟨v,H',J,rv,qq⟩:=hs;have nH':H' cg=none:=J.oB x cg (by show([(x,cg)]:List (Str×Addr)).lookup x=_;simp);have un:Un (Bl bP) [] (era H cg) H' s.heap s'.heap:=J.ae;have Uc:s'.heap.get? cg=some o:=un.keep cg o pV rA nf (MH _);refine⟨v,upd H' cg (iH o cg),J.os,J.bare,?_,KN J.cJ nH' Uc,rv,qq nH'⟩;have ne:∀b,H b=none->b≠cg:=fun b n z=>by rw[z,h3]at n;cases n
 refine⟨fun b ob e n hb hx=>un.keep b ob e (by rw[fZ (ne b n)];exact n) hb hx,fun b ob e n hb hx=>un.slot b ob e (by rw[fZ (ne b n)];exact n) hb hx,fun b ob e n hx=>?_,un.there,fun b xs e=>?_,fun b ob xs e=>?_,fun b qs e=>?_⟩
 ·rw[aE (ne b n)];exact un.free b ob e (by rw[fZ (ne b n)];exact n) hx
 ·have z:b≠cg:=fun z=>by rw[z,h3]at e;cases e
  rw[aE z];exact un.tups b xs (by rw[fZ z];exact e)
 ·by_cases z:b=cg
  ·subst z;rw[aj,<- h3];exact e
  rw[aE z];exact un.wO b ob xs (by rw[fZ z];exact e)
 have z:b≠cg:=fun z=>by rw[z,h3]at e;cases e
 obtain⟨more,e2⟩:=un.xT b qs (by rw[fZ z];exact e);exact⟨more,by rw[aE z];exact e2⟩
noncomputable def wX(e:Expr):Arguments:=match e with
 | .Lambda a _ _ _=>a
 |_=>{posonlyargs:=[],args:=[],vararg:=none,kwonlyargs:=[],kw_defaults:=[],kwarg:=none,defaults:=[]}
noncomputable def wY(e:Expr):Expr:=match e with
 | .Lambda _ b _ _=>b
 |e=>e
noncomputable def mK(e:Expr):Scope:=match e with
 | .Lambda _ _ s _=>s
 |_=>{kind:=.function,names:=[],isGenerator:=false,isCoroutine:=false}
noncomputable def RO(e:Expr):Pos:=match e with
 | .Lambda _ _ _ p=>p
 |_=>⟨0,0,0,0⟩
def Kp(P:Program)(w:World)(K:Frag)(f:Addr)(sp:Sp):Prop:=keepIn K (.ref f)=true∨∀vs H Q E h,sp vs H Q E->kU P w H h->FnAt f h
structure W5(X:Cx)(f:Addr)(sp:Sp):Prop where
 ex:∃(k:Nat) (fd:FuncData) (ps:List Str),aM X.prog X.w X.K X.mg X.ae bo k f fd ps sp/\gH k X.A/\Binds X.K fd ps []/\Kp X.prog X.w X.K f sp
theorem JU(o i:Expr)(p2:PySem.Pos)(args:List Expr)(keywords:List Keyword)(pos:PySem.Pos)(env:Env):eval (.Call (.Subscript o i p2) args keywords pos) env=(do
  callWith pos (<- eval (.Subscript o i p2) env) [] (backTo pos (starEach args env)) (backToKw pos (keywordEach keywords env))):=rfl
section
variable{X:Cx}{pos:PySem.Pos}{e:Expr}{es:List Expr}{t:TA}{te:TE}
def rf(X:Cx)(tf:TE)(t:TA):TE:=fun σ H Q=>tf σ H fun x H1=>∃f sp,x= .ref f/\W5 X f sp/\t σ H1 fun vs H2=>sp vs H2 Q (fun _ _ _=>False)
theorem ND{au:List (Addr×Obj)}{σ:L2.St}{H:Hp}{s:Shared}{Q:VK}{us:List Value}{vs:List V}{f:Addr}{sp:Sp}(C:W5 X f sp)(I:Inv X au σ H s)(r:Vals vs us)(h:sp vs H Q (fun _ _ _=>False)):
  wpAny (model X.prog X.w) X.A (call (.ref f) us) (EP X au σ Q) X.xe s:=by
 obtain⟨k,fd,ps,F,hr,hb,_⟩:=C.ex;exact G5 (tD:=[]) (ds:=[]) F hr hb .nil (fun _ _ _ _ _ _ _ z=>z.elim) I r (by rw[List.append_nil];exact h)
theorem FR{au:List (Addr×Obj)}{σ:L2.St}{H:Hp}{s:Shared}{Q:VK}{f:Addr}{sp:Sp}(C:W5 X f sp)(I:Inv X au σ H s)(ha:PA X (e::es) t)(h:t σ H fun vs H2=>sp vs H2 Q (fun _ _ _=>False))
  (he:starEach (e::es) X.env=(false,eval e X.env)::starEach es X.env)(hpl:(backTo pos (starEach es X.env)).any (·.1)=false):
  wpAny (model X.prog X.w) X.A (callWith pos (.ref f) [] (backTo pos (starEach (e::es) X.env)) (backToKw pos (keywordEach [] X.env))) (EP X au σ Q) X.xe s:=by
 obtain⟨k,fd,ps,F,hr,hb,hk⟩:=id C.ex;rcases hk with hk|hk
 ·refine callWith_K (h₀:=X.ae) I.ok.mod.R6 hk (c8 (ha pos au s σ H _ I h) fun us s1 ⟨vs,H1,I1,r,q⟩=>⟨I1.vW,?_⟩) he hpl;exact ND C I1 r q
 have go:wpAny (model X.prog X.w) X.A (spliced (backTo pos (starEach (e::es) X.env))) (fun us s1=>FnAt f s1.heap/\wpAny (model X.prog X.w) X.A (call (.ref f) ([]++us)) (EP X au σ Q) X.xe s1) X.xe s:=
  c8 (ha pos au s σ H _ I h) fun us s1 ⟨vs,H1,I1,r,q⟩=>⟨hk _ _ _ _ _ q I1.cJ,ND C I1 r q⟩
 rw[he]at go ⊢;exact PySem.W.callWith_of (by show((false||(backTo pos (starEach es X.env)).any (·.1))||false)=false;rw[hpl];rfl) PySem.W.keeps_F (PySem.Calls.evalArgs_plain go)
theorem vd(i:Nat){x:Str}{p:PySem.Pos}(ha:PA X (e::es) t)(hN:X.N[i]? =some x:=by rfl)(hv:Oq X.env.scope x:=by first|exact Or.inl rfl|exact Or.inr (Or.inl rfl)|exact Or.inr (Or.inr rfl))(hd:(x==("__debug__":Str))=false:=by decide)
  (pU:(x==("__classdict__":Str))=false:=by decide)(he:starEach (e::es) X.env=(false,eval e X.env)::starEach es X.env:=by rfl)(hpl:(backTo pos (starEach es X.env)).any (·.1)=false:=by rfl):
  PE X (.Call (.Name x p) (e::es) [] pos) (rf X (bQ i) t):=by
 intro au s σ H Q I h;refine wpAny_Call_Name_kw (c8 (Rl (X:=X) hN hv hd pU au s σ H _ I h) fun u s1 ⟨x',H1,I1,rx,f,sp,ex,C,q⟩=>?_);subst ex;obtain rfl:u=Value.ref f:=rx;exact FR C I1 ha q he hpl
theorem oG{o i:Expr}{p2:PySem.Pos}(hf:PE X (.Subscript o i p2) te)(ha:PA X (e::es) t)(he:starEach (e::es) X.env=(false,eval e X.env)::starEach es X.env:=by rfl)(hpl:(backTo pos (starEach es X.env)).any (·.1)=false:=by rfl):
  PE X (.Call (.Subscript o i p2) (e::es) [] pos) (rf X te t):=by
 intro au s σ H Q I h;rw[JU];refine wpAny_bind (c8 (hf au s σ H _ I h) fun u s1 ⟨x',H1,I1,rx,f,sp,ex,C,q⟩=>?_);subst ex;obtain rfl:u=Value.ref f:=rx;exact FR C I1 ha q he hpl
end
def ED(kvs:List (Int×Addr)):List (Key×Value):=kvs.map fun z=>(Sum.inl z.1,Value.ref z.2)
structure oq(P:Program)(w:World)(K:Frag)(d:Addr)(kvs:List (Int×Addr)):Prop where
 ns:(d==sysModules)=false
 at_:∀h:Heap,K.In h->h.DictOf (lG P w) d (ED kvs)
def tabAt(kvs:List (Int×Addr))(n:Int):Option Addr:=(kvs.find? fun z=>decide (z.1=n)).map (·.2)
theorem Ip(kvs:List (Int×Addr))(n:Int):valueAt (ED kvs) (Sum.inl n)=(tabAt kvs n).map Value.ref:=by
 unfold valueAt ED tabAt
 induction kvs with
 |nil=>rfl
 |cons a r ih=>
  rw[List.map_cons,List.find?_cons,List.find?_cons];by_cases h:a.1=n
  ·simp[h]
  have h2:¬(Sum.inl a.1:Key)=Sum.inl n:=fun e=>h (Sum.inl.inj e);simp only[h,h2,decide_false];exact ih
section
variable{X:Cx}{o i:Expr}{pos:PySem.Pos}{td ty:TE}{d:Addr}{kvs:List (Int×Addr)}
def pI(d:Addr)(kvs:List (Int×Addr))(td ty:TE):TE:=fun σ H Q=>td σ H fun x H1=>ty σ H1 fun y H2=>∃n f,x= .ref d/\y= .int n/\tabAt kvs n=some f/\Q (.ref f) H2
theorem mi(D:oq X.prog X.w X.K d kvs)(ho:PE X o td)(hi:PE X i ty)(hs:YY i):PE X (.Subscript o i pos) (pI d kvs td ty):=by
 intro au s σ H Q I h;refine UM PySem.F.slot_dict_getitem.lookup hs (c8 (ho au s σ H _ I h) fun u s1 ⟨x,H1,I1,rx,q1⟩=>c8 (hi au s1 σ H1 _ I1 q1) fun iv s2 ⟨y,H2,I2,ry,n,f,ex,ey,hf,q2⟩=>?_);subst ex ey;obtain rfl:u=Value.ref d:=rx;have dd:=D.at_ _ I2.vW;refine⟨dd.typeIs,wpAny_getItem_of (UL (k:=Sum.inl n) ry) dd.mapOf (v:=Value.ref f) (by rw[Ip,hf];rfl) ⟨.ref f,H2,I2.tok _,rfl,q2⟩⟩
def tS(d:Addr)(kvs:List (Int×Addr))(ty td:TE):TE:=fun σ H Q=>ty σ H fun y H1=>td σ H1 fun x H2=>∃n,x= .ref d/\y= .int n/\Q (.bl (!(tabAt kvs n).isSome)) H2
theorem oH(D:oq X.prog X.w X.K d kvs)(hi:PE X i ty)(ho:PE X o td):PC X .NotIn i o (tS d kvs ty td):=by
 intro au s σ H Q I h;refine c8 (hi au s σ H _ I h) fun iv s1 ⟨y,H1,I1,ry,q1⟩=>c8 (ho au s1 σ H1 _ I1 q1) fun u s2 ⟨x,H2,I2,rx,n,ex,ey,q2⟩=>?_;subst ex ey;obtain rfl:u=Value.ref d:=rx;have dd:=D.at_ _ I2.vW;refine wpAny_notIn_of (UL (k:=Sum.inl n) ry) D.ns dd.mapOf ?_;rw[Ip,Option.isSome_map];exact⟨.bl _,H2,I2.tok _,rfl,q2⟩
end
theorem aU{X:Cx}{x:Str}{v:Int}{pos:PySem.Pos}(h:∃t,X.mg x=some (.int v t))(hg:Gl X x:=by rfl)(hd:(x==("__debug__":Str))=false:=by decide):PE X (.Name x pos) (tC (.int v)):=by
 obtain⟨t,e⟩:=h;exact Mr hg e ⟨t,rfl⟩ hd
structure eV(mg:Str->Option Value):Prop where
 LF:∃t,mg "NOT_BEGUN"=some (.int (-11) t)
 f9:∃t,mg "NO_SUCH"=some (.int (-2) t)
 iU:∃t,mg "NO_KINDS"=some (.int (-6) t)
 NF:∃t,mg "NO_BALLS"=some (.int (-6) t)
 Gh:∃t,mg "TOO_FEW_LEFT"=some (.int (-6) t)
 NG:∃t,mg "HAS_NONE"=some (.int (-12) t)
 cx:∃t,mg "OUT_OF_RANGE"=some (.int (-22) t)
 C8:∃t,mg "FULL"=some (.int (-28) t)
 tT:∃t,mg "DOES_NOT_SERVE"=some (.int (-33) t)
 Iq:∃t,mg "ODD_WEIGHTS"=some (.int (-33) t)
 NH:∃t,mg "NEVER"=some (.int (-33) t)
 yw:∃t,mg "TOO_FEW_RED"=some (.int (-33) t)
 AY:∃t,mg "MOST_KINDS"=some (.int 6 t)
 Ir:∃t,mg "MOST_WEIGHT"=some (.int 20 t)
 cG:∃t,mg "MOST_DRAWS_alike_calls"=some (.int 10 t)
 Iu:∃t,mg "MOST_THINGS"=some (.int 24 t)
 ve:∃t,mg "MOST_BELOW_box_calls"=some (.int 1000 t)
 oI:∃t,mg "MOST_PICTURES"=some (.int 100 t)
 Iv:∃t,mg "PACKET_SIZE"=some (.int 3 t)
 Iw:∃t,mg "MOST_NEEDED"=some (.int 399 t)
 cq:∃t,mg "MOST_DRAWS_manykinds_calls"=some (.int 12 t)
 JV:∃t,mg "MOST_ABOVE"=some (.int 100 t)
 pJ:∃t,mg "MOST_BELOW_manykinds_calls"=some (.int 100 t)
 QD:∃t,mg "COLOURS"=some (.int 2 t)
 LG:∃t,mg "MOST_MORE"=some (.int 5 t)
 AZ:∃t,mg "MOST_BALLS"=some (.int 10 t)
 NI:∃t,mg "MOST_ROW"=some (.int 6 t)
 fI:∃t,mg "MOST_DRAWS_urn_calls"=some (.int 8 t)
 tU:∃t,mg "MOST_FAR_DRAWS"=some (.int 1000 t)
 JW:∃t,mg "MOST_ALLBY"=some (.int 20 t)
 JX:∃t,mg "MOST_FRESH"=some (.int 12 t)
 Vn:∃t,mg "BEGIN"=some (.int 0 t)
structure rg(P:Program)(w:World)(K:Frag)(mg:Str->Option Value)(ae:Heap)(C:Addr)(k:Nat)(m:Str)(f:Addr)(fd:FuncData)(ps:List Str)(sp:Sp):Prop where
 ok:aM P w K mg ae bo k f fd ps sp
 b:Binds K fd ps []
 KO:Meth K C m f
 cl:Ek K C
theorem eC{X:Cx}{C:Addr}{j k:Nat}{m:Str}{f:Addr}{fd:FuncData}{ps:List Str}{sp:Sp}{pos apos:PySem.Pos}{o e:Expr}{es:List Expr}{ta:TE}{t:TA}{pl:Sem Bool}(he:PE X o ta)(G:rg X.prog X.w X.K X.mg X.ae C j m f fd ps sp)(hr:gH k X.A)
  (ha:PA X (e::es) t)(Lu:j<=k:=by decide)(Ho:starEach (e::es) X.env=(false,eval e X.env)::starEach es X.env:=by rfl)(hpl:(backTo pos (starEach es X.env)).any (·.1)=false:=by rfl)
  (ht:eval (.Call (.Attribute o m apos) (e::es) [] pos) X.env=(do
   let ov <- eval o X.env
   standAt apos.atName
   let(f,first) <- holding [ov] (getMethod ov m pl)
   callWith pos f first (backTo pos (starEach (e::es) X.env)) (backToKw pos (keywordEach [] X.env))):=by rfl):
  PE X (.Call (.Attribute o m apos) (e::es) [] pos) (bp C m sp [] (fun _ _ _=>False) ta t):=
 Ux he G.cl G.KO (G.ok.mono Lu) hr G.b .nil (fun _ _ _ _ _ _ _ h=>h.elim) ha Ho hpl ht
theorem QE{X:Cx}{C:Addr}{j k:Nat}{m:Str}{f:Addr}{fd:FuncData}{ps:List Str}{sp:Sp}{pos apos:PySem.Pos}{o:Expr}{ta:TE}{pl:Sem Bool}(he:PE X o ta)(G:rg X.prog X.w X.K X.mg X.ae C j m f fd ps sp)(hr:gH k X.A)(Lu:j<=k:=by decide)
  (ht:eval (.Call (.Attribute o m apos) [] [] pos) X.env=(do
   let ov <- eval o X.env
   standAt apos.atName
   let(f,first) <- holding [ov] (getMethod ov m pl)
   callWith pos f first (backTo pos (starEach [] X.env)) (backToKw pos (keywordEach [] X.env))):=by rfl):
  PE X (.Call (.Attribute o m apos) [] [] pos) (bp C m sp [] (fun _ _ _=>False) ta bK):=
 Sh he G.cl G.KO (G.ok.mono Lu) hr G.b .nil (fun _ _ _ _ _ _ _ h=>h.elim) ht
def yx:Sp:=fun vs H Q _=>∃n:Nat,vs=[.int n]/\Q (.bl (decide (1<=n/\n<=20))) H
abbrev wz:Stmt:=top 39
theorem JY:aC ["number"] ["number"] (ay wz):=aJ
theorem JZ(N:eV mg)(F:bD K "is_weight" "is_weight" wz f fd):aM P w K mg ae bo 1 f fd ["number"] yx:=by
 refine bG F JY fun _ _ _ _ H _ Q _ hr h=>?_;obtain⟨n,rfl,k⟩:=h;refine⟨_,(ah (az (Se uz uz ai (pv 0) (aU N.Ir)))),?_⟩;w_on;by_cases h1:1<=n
 ·rw[if_pos (by omega)];rw[decide_eq_decide.mpr (show((n:Int)<=20)↔(1<=n/\n<=20)by omega)];exact k
 rw[if_neg (by omega)];rw[decide_eq_false (show ¬(1<=n/\n<=20)by omega)]at k;exact k
def zV(C:Addr):Sp:=fun vs H Q _=>∃(A:AA) (b:Bool) (t:Table) (p i:Nat),vs=[.ref A.a,.int p,.int i]/\bj C H A b t/\Q (.bl (decide (p<2/\i<t.kinds.length))) H
abbrev m8:Stmt:=inClass (top 144) 4
theorem BF:aC ["self","collector","kind"] ["self","collector","kind"] (ay m8):=aJ
theorem e9{b:Bool}{aw ao:Addr}{n:Nat}{m:Str}(h:(decide (m="begun")||decide (m="weights")||decide (m="owned")||decide (m="packets"))=false:=by decide +kernel):(gY b aw ao n).lookup m=none:=by
 simp only[Bool.or_eq_false_iff,decide_eq_false_iff_not]at h;exact Ve b aw ao n h.1.1.1 h.1.1.2 h.1.2 h.2
theorem LH(X:gm K mg C)(F:bD K "has_pair" "Album.has_pair" m8 f fd)(bI:rg P w K mg ae C 1 "has_collector" g1 bH ["self","collector"] (tR C))(iV:rg P w K mg ae C 1 "has_kind" g2 cp ["self","kind"] (Hc C)):
  aM P w K mg ae bo 2 f fd ["self","collector","kind"] (zV C):=by
 refine bG F BF fun _ A _ _ H _ Q _ hr h=>?_;obtain⟨A,b,t,p,i,rfl,ha,k⟩:=h;refine⟨_,(ah (az (Ro (eC (pv 0) bI hr (aa (pv 1) af)) (Rm (eC (pv 0) iV hr (aa (pv 2) af)))))),?_⟩;w_on;refine⟨A.dx,_,ha.ins,e9,?_⟩;refine⟨A,b,t,p,rfl,ha,?_⟩;w_on;by_cases h1:p<2
 ·rw[if_pos h1];refine⟨A.dx,_,ha.ins,e9,⟨A,b,t,i,rfl,ha,?_⟩⟩;rw[decide_eq_decide.mpr (show(p<2/\i<t.kinds.length)↔i<t.kinds.length by omega)]at k;exact k
 rw[if_neg h1];rw[decide_eq_false (show ¬(p<2/\i<t.kinds.length)by omega)]at k;exact k
theorem NJ{H:Hp}{l:Addr}{xs:List V}{y:V}{Q:VK}(h:H l=some (.lst xs))(hn:xs.length<sizeLine)(q:Q .e7 (upd H l (.lst (xs++[y])))):MO (.ref l) [y] H Q:=⟨l,xs,y,rfl,rfl,h,hn,q⟩
theorem vf{n:Nat}(h:n<=1000000):n<sizeLine:=by rw[sizeLine_eq];omega
theorem bj.ne{C:Addr}{H:Hp}{A:AA}{b:Bool}{t:Table}(h:bj C H A b t):A.a≠A.dx/\A.a≠A.aw/\A.a≠A.ao/\A.a≠A.a0/\A.a≠A.a1/\A.dx≠A.aw/\A.dx≠A.ao/\A.dx≠A.a0/\A.dx≠A.a1/\A.aw≠A.ao/\A.aw≠A.a0/\A.aw≠A.a1/\A.ao≠A.a0/\A.ao≠A.a1/\A.a0≠A.a1:=by
 have nd:=h.nd;unfold AA.foot at nd;simp only[List.nodup_cons,List.mem_cons,List.not_mem_nil,not_or,or_false,not_false_eq_true,List.nodup_nil,and_true]at nd;obtain⟨⟨a1,a2,a3,a4,a5⟩,⟨b1,b2,b3,b4⟩,⟨c1,c2,c3⟩,⟨d1,d2⟩,e1⟩:=nd;exact⟨a1,a2,a3,a4,a5,b1,b2,b3,b4,c1,c2,c3,d1,d2,e1⟩
theorem Vo{K:Frag}{mg:Str->Option Value}{C a dx aw ao:Addr}{H:Hp}{b:Bool}{n:Nat}{ta:TE}{σ:L2.St}{Q:VK}(T:gm K mg C)(h:H a=some (.ins C dx (gY b aw ao n)))(lj:∀R:VK,R (.ref a) H->ta σ H R)(q:Q (.ref ao) H):xX K ta "owned" σ H Q:=
 lj _ ⟨a,C,dx,_,_,rfl,h,T.cl,T.nO,FO _ _ _ _,q⟩
theorem lN(x y:V):cW [x,y] 0=some x:=rfl
theorem pB(x y:V):cW [x,y] 1=some y:=rfl
theorem tV(l:List Nat)(x:Nat):ax l++[V.int (x:Int)]=ax (l++[x]):=by unfold ax;rw[List.map_append];rfl
def EE(t:Table)(w:Nat):Table:={t with kinds:=t.kinds++[w],one:=t.one++[0],two:=t.two++[0]}
def Iy(C:Addr):Sp:=fun vs H Q _=>∃(A:AA) (b:Bool) (t:Table) (x:Nat),vs=[.ref A.a,.int x]/\bj C H A b t/\1<=x/\x<=20/\t.kinds.length<6/\∀H',bj C H' A b (EE t x)->Kept A H H'->Q .e7 H'
abbrev m9:Stmt:=inClass (top 144) 5
theorem BG:aC ["self","weight"] ["self","weight"] (ay m9):=aJ
theorem LI(X:gm K mg C)(F:bD K "add_kind" "Album.add_kind" m9 f fd):aM P w K mg ae bo 1 f fd ["self","weight"] (Iy C):=by
 have T:=X.blt;refine bG F BG fun _ A _ _ H _ Q _ hr h=>?_;obtain⟨A,b,t,x,rfl,ha,hx1,hx2,hl,k⟩:=h;obtain⟨n1,n2,n3,n4,n5,n6,n7,n8,n9,Vp,Vq,Vr,Vs,W6,Td⟩:=ha.ne;refine⟨_,(ag (jx (uA PySem.F.plainAttrs_list PySem.F.slot_list_append PySem.F.type_list_append rG (bg (pv 0) rfl) (aa (pv 1) af)))
  (ag (jx (uA PySem.F.plainAttrs_list PySem.F.slot_list_append PySem.F.type_list_append rG (aD aA (bg (pv 0) rfl) ai (fun _ _=>rfl)) (aa ai af)))
  (ah (jx (uA PySem.F.plainAttrs_list PySem.F.slot_list_append PySem.F.type_list_append rG (aD aA (bg (pv 0) rfl) ai (fun _ _=>rfl)) (aa ai af)))))),?_⟩
 w_on;refine fW X ha ?_;w_on;refine⟨.inl ⟨rfl,_,aG.of ha.fY⟩,NJ ha.fY (vf (by rw[aX];omega)) ?_⟩;w_on;refine Vo (dx:=A.dx) X (by rw[aE n2];exact ha.ins) (fun R r=>by w_on;exact r) ?_;w_on;refine bq (aG.of (by rw[aE (Ne.symm Vp)];exact ha.lst)) (lN _ _) ?_;w_on;have h0:upd H A.aw (.lst (ax t.kinds++[V.int (x:Int)])) A.a0=some (.lst (ax t.one)):=by rw[aE (Ne.symm Vq)];exact ha.one
 refine⟨.inl ⟨rfl,_,aG.of h0⟩,NJ h0 (vf (by rw[aX,ha.l1];omega)) ?_⟩;w_on;refine Vo (dx:=A.dx) X (by rw[aE n4,aE n2];exact ha.ins) (fun R r=>by w_on;exact r) ?_;w_on;refine bq (aG.of (by rw[aE Vs,aE (Ne.symm Vp)];exact ha.lst)) (pB _ _) ?_;w_on;have h1:upd (upd H A.aw (.lst (ax t.kinds++[V.int (x:Int)]))) A.a0 (.lst (ax t.one++[V.int 0])) A.a1=some (.lst (ax t.two)):=by rw[aE (Ne.symm Td),aE (Ne.symm Vr)];exact ha.two
 refine⟨.inl ⟨rfl,_,aG.of h1⟩,NJ h1 (vf (by rw[aX,ha.l2];omega)) ?_⟩;w_on;refine k _ ⟨?_,?_,?_,?_,?_,?_,ha.nd,?_,?_,?_⟩ (fun c o e hc=>?_)
 ·rw[aE n5,aE n4,aE n2];exact ha.ins
 ·rw[aE n9,aE n8,aE n6];exact ha.own
 ·rw[aE Vr,aE Vq,aj,tV];rfl
 ·rw[aE W6,aE Vs,aE (Ne.symm Vp)];exact ha.lst
 ·rw[aE Td,aj];exact congrArg (fun z=>some (HO.lst z)) (tV t.one 0)
 ·rw[aj];exact congrArg (fun z=>some (HO.lst z)) (tV t.two 0)
 ·show(t.one++[0]).length=(t.kinds++[x]).length;rw[List.length_append,List.length_append,ha.l1];rfl
 ·show(t.two++[0]).length=(t.kinds++[x]).length;rw[List.length_append,List.length_append,ha.l2];rfl
 ·refine⟨?_,fun y hy=>?_,fun y hy=>?_⟩
  ·show(t.kinds++[x]).length<=6;rw[List.length_append];simp;omega
  ·rcases List.mem_append.mp hy with q|q
   ·exact ha.ok.pos y q
   rw[List.mem_singleton.mp q];exact hx1
  rcases List.mem_append.mp hy with q|q
  ·exact ha.ok.top y q
  rw[List.mem_singleton.mp q];exact hx2
 have q:c≠A.aw/\c≠A.a0/\c≠A.a1:=by
  unfold AA.foot at hc;simp only[List.mem_cons,not_or]at hc;exact⟨hc.2.2.1,hc.2.2.2.2.1,hc.2.2.2.2.2.1⟩
 rw[aE q.2.2,aE q.2.1,aE q.1];exact e
def pick(A:AA)(p:Nat):Addr:=if p=0 then A.a0 else A.a1
theorem bj.of_{H:Hp}{A:AA}{b:Bool}{t:Table}(h:bj C H A b t){p:Nat}(hp:p<2):H (pick A p)=some (.lst (ax (Kp296.of_ t p)))/\cW [V.ref A.a0,V.ref A.a1] (p:Int)=some (.ref (pick A p))/\(Kp296.of_ t p).length=t.kinds.length:=by
 match p,hp with
 |0,_=>exact⟨h.one,rfl,h.l1⟩
 |1,_=>exact⟨h.two,rfl,h.l2⟩
theorem bj.store{H:Hp}{A:AA}{b:Bool}{t:Table}(h:bj C H A b t){p i v:Nat}(hp:p<2):bj C (upd H (pick A p) (.lst (ax ((Kp296.of_ t p).set i v)))) A b (with_ t p ((Kp296.of_ t p).set i v)):=by
 obtain⟨n1,n2,n3,n4,n5,n6,n7,n8,n9,Vp,Vq,Vr,Vs,W6,Td⟩:=h.ne
 match p,hp with
 |0,_=>
  exact⟨(aE n4).trans h.ins,(aE n8).trans h.own,(aE Vq).trans h.fY,(aE Vs).trans h.lst,aj,(aE (Ne.symm Td)).trans h.two,h.nd,(List.length_set ..).trans h.l1,h.l2,h.ok⟩
 |1,_=>
  exact⟨(aE n5).trans h.ins,(aE n9).trans h.own,(aE Vr).trans h.fY,(aE W6).trans h.lst,(aE Td).trans h.one,aj,h.nd,h.l1,(List.length_set ..).trans h.l2,h.ok⟩
theorem Iz(A:AA)(p:Nat):pick A p∈A.foot:=by
 unfold pick AA.foot;split <;> simp
def EF(C:Addr)(up:Bool):Sp:=fun vs H Q _=>∃(A:AA) (b:Bool) (t:Table) (p i:Nat),vs=[.ref A.a,.int p,.int i]/\bj C H A b t/\p<2/\i<t.kinds.length/\(up=false->0<count t p i)/\
 ∀H',bj C H' A b (change t p i up)->Kept A H H'->Q .e7 H'
abbrev ky:Stmt:=inClass (top 144) 6
theorem xD:aC ["self","collector","kind"] ["self","collector","kind"] (ay ky):=aJ
theorem Gi(X:gm K mg C)(F:bD K "add_picture" "Album.add_picture" ky f fd):aM P w K mg ae bo 1 f fd ["self","collector","kind"] (EF C true):=by
 have T:=X.blt;refine bG F xD fun _ A _ _ H _ Q _ hr h=>?_;obtain⟨A,b,t,p,i,rfl,ha,hp,hi,hup,k⟩:=h;obtain⟨o1,o2,o3⟩:=ha.of_ hp;refine⟨_,(ah (lI (aD aA (bg (pv 0) rfl) (pv 1) (fun _ _=>rfl)) (pv 2) j5 ai mT set_list)),?_⟩;w_on;refine fO X ha ?_;w_on;refine bq (aG.of ha.lst) o2 ?_;w_on;refine getL (i:=i) (aG.of o1) (v:=V.int ((count t p i:Nat):Int)) ?_ ?_
 ·have e:=du (l:=Kp296.of_ t p) (i:=i) (by omega);unfold ax;rw[List.getElem?_map,List.getElem?_eq_getElem (by omega)];unfold count;rw[List.getD_eq_getElem?_getD,List.getElem?_eq_getElem (by omega)];rfl
 w_on;refine wW o1 (by rw[aX];omega) ?_;rw[show((count t p i:Nat):Int)+1=((count t p i+1:Nat):Int)by omega,ia];refine k _ (ha.store hp) (fun c o e hc=>?_);rw[aE (fun q=>hc (by rw[q];exact Iz A p))];exact e
abbrev kb:Stmt:=inClass (top 144) 7
theorem wA:aC ["self","collector","kind"] ["self","collector","kind"] (ay kb):=aJ
theorem EG(X:gm K mg C)(F:bD K "take_picture" "Album.take_picture" kb f fd):aM P w K mg ae bo 1 f fd ["self","collector","kind"] (EF C false):=by
 have T:=X.blt;refine bG F wA fun _ A _ _ H _ Q _ hr h=>?_;obtain⟨A,b,t,p,i,rfl,ha,hp,hi,hup,k⟩:=h;have hup:=hup rfl;obtain⟨o1,o2,o3⟩:=ha.of_ hp;refine⟨_,(ah (lI (aD aA (bg (pv 0) rfl) (pv 1) (fun _ _=>rfl)) (pv 2) j5 ai Lb set_list)),?_⟩;w_on;refine fO X ha ?_;w_on;refine bq (aG.of ha.lst) o2 ?_;w_on;refine getL (i:=i) (aG.of o1) (v:=V.int ((count t p i:Nat):Int)) ?_ ?_
 ·unfold ax;rw[List.getElem?_map,List.getElem?_eq_getElem (by omega)];unfold count;rw[List.getD_eq_getElem?_getD,List.getElem?_eq_getElem (by omega)];rfl
 w_on;refine wW o1 (by rw[aX];omega) ?_;rw[show((count t p i:Nat):Int) - 1=((count t p i - 1:Nat):Int)by omega,ia];refine k _ (ha.store hp) (fun c o e hc=>?_);rw[aE (fun q=>hc (by rw[q];exact Iz A p))];exact e
def cQ(K:Frag)(C:Addr)(n:Nat)(f:Table->List Nat->Table×List Int):Sp:=fun vs H Q _=>∃(A:AA) (t:Table) (g:Addr) (args:List Nat),vs=[.ref A.a,.ref g]/\bj C H A true t/\aG K H g (ax args)/\g∉A.foot/\args.length=n/\
 ∀z (A':AA) H',A'.a=A.a->bj C H' A' true (f t args).1->Kept A H H'->(∀c∈A'.foot,c∈A.foot∨H c=none)->H z=none->z∉A'.foot->H' z=some (.lst (c9 (f t args).2))->Q (.ref z) H'
theorem bj.iW{C:Addr}{H:Hp}{A:AA}{b:Bool}{t:Table}(h:bj C H A b t){z:Addr}(hz:H z=none):z∉A.foot:=by
 unfold AA.foot;simp only[List.mem_cons,List.not_mem_nil,or_false,not_or];refine⟨?_,?_,?_,?_,?_,?_⟩ <;> intro e <;> subst e
 ·rw[h.ins]at hz;cases hz
 ·rw[h.own]at hz;cases hz
 ·rw[h.fY]at hz;cases hz
 ·rw[h.lst]at hz;cases hz
 ·rw[h.one]at hz;cases hz
 rw[h.two]at hz;cases hz
theorem a8{C:Addr}{H H':Hp}{A:AA}{t t':Table}{NK:List Int}{Q:VK}{z:Addr}(ha:bj C H A true t)
  (k:∀z (A':AA) H',A'.a=A.a->bj C H' A' true t'->Kept A H H'->(∀c∈A'.foot,c∈A.foot∨H c=none)->H z=none->z∉A'.foot->H' z=some (.lst (c9 NK))->Q (.ref z) H')
  (e:t'=t)(s:aq H H')(hz:H z=none)(h:H' z=some (.lst (c9 NK))):Q (.ref z) H':=by
 subst e;exact k z A H' rfl (ha.same s) (Kept.of s) (fun c hc=>.inl hc) hz (ha.iW hz) h
theorem Hg{C:Addr}{H H1:Hp}{A:AA}{t t' t1:Table}{NK:List Int}{Q:VK}{z:Addr}(ha:bj C H A true t)
  (k:∀z (A':AA) H',A'.a=A.a->bj C H' A' true t'->Kept A H H'->(∀c∈A'.foot,c∈A.foot∨H c=none)->H z=none->z∉A'.foot->H' z=some (.lst (c9 NK))->Q (.ref z) H')
  (h1:bj C H1 A true t1)(e:t'=t1)(kp:Kept A H H1)(hz:H1 z=none)(v:List V)(hv:v=c9 NK):Q (.ref z) (upd H1 z (.lst v)):=by
 subst e hv;have hf:=h1.iW hz;have hz0:H z=none:=by
  cases q:H z with
  |none=>rfl
  |some o=>rw[kp z o q hf]at hz;cases hz
 exact k z A _ rfl (h1.same (aq.new hz)) (fun b o e hb=>by rw[aE (fun q=>by rw[q,hz0]at e;cases e)];exact kp b o e hb) (fun c hc=>.inl hc) hz0 hf aj
theorem list1{l:List Nat}(h:l.length=1):∃x,l=[x]:=by
 match l,h with
 |[x],_=>exact⟨x,rfl⟩
theorem uO{l:List Nat}(h:l.length=2):∃x y,l=[x,y]:=by
 match l,h with
 |[x,y],_=>exact⟨x,y,rfl⟩
theorem jU(x:Nat):cW (ax [x]) 0=some (V.int (x:Int)):=rfl
theorem ng(x y:Nat):cW (ax [x,y]) 0=some (V.int (x:Int)):=rfl
theorem nh(x y:Nat):cW (ax [x,y]) 1=some (V.int (y:Int)):=rfl
def LJ(t:Table)(args:List Nat):Table×List Int:=bh (.kind (args.getD 0 0)) t
theorem Te(t:Table)(x:Nat):LJ t [x]=if okW x=false then(t,[-22])else if 6<=t.kinds.length then(t,[-28])else(EE t x,[(t.kinds.length:Int)]):=by
 unfold LJ bh;show((Kp296.step (some t) (.kind x)).1.getD t,(Kp296.step (some t) (.kind x)).2.num::(Kp296.step (some t) (.kind x)).2.nums)=_;have e:Kp296.step (some t) (.kind x)=if okW x=false then(some t,Kp296.say (-22))else if KINDS<=t.kinds.length then(some t,Kp296.say (-28))else(some (EE t x),Kp296.say (t.kinds.length:Int)):=rfl;rw[e];by_cases h1:okW x=false
 ·rw[if_pos h1,if_pos h1];rfl
 rw[if_neg h1,if_neg h1];by_cases h2:KINDS<=t.kinds.length
 ·rw[if_pos h2,if_pos (show 6<=t.kinds.length from h2)];rfl
 rw[if_neg h2,if_neg (show ¬6<=t.kinds.length from h2)];rfl
abbrev rU:Stmt:=top 99
theorem wZ:aC ["album","given","weight"] ["album","given"] (ay rU):=aJ
theorem Gj(X:gm K mg C)(N:eV mg)(F:bD K "answer_kind" "answer_kind" rU f fd)(iX:Cl P w K mg ae 1 "is_weight" g1 bH ["number"] yx)
  (FT:rg P w K mg ae C 1 "add_kind" g2 cp ["self","weight"] (Iy C)):aM P w K mg ae bo 2 f fd ef (cQ K C 1 LJ):=by
 have T:=X.blt;refine bG F wZ fun _ A _ _ H _ Q _ hr h=>?_;obtain⟨A,t,g,args,rfl,ha,hg,fJ,hn,k⟩:=h;obtain⟨x,rfl⟩:=list1 hn;rw[Te,RG]at k;refine⟨_,(ag (pz 2 wZ (aD aA (pv 1) ai (fun _ _=>rfl)))
  (ag (a9 (fN (eU (ak iX hr (aa (pv 2) af))))
   (ah (az (aK (aa (aU N.cx) af))))
   aI)
  (ag (a9 (aP iE (aT a6 (by rfl) T.dZ boot_len (aa (bg (pv 0) rfl) af)) (aU N.AY) (aV _))
   (ah (az (aK (aa (aU N.C8) af))))
   aI)
  (ag (jx (eC (pv 0) FT hr (aa (pv 2) af)))
  (ah (az (aK (aa (aO dU (aT a6 (by rfl) T.dZ boot_len (aa (bg (pv 0) rfl) af)) ai) af)))))))),?_⟩
 w_on;refine bq hg (jU x) ?_;w_on;refine⟨x,rfl,?_⟩;w_on;by_cases h1:1<=x/\x<=20
 ·rw[if_neg (by rw[decide_eq_true h1];simp)]at k;rw[if_neg (by rw[decide_eq_true h1];simp)];refine fW X ha ?_;w_on;refine⟨_,.inl (aG.of ha.fY),dv _ _,?_⟩;rw[aX];by_cases h2:6<=t.kinds.length
  ·have h6:=ha.ok.jr;rw[if_pos h2]at k;rw[if_pos (by omega)];exact⟨by decide,fun z hz=>a8 ha k rfl (aq.new hz) hz aj⟩
  rw[if_neg h2]at k;rw[if_neg (by omega)];refine⟨A.dx,_,ha.ins,e9,A,true,t,x,rfl,ha,h1.1,h1.2,by omega,fun H1 h3 kp=>?_⟩;w_on;refine fW X h3 ?_;w_on;refine⟨_,.inl (aG.of h3.fY),by decide,fun z hz=>Hg ha k h3 rfl kp hz _ ?_⟩;rw[aX];show[V.int (((t.kinds++[x]).length:Nat) - 1:Int)]=[V.int (t.kinds.length:Int)];rw[List.length_append,List.length_singleton]
  congr 2
  omega
 rw[if_pos (by rw[decide_eq_false h1])]at k;rw[if_pos (by rw[decide_eq_false h1];rfl)];exact⟨by decide,fun z hz=>a8 ha k rfl (aq.new hz) hz aj⟩
theorem cD{c:Kp296.Call}{t t':Table}{v:Int}(h:Kp296.step (some t) c=(some t',Kp296.say v)):bh c t=(t',[v]):=by
 unfold bh;rw[h];rfl
theorem mL{p i n:Nat}:(1<p∨decide (i<n)=false)↔¬(p<2/\i<n):=by
 simp only[decide_eq_false_iff_not];omega
theorem bj.Tf{C:Addr}{K:Frag}{H:Hp}{A:AA}{b:Bool}{t:Table}(h:bj C H A b t){p i:Nat}(hp:p<2)(hi:i<t.kinds.length){Q:VK}(q:Q (.int ((count t p i:Nat):Int)) H):ML K (.ref (pick A p)) (.int (i:Int)) H Q:=by
 obtain⟨o1,o2,o3⟩:=h.of_ hp;exact bq (aG.of o1) (du (by omega)) q
theorem bj.yy{C:Addr}{K:Frag}{H:Hp}{A:AA}{b:Bool}{t:Table}(h:bj C H A b t){p:Nat}(hp:p<2){Q:VK}(q:Q (.ref (pick A p)) H):ML K (.ref A.ao) (.int (p:Int)) H Q:=bq (aG.of h.lst) (h.of_ hp).2.1 q
theorem A1{t:Table}{p i:Nat}{up:Bool}(hp:p<2)(hi:i<(Kp296.of_ t p).length):count (change t p i up) p i=if up then count t p i+1 else count t p i - 1:=by
 match p,hp with
 |0,_=>
  show((t.one.set i _).getD i 0)=_;rw[List.getD_eq_getElem?_getD,List.getElem?_set_self (show i<t.one.length from hi)];rfl
 |1,_=>
  show((t.two.set i _).getD i 0)=_;rw[List.getD_eq_getElem?_getD,List.getElem?_set_self (show i<t.two.length from hi)];rfl
def Vt(t:Table)(args:List Nat):Table×List Int:=bh (.got (args.getD 0 0) (args.getD 1 0)) t
theorem Vu(t:Table)(p i:Nat):Vt t [p,i]=if ¬(p<2/\i<t.kinds.length)then(t,[-2])else if 100<=count t p i then(t,[-28])else(change t p i true,[((count t p i+1:Nat):Int)]):=by
 show bh (.got p i) t=_;have e:Kp296.step (some t) (.got p i)=if 1<p∨Kp296.is t i=false then(some t,Kp296.say (-2))else if 100<=count t p i then(some t,Kp296.say (-28))else(some (change t p i true),Kp296.say (count t p i+1:Nat)):=rfl;by_cases h1:1<p∨Kp296.is t i=false
 ·rw[if_pos h1]at e;rw[if_pos (mL.mp h1),cD e]
 rw[if_neg h1]at e;rw[if_neg (fun q=>h1 (mL.mpr q))];by_cases h2:100<=count t p i
 ·rw[if_pos h2]at e ⊢;rw[cD e]
 rw[if_neg h2]at e ⊢;rw[cD e]
abbrev uP:Stmt:=top 100
theorem rV:aC ["album","given","collector","kind"] ["album","given"] (ay uP):=aJ
theorem IA(X:gm K mg C)(N:eV mg)(F:bD K "answer_got" "answer_got" uP f fd)(fk:rg P w K mg ae C 2 "has_pair" g1 bH ["self","collector","kind"] (zV C))
  (gP:rg P w K mg ae C 1 "add_picture" g2 cp ["self","collector","kind"] (EF C true)):aM P w K mg ae bo 3 f fd ef (cQ K C 2 Vt):=by
 have T:=X.blt;refine bG F rV fun _ A _ _ H _ Q _ hr h=>?_;obtain⟨A,t,g,args,rfl,ha,hg,fJ,hn,k⟩:=h;obtain⟨p,i,rfl⟩:=uO hn;rw[Vu]at k;refine⟨_,(ag (pz 2 rV (aD aA (pv 1) ai (fun _ _=>rfl)))
  (ag (pz 3 rV (aD aA (pv 1) ai (fun _ _=>rfl)))
  (ag (a9 (fN (eU (eC (pv 0) fk hr (aa (pv 2) (aa (pv 3) af)))))
   (ah (az (aK (aa (aU N.f9) af))))
   aI)
  (ag (a9 (aP OA (aD aA (aD aA (bg (pv 0) rfl) (pv 2) (fun _ _=>rfl)) (pv 3) (fun _ _=>rfl)) (aU N.oI) (aV _))
   (ah (az (aK (aa (aU N.C8) af))))
   aI)
  (ag (jx (eC (pv 0) gP hr (aa (pv 2) (aa (pv 3) af))))
  (ah (az (aK (aa (aD aA (aD aA (bg (pv 0) rfl) (pv 2) (fun _ _=>rfl)) (pv 3) (fun _ _=>rfl)) af))))))))),?_⟩
 w_on;refine bq hg (ng p i) ?_;w_on;refine bq hg (nh p i) ?_;w_on;refine⟨A.dx,_,ha.ins,e9,A,true,t,p,i,rfl,ha,?_⟩;w_on;by_cases h1:p<2/\i<t.kinds.length
 ·rw[if_neg (fun q=>q h1)]at k;rw[if_neg (by rw[decide_eq_true h1];simp)];refine fO X ha ?_;w_on;refine ha.yy h1.1 ?_;w_on;refine ha.Tf h1.1 h1.2 ?_;w_on;by_cases h2:100<=count t p i
  ·rw[if_pos h2]at k;rw[if_pos (by omega)];exact⟨by decide,fun z hz=>a8 ha k rfl (aq.new hz) hz aj⟩
  rw[if_neg h2]at k;rw[if_neg (by omega)];refine⟨A.dx,_,ha.ins,e9,A,true,t,p,i,rfl,ha,h1.1,h1.2,(fun q=>by cases q),fun H1 h3 kp=>?_⟩;w_on;refine fO X h3 ?_;w_on;refine h3.yy h1.1 ?_;w_on;have hl:(change t p i true).kinds.length=t.kinds.length:=by
   unfold change with_;split <;> rfl
  refine h3.Tf h1.1 (by rw[hl];exact h1.2) ?_;w_on;refine⟨by decide,fun z hz=>Hg ha k h3 rfl kp hz _ ?_⟩;rw[A1 h1.1 (by rw[(ha.of_ h1.1).2.2];exact h1.2)];rfl
 rw[if_pos h1]at k;rw[if_pos (by rw[decide_eq_false h1];rfl)];exact⟨by decide,fun z hz=>a8 ha k rfl (aq.new hz) hz aj⟩
def NL(t:Table)(_:List Nat):Table×List Int:=bh .bought t
abbrev oJ:Stmt:=top 105
theorem C9:aC ["album","given"] ["album","given"] (ay oJ):=aJ
theorem Dc(X:gm K mg C)(F:bD K "answer_bought" "answer_bought" oJ f fd):aM P w K mg ae bo 1 f fd ef (cQ K C 0 NL):=by
 refine bG F C9 fun _ A _ _ H _ Q _ hr h=>?_;obtain⟨A,t,g,args,rfl,ha,hg,fJ,hn,k⟩:=h;refine⟨_,(ah (az (aK (aa (bg (pv 0) rfl) af)))),?_⟩;w_on;refine fP X ha ?_;w_on;exact⟨by decide,fun z hz=>a8 ha k rfl (aq.new hz) hz aj⟩
def QF(t:Table)(args:List Nat):Table×List Int:=bh (.told (args.getD 0 0)) t
theorem Tg(t:Table)(p:Nat):QF t [p]=if p<2 then(t,((Kp296.of_ t p).length:Int)::(Kp296.of_ t p).map fun(n:Nat)=>(n:Int))else(t,[-2]):=by
 show bh (.told p) t=_;have e:Kp296.step (some t) (.told p)=(some t,if 1<p then Kp296.say (-2)else tellAll (Kp296.of_ t p)):=rfl;by_cases h1:p<2
 ·rw[if_neg (by omega)]at e;rw[if_pos h1];unfold bh;rw[e];rfl
 rw[if_pos (by omega)]at e;rw[if_neg h1,cD e]
abbrev rW:Stmt:=top 106
theorem qd:aC ["album","given","collector","counts"] ["album","given"] (ay rW):=aJ
theorem Gk(X:gm K mg C)(N:eV mg)(F:bD K "answer_told" "answer_told" rW f fd)(bI:rg P w K mg ae C 1 "has_collector" g1 bH ["self","collector"] (tR C)):aM P w K mg ae bo 2 f fd ef (cQ K C 1 QF):=by
 have T:=X.blt;refine bG F qd fun _ A _ _ H _ Q _ hr h=>?_;obtain⟨A,t,g,args,rfl,ha,hg,fJ,hn,k⟩:=h;obtain⟨p,rfl⟩:=list1 hn;rw[Tg]at k;refine⟨_,(ag (pz 2 qd (aD aA (pv 1) ai (fun _ _=>rfl)))
  (ag (a9 (fN (eU (eC (pv 0) bI hr (aa (pv 2) af))))
   (ah (az (aK (aa (aU N.f9) af))))
   aI)
  (ag (pz 3 qd (aD aA (bg (pv 0) rfl) (pv 2) (fun _ _=>rfl)))
  (ah (az (aO lW (aK (aa (aT a6 (by rfl) T.dZ boot_len (aa (pv 3) af)) af)) (pv 3))))))),?_⟩
 w_on;refine bq hg (jU p) ?_;w_on;refine⟨A.dx,_,ha.ins,e9,A,true,t,p,rfl,ha,?_⟩;w_on;by_cases h1:p<2
 ·rw[if_pos h1]at k;rw[if_neg (by rw[decide_eq_true h1];simp)];refine fO X ha ?_;w_on;refine ha.yy h1 ?_;w_on;obtain⟨o1,o2,o3⟩:=ha.of_ h1;have hf:=ha.ok.jr;refine⟨_,.inl (aG.of o1),by decide,fun z hz=>?_⟩;refine wV aj ((aq.new hz) _ _ o1) (iQ (by rw[aX,o3];simp;omega)) fun z2 hz2=>?_;refine a8 ha k rfl ((aq.new hz).trans (aq.new hz2)) ((aq.new hz).free hz2) ?_;rw[aj];simp[c9,ax]
 rw[if_neg h1]at k;rw[if_pos (by rw[decide_eq_false h1];rfl)];exact⟨by decide,fun z hz=>a8 ha k rfl (aq.new hz) hz aj⟩
def uQ(c:List Nat):List Nat:=(List.range c.length).filter fun i=>c.getD i 0==0
theorem Th(c:List Nat):(List.range c.length).filterMap (fun i=>if c.getD i 0=0 then some (V.int (i:Int))else none)=ax (uQ c):=by
 unfold uQ ax;generalize List.range c.length=L
 induction L with
 |nil=>rfl
 |cons a L ih=>
  rw[List.filterMap_cons];by_cases h:c.getD a 0=0
  ·rw[if_pos h,List.filter_cons_of_pos (by rw[h];rfl)];show _::_=_;rw[ih];rfl
  rw[if_neg h,List.filter_cons_of_neg (by simpa using h)];exact ih
theorem QG(c:List Nat):(uQ c).length<=c.length:=by
 unfold uQ;refine Nat.le_trans (List.length_filter_le _ _) ?_;rw[List.length_range];exact Nat.le_refl _
theorem NM{C:Addr}{H:Hp}{A:AA}{b:Bool}{t:Table}(h:bj C H A b t){p:Nat}(hp:p<2):uQ (Kp296.of_ t p)=(Kp296.nums t).filter fun i=>count t p i==0:=by
 unfold uQ Kp296.nums;rw[(h.of_ hp).2.2];rfl
def IB(K:Frag):Sp:=fun vs H Q _=>∃(a:Addr) (c:List Nat),vs=[.ref a]/\aG K H a (ax c)/\c.length<=1000/\∀z H',H z=none->aq H H'->H' z=some (.lst (ax (uQ c)))->Q (.ref z) H'
abbrev oK:Stmt:=top 98
theorem ni:aC ["counts","kind"] ["counts"] (ay oK):=aJ
theorem Dd(T:gE mg)(F:bD K "lacking_kinds" "lacking_kinds" oK f fd):aM P w K mg ae bo 1 f fd ["counts"] (IB K):=by
 refine bG F ni fun _ _ _ _ H _ Q _ hr h=>?_;obtain⟨a,c,rfl,ha,hc,k⟩:=h;refine⟨_,(ah (az (lh rfl ni.nd (eK rfl T.gA (aa (aT a6 (by rfl) T.dZ boot_len (aa (pv 0) af)) af)) (c7 (own:=[("kind",1)]) (by rfl)) (fun _ _ _ _ _=>(qz 1 ni)) (fun _ _ _ _ _=>yb (aP iE (aD (rn (K:=K) rfl) (pv 0) (pv 1) (fun _ _=>rfl)) ai (aV _))) (fun _ _ _ _ _=>(pv 1))))),?_⟩;w_on;refine Qr (n:=c.length) (fun R r=>by w_on;exact⟨_,.inl ha,by rw[aX];exact r⟩) (by omega) (fun i=>if c.getD i 0=0 then some (V.int (i:Int))else none) (fun i H3 Ry Rn hi s3 h1 h2=>?_) (fun D H3 hD s3 h3=>?_)
 ·w_on;refine bq (s3.seq ha) (du hi) ?_;w_on;refine⟨dv _ _,Cy (fun h0=>?_) (fun h0=>?_)⟩
  ·exact h1 _ _ (aq.refl _) (if_pos (by omega))
  exact h2 _ (aq.refl _) (if_neg (by omega))
 rw[Th]at h3;exact k D H3 hD s3 h3
def EH(t:Table)(args:List Nat):Table×List Int:=bh (.lacking (args.getD 0 0)) t
theorem LK(t:Table)(p:Nat):EH t [p]=if p<2 then(t,(((Kp296.nums t).filter fun i=>count t p i==0).length:Int)::((Kp296.nums t).filter fun i=>count t p i==0).map fun(n:Nat)=>(n:Int))else(t,[-2]):=by
 show bh (.lacking p) t=_;have e:Kp296.step (some t) (.lacking p)=(some t,if 1<p then Kp296.say (-2)else tellAll ((Kp296.nums t).filter fun i=>count t p i==0)):=rfl;by_cases h1:p<2
 ·rw[if_neg (by omega)]at e;rw[if_pos h1];unfold bh;rw[e];rfl
 rw[if_pos (by omega)]at e;rw[if_neg h1,cD e]
abbrev nj:Stmt:=top 103
theorem mj:aC ["album","given","collector","kinds"] ["album","given"] (ay nj):=aJ
theorem BH(X:gm K mg C)(N:eV mg)(F:bD K "answer_lacking" "answer_lacking" nj f fd)(bI:rg P w K mg ae C 1 "has_collector" g1 bH ["self","collector"] (tR C))
  (fK:Cl P w K mg ae 1 "lacking_kinds" g2 cp ["counts"] (IB K)):aM P w K mg ae bo 2 f fd ef (cQ K C 1 EH):=by
 have T:=X.blt;refine bG F mj fun _ A _ _ H _ Q _ hr h=>?_;obtain⟨A,t,g,args,rfl,ha,hg,fJ,hn,k⟩:=h;obtain⟨p,rfl⟩:=list1 hn;rw[LK]at k;refine⟨_,(ag (pz 2 mj (aD aA (pv 1) ai (fun _ _=>rfl)))
  (ag (a9 (fN (eU (eC (pv 0) bI hr (aa (pv 2) af))))
   (ah (az (aK (aa (aU N.f9) af))))
   aI)
  (ag (pz 3 mj (ak fK hr (aa (aD aA (bg (pv 0) rfl) (pv 2) (fun _ _=>rfl)) af)))
  (ah (az (aO lW (aK (aa (aT a6 (by rfl) T.dZ boot_len (aa (pv 3) af)) af)) (pv 3))))))),?_⟩
 w_on;refine bq hg (jU p) ?_;w_on;refine⟨A.dx,_,ha.ins,e9,A,true,t,p,rfl,ha,?_⟩;w_on;by_cases h1:p<2
 ·rw[if_pos h1,<- NM ha h1]at k;rw[if_neg (by rw[decide_eq_true h1];simp)];refine fO X ha ?_;w_on;refine ha.yy h1 ?_;w_on;obtain⟨o1,o2,o3⟩:=ha.of_ h1;have hf:=ha.ok.jr;have hl:=QG (Kp296.of_ t p);refine⟨_,_,rfl,aG.of o1,by omega,fun z1 H1 gC s1 h2=>?_⟩;w_on;refine⟨_,.inl (aG.of h2),by decide,fun z hz=>?_⟩;refine wV aj ((aq.new hz) _ _ h2) (iQ (by rw[aX];simp;omega)) fun z2 hz2=>?_;refine a8 ha k rfl (s1.trans ((aq.new hz).trans (aq.new hz2))) ((s1.trans (aq.new hz)).free hz2) ?_;rw[aj];simp[c9,ax]
 rw[if_neg h1]at k;rw[if_pos (by rw[decide_eq_false h1];rfl)];exact⟨by decide,fun z hz=>a8 ha k rfl (aq.new hz) hz aj⟩
def EI(t:Table)(args:List Nat):Table×List Int:=bh (.doubles (args.getD 0 0)) t
theorem range_getD(c:List Nat):(List.range c.length).map (fun i=>c.getD i 0)=c:=by
 apply List.ext_getElem?;intro i;rw[List.getElem?_map];by_cases h:i<c.length
 ·rw[List.getElem?_range h,List.getElem?_eq_getElem h];simp[h]
 rw[List.getElem?_eq_none (by simpa using h),List.getElem?_eq_none (by simpa using h)];rfl
theorem LL{H:Hp}{A:AA}{b:Bool}{t:Table}(h:bj C H A b t)(p:Nat):EI t [p]=if p<2 then(t,[((((Kp296.of_ t p).map fun c=>c - 1).sum:Nat):Int)])else(t,[-2]):=by
 show bh (.doubles p) t=_;have e:Kp296.step (some t) (.doubles p)=(some t,if 1<p then Kp296.say (-2)else Kp296.say (doubles t p:Int)):=rfl;by_cases h1:p<2
 ·rw[if_neg (by omega)]at e;rw[if_pos h1,cD e]
  congr 3
  unfold doubles Kp296.nums count;rw[bO,<- (h.of_ h1).2.2];have q:=congrArg (fun l=>(l.map fun c=>c - 1).sum) (range_getD (Kp296.of_ t p));simp only[List.map_map]at q;exact q
 rw[if_pos (by omega)]at e;rw[if_neg h1,cD e]
theorem NN(c:List Nat):c.filterMap (fun(x:Nat)=>if 1<x then some (V.int ((x - 1:Nat):Int))else none)=((c.filter fun x=>decide (1<x)).map fun x=>(((x - 1:Nat)):Int)).map V.int:=by
 induction c with
 |nil=>rfl
 |cons a c ih=>
  rw[List.filterMap_cons];by_cases h:1<a
  ·rw[if_pos h,List.filter_cons_of_pos (by simpa using h)];show _::_=_;rw[ih];rfl
  rw[if_neg h,List.filter_cons_of_neg (by simpa using h)];exact ih
theorem LM(c:List Nat):((c.filter fun x=>decide (1<x)).map fun x=>(((x - 1:Nat)):Int)).sum=(((c.map fun x=>x - 1).sum:Nat):Int):=by
 induction c with
 |nil=>rfl
 |cons a c ih=>
  rw[List.map_cons,List.sum_cons];by_cases h:1<a
  ·rw[List.filter_cons_of_pos (by simpa using h),List.map_cons,List.sum_cons,ih];omega
  rw[List.filter_cons_of_neg (by simpa using h),ih];omega
abbrev nk:Stmt:=top 104
theorem jM:aC ["album","given","collector","count"] ["album","given"] (ay nk):=aJ
theorem BI(X:gm K mg C)(N:eV mg)(F:bD K "answer_doubles" "answer_doubles" nk f fd)(bI:rg P w K mg ae C 1 "has_collector" g1 bH ["self","collector"] (tR C)):
  aM P w K mg ae bo 2 f fd ef (cQ K C 1 EI):=by
 have T:=X.blt;refine bG F jM fun _ A _ _ H _ Q _ hr h=>?_;obtain⟨A,t,g,args,rfl,ha,hg,fJ,hn,k⟩:=h;obtain⟨p,rfl⟩:=list1 hn;rw[LL ha]at k;refine⟨_,(ag (pz 2 jM (aD aA (pv 1) ai (fun _ _=>rfl)))
  (ag (a9 (fN (eU (eC (pv 0) bI hr (aa (pv 2) af))))
   (ah (az (aK (aa (aU N.f9) af))))
   aI)
  (ah (az (aK (aa (aT (fg rfl) (by rfl) T.gN boot_sum (aa (lh rfl jM.nd (fm (aD aA (bg (pv 0) rfl) (pv 2) (fun _ _=>rfl))) (c7 (own:=[("count",3)]) (by rfl)) (fun _ _ _ _ _=>(qz 3 jM)) (fun _ _ _ _ _=>yb (aP fR (pv 3) ai (aV _))) (fun _ _ _ _ _=>(aO dU (pv 3) ai))) af)) af)))))),?_⟩
 w_on;refine bq hg (jU p) ?_;w_on;refine⟨A.dx,_,ha.ins,e9,A,true,t,p,rfl,ha,?_⟩;w_on;by_cases h1:p<2
 ·rw[if_pos h1]at k;rw[if_neg (by rw[decide_eq_true h1];simp)];obtain⟨o1,o2,o3⟩:=ha.of_ h1;have hf:=ha.ok.jr;refine yi (Kp296.of_ t p) (fun(n:Nat)=>V.int (n:Int)) (fun(x:Nat)=>if 1<x then some (V.int ((x - 1:Nat):Int))else none) (fun R r=>by w_on;exact fO X ha (ha.yy h1 r)) (aG.of o1) (by omega) (fun x H3 Ry Rn hx s3 h1 h2=>?_) (fun D H3 hD s3 h3=>?_)
  ·w_on;refine Cy (fun h0=>?_) (fun h0=>?_)
   ·refine h1 _ _ (aq.refl _) ?_;rw[if_pos (by omega)]
    congr 2
    omega
   exact h2 _ (aq.refl _) (if_neg (by omega))
  rw[NN]at h3;refine YZ (aG.of h3) ?_;rw[LM];w_on;exact⟨by decide,fun z hz=>a8 ha k rfl (s3.trans (aq.new hz)) (s3.free hz) aj⟩
 rw[if_neg h1]at k;rw[if_pos (by rw[decide_eq_false h1];rfl)];exact⟨by decide,fun z hz=>a8 ha k rfl (aq.new hz) hz aj⟩
theorem zip_get(l c:List Nat)(h:l.length=c.length){i:Nat}(hi:i<l.length):(l.zip c)[i]? =some (l.getD i 0,c.getD i 0):=by
 have Vm:i<c.length:=h▸hi;have e1:l[i]? =some (l.getD i 0):=by rw[List.getD_eq_getElem?_getD,List.getElem?_eq_getElem hi];rfl
 have e2:c[i]? =some (c.getD i 0):=by rw[List.getD_eq_getElem?_getD,List.getElem?_eq_getElem Vm];rfl
 rw[List.getElem?_zip_eq_some];exact⟨e1,e2⟩
theorem tW(l c:List Nat)(h:l.length=c.length)(hv:Nat)(hb:∀i,i<l.length->Nat.testBit hv i=(c.getD i 0 != 0)):dP l c=il l hv:=by
 unfold dP il;have e1:(l.zip c).length=l.length:=by rw[List.length_zip,<- h,Nat.min_self]
 rw[<- Bx (l.zip c),e1];have:∀L:List Nat,(∀i∈L,i<l.length)->L.filterMap (fun i=>((l.zip c)[i]?).bind fun z=>if z.2=0 then some z.1 else none)=(L.filter fun i=>!Nat.testBit hv i).map fun i=>l.getD i 0:=by
  intro L
  induction L with
  |nil=>intro _;rfl
  |cons a L ih=>
   intro hL;have ha:=hL a List.mem_cons_self;have ih:=ih fun i hi=>hL i (List.mem_cons_of_mem _ hi);rw[List.filterMap_cons,zip_get l c h ha];by_cases h0:c.getD a 0=0
   ·rw[List.filter_cons_of_pos (by rw[hb a ha,h0];rfl)];simp only[Option.bind_some,if_pos h0];rw[ih];rfl
   rw[List.filter_cons_of_neg (by rw[hb a ha];simpa using h0)];simp only[Option.bind_some,if_neg h0];exact ih
 exact this _ fun i hi=>List.mem_range.mp hi
theorem rX(t:Table)(p i:Nat):Nat.testBit (have_ t p) i=(decide (i<t.kinds.length)&&(count t p i != 0)):=by
 have e:have_ t p=bitsOf t.kinds.length (fun i=>count t p i != 0):=by
  unfold have_ bitsOf Kp296.nums;rw[bO]
 rw[e,qY]
section
variable{C:Addr}{H:Hp}{A:AA}{b:Bool}{t:Table}
theorem bj.tN(h:bj C H A b t){p:Nat}(hp:p<2):dP t.kinds (Kp296.of_ t p)=il t.kinds (have_ t p):=
 tW _ _ (h.of_ hp).2.2.symm _ fun i hi=>by rw[rX,decide_eq_true hi];rfl
noncomputable def d8(t:Table)(p:Nat):Rat:=gw t.kinds.sum (dP t.kinds (Kp296.of_ t p))
theorem bj.mean(h:bj C H A b t){p:Nat}(hp:p<2):Kp296.mean t p=toF (d8 t p):=by
 unfold Kp296.mean d8;rw[HR h.ok.CF,h.tN hp]
noncomputable def together(t:Table):List Nat:=List.zipWith (fun a b=>a+b) t.one t.two
theorem bj.meanBoth(h:bj C H A b t):Kp296.meanBoth t=toF (gw t.kinds.sum (dP t.kinds (together t))):=by
 unfold Kp296.meanBoth;rw[HR h.ok.CF]
 congr 2
 symm
 refine tW _ _ ?_ _ fun i hi=>?_
 ·unfold together;rw[List.length_zipWith,h.l1,h.l2,Nat.min_self]
 unfold Kp296.both;show Nat.testBit (have_ t 0 ||| have_ t 1) i=_;rw[Nat.testBit_or,rX,rX,decide_eq_true hi];have e:(together t).getD i 0=t.one.getD i 0+t.two.getD i 0:=by
  unfold together;rw[List.getD_eq_getElem?_getD,List.getD_eq_getElem?_getD,List.getD_eq_getElem?_getD,List.getElem?_zipWith,List.getElem?_eq_getElem (by rw[h.l1];exact hi),List.getElem?_eq_getElem (by rw[h.l2];exact hi)];rfl
 rw[e];show(true&&(t.one.getD i 0 != 0)||true&&(t.two.getD i 0 != 0))=_;by_cases h1:t.one.getD i 0=0 <;> by_cases h2:t.two.getD i 0=0
 ·rw[h1,h2];rfl
 ·have q:t.one.getD i 0+t.two.getD i 0≠0:=by omega
  simp only[bne_iff_ne.mpr h2,bne_iff_ne.mpr q,Bool.and_self,Bool.or_true]
 ·have q:t.one.getD i 0+t.two.getD i 0≠0:=by omega
  simp only[bne_iff_ne.mpr h1,bne_iff_ne.mpr q,Bool.and_self,Bool.true_or]
 have q:t.one.getD i 0+t.two.getD i 0≠0:=by omega
 simp only[bne_iff_ne.mpr h1,bne_iff_ne.mpr q,Bool.and_self,Bool.true_or]
end
theorem tX{c:Kp296.Call}{t:Table}{r:Rat}(h:Kp296.step (some t) c=(some t,tellF (toF r))):bh c t=(t,[0,r.num,(r.den:Int)]):=by
 unfold bh;rw[h];rfl
noncomputable def QH(t:Table)(args:List Nat):Table×List Int:=bh (.mean (args.getD 0 0)) t
theorem Ti{H:Hp}{A:AA}{b:Bool}{t:Table}(h:bj C H A b t)(p:Nat):QH t [p]=if p<2 then(t,[0,(d8 t p).num,((d8 t p).den:Int)])else(t,[-2]):=by
 show bh (.mean p) t=_;have e:Kp296.step (some t) (.mean p)=(some t,if 1<p then Kp296.say (-2)else tellF (Kp296.mean t p)):=rfl;by_cases h1:p<2
 ·rw[if_neg (by omega),h.mean h1]at e;rw[if_pos h1,tX e]
 rw[if_pos (by omega)]at e;rw[if_neg h1,cD e]
noncomputable abbrev rY:Stmt:=top 192
theorem w6:aC ["album","given","collector"] ["album","given"] (ay rY):=aJ
theorem Gm(X:gm K mg C)(N:eV mg)(F:bD K "answer_mean" "answer_mean" rY f fd)(bI:rg P w K mg ae C 1 "has_collector" g1 bH ["self","collector"] (tR C))
  (bC:Cl P w K mg ae 4 "collector_mean" g2 cp ["weights","counts"] (mJ K))(aB:Cl P w K mg ae 1 "told_fraction" g3 c4 ["pair"] (gz K)):aM P w K mg ae bo 5 f fd ef (cQ K C 1 QH):=by
 have T:=X.blt;refine bG F w6 fun _ A _ _ H _ Q _ hr h=>?_;obtain⟨A,t,g,args,rfl,ha,hg,fJ,hn,k⟩:=h;obtain⟨p,rfl⟩:=list1 hn;rw[Ti ha]at k;refine⟨_,(ag (pz 2 w6 (aD aA (pv 1) ai (fun _ _=>rfl)))
  (ag (a9 (fN (eU (eC (pv 0) bI hr (aa (pv 2) af))))
   (ah (az (aK (aa (aU N.f9) af))))
   aI)
  (ah (az (ak aB hr (aa (ak bC hr (aa (bg (pv 0) rfl) (aa (aD aA (bg (pv 0) rfl) (pv 2) (fun _ _=>rfl)) af))) af)))))),?_⟩
 w_on;refine bq hg (jU p) ?_;w_on;refine⟨A.dx,_,ha.ins,e9,A,true,t,p,rfl,ha,?_⟩;w_on;by_cases h1:p<2
 ·rw[if_pos h1]at k;rw[if_neg (by rw[decide_eq_true h1];simp)];obtain⟨o1,o2,o3⟩:=ha.of_ h1;refine fW X ha ?_;w_on;refine fO X ha ?_;w_on;refine ha.yy h1 ?_;w_on;refine⟨A.aw,pick A p,t.kinds,Kp296.of_ t p,rfl,aG.of ha.fY,aG.of o1,ha.ok,o3.symm,fun z H1 s1 hz hf=>?_⟩;exact⟨z,_,rfl,hz,fun y H2 hy s2 h2=>a8 ha k rfl (s1.trans s2) (s1.free hy) h2⟩
 rw[if_neg h1]at k;rw[if_pos (by rw[decide_eq_false h1];rfl)];exact⟨by decide,fun z hz=>a8 ha k rfl (aq.new hz) hz aj⟩
noncomputable def BJ(t:Table)(_:List Nat):Table×List Int:=bh .meanBoth t
theorem J0{H:Hp}{A:AA}{b:Bool}{t:Table}(h:bj C H A b t)(l:List Nat):BJ t l=(t,[0,(gw t.kinds.sum (dP t.kinds (together t))).num,((gw t.kinds.sum (dP t.kinds (together t))).den:Int)]):=by
 refine tX ?_;show(some t,tellF (Kp296.meanBoth t))=_;rw[h.meanBoth]
noncomputable abbrev ml:Stmt:=top 193
theorem jt:aC ["album","given","together","one","other"] ["album","given"] (ay ml):=aJ
theorem Ah(X:gm K mg C)(F:bD K "answer_meanboth" "answer_meanboth" ml f fd)
  (bC:Cl P w K mg ae 4 "collector_mean" g2 cp ["weights","counts"] (mJ K))(aB:Cl P w K mg ae 1 "told_fraction" g3 c4 ["pair"] (gz K)):aM P w K mg ae bo 5 f fd ef (cQ K C 0 BJ):=by
 have T:=X.blt;refine bG F jt fun _ A _ _ H _ Q _ hr h=>?_;obtain⟨A,t,g,args,rfl,ha,hg,fJ,hn,k⟩:=h;rw[J0 ha]at k;refine⟨_,(ag (j2 (i:=2) rfl jt.nd rfl rfl rfl (zN rfl T.Eu (aa (aD aA (bg (pv 0) rfl) ai (fun _ _=>rfl)) (aa (aD aA (bg (pv 0) rfl) ai (fun _ _=>rfl)) af))) (c7 (own:=[("one",3),("other",4)]) (by rfl)) (fun _ _ _ _ _=>(u7 (K:=K) (n:=2) rfl rfl (eJ (qz 3 jt) (eJ (qz 4 jt) lH)))) (fun _ _ _ _ _=>fq) (fun _ _ _ _ _=>(aO dh (pv 3) (pv 4))))
  (ah (az (ak aB hr (aa (ak bC hr (aa (bg (pv 0) rfl) (aa (pv 2) af))) af))))),?_⟩
 w_on;have hf:=ha.ok.jr;refine KJ t.one t.two (fun(n:Nat)=>V.int (n:Int)) (fun(n:Nat)=>V.int (n:Int)) (fun x y=>some (V.int ((x+y:Nat):Int))) (fun R r=>by
   w_on;refine fO X ha (bq (aG.of ha.lst) (lN _ _) ?_);w_on;exact fO X ha (bq (aG.of ha.lst) (pB _ _) r)) (aG.of ha.one) (aG.of ha.two) (by rw[ha.l1];omega) (by rw[ha.l1,ha.l2]) (fun x y H5 Ry Rn Nk s5 h1 h2=>?_) (fun D H5 hD s5 h5=>?_)
 ·w_on;exact h1 _ _ (aq.refl _) (by rw[Int.natCast_add])
 rw[FI]at h5;w_on;have h2:=ha.same s5;refine fW X h2 ?_;w_on;refine⟨A.aw,D,t.kinds,together t,rfl,aG.of h2.fY,aG.of h5,ha.ok,by unfold together;rw[List.length_zipWith,ha.l1,ha.l2,Nat.min_self],fun z H1 s1 hz hf=>?_⟩;exact⟨z,_,rfl,hz,fun y H2 hy s2 h2=>a8 ha k rfl (s5.trans (s1.trans s2)) ((s5.trans s1).free hy) h2⟩
noncomputable def Vv(K:Frag)(val:Nat->List Nat->Nat->Rat):Sp:=fun vs H Q _=>∃(t:Nat) (a:Addr) (l:List Nat) (n:Nat),vs=[.int t,.ref a,.int n]/\aG K H a (ax l)/\Lk t l/\0<t/\n<=200/\∀z H',aq H H'->bF K H' z (val t l n)->Q (.ref z) H'
structure Hand(P:Program)(w:World)(K:Frag)(mg:Str->Option Value)(ae:Heap)(k:Nat)(f:Addr)(sp:Sp):Prop where
 ex:∃(fd:FuncData) (ps:List Str),aM P w K mg ae bo k f fd ps sp/\Binds K fd ps []/\Kp P w K f sp
theorem Cl.hand{k:Nat}{x:Str}{f:Addr}{fd:FuncData}{ps:List Str}{sp:Sp}(G:Cl P w K mg ae k x f fd ps sp):Hand P w K mg ae k f sp:=⟨fd,ps,G.ok,G.b,.inl G.kp⟩
theorem Hand.Gn{X:Cx}{j k:Nat}{f:Addr}{sp:Sp}(G:Hand X.prog X.w X.K X.mg X.ae j f sp)(hr:gH k X.A)(h:j<=k:=by decide):W5 X f sp:=by
 obtain⟨fd,ps,h1,h2,h3⟩:=G.ex;exact⟨j,fd,ps,h1,hr.mono h,h2,h3⟩
noncomputable def jV(most:Nat)(val:Nat->List Nat->Nat->Rat)(t:Table)(args:List Nat):Table×List Int:=
 if ¬args.getD 0 0<2 then(t,[-2])else if most<args.getD 1 0 then(t,[-22])else if t.kinds.length=0 then(t,[-6])else
  (t,[0,(val t.kinds.sum (dP t.kinds (Kp296.of_ t (args.getD 0 0))) (args.getD 1 0)).num,((val t.kinds.sum (dP t.kinds (Kp296.of_ t (args.getD 0 0))) (args.getD 1 0)).den:Int)])
noncomputable def BK(P:Program)(w:World)(K:Frag)(mg:Str->Option Value)(ae:Heap)(C:Addr):Sp:=fun vs H Q E=>∃(A:AA) (g f:Addr) (most:Nat) (val:Nat->List Nat->Nat->Rat),vs=[.ref A.a,.ref g,.int most,.ref f]/\most<=200/\Hand P w K mg ae 3 f (Vv K val)/\cQ K C 2 (jV most val) [.ref A.a,.ref g] H Q E
noncomputable abbrev mm:Stmt:=top 194
theorem ju:aC ["album","given","most","found","collector","draws","lacking"] ["album","given","most","found"] (ay mm):=aJ
theorem Ai(X:gm K mg C)(N:eV mg)(F:bD K "answer_by_draws" "answer_by_draws" mm f fd)(bI:rg P w K mg ae C 1 "has_collector" g1 bH ["self","collector"] (tR C))
  (cR:Cl P w K mg ae 1 "lacking_weights" g2 cp ["weights","counts"] (CZ K))(aB:Cl P w K mg ae 1 "told_fraction" g3 c4 ["pair"] (gz K)):aM P w K mg ae bo 4 f fd ["album","given","most","found"] (BK P w K mg ae C):=by
 have T:=X.blt;refine bG F ju fun _ A _ _ H _ Q _ hr h=>?_;obtain⟨A0,g,fh,most,val,rfl,Vw,hand,A,t,g',args,e,ha,hg,fJ,hn,k⟩:=h;simp only[List.cons.injEq,V.ref.injEq,and_true]at e;obtain⟨e1,rfl⟩:=e;obtain⟨p,n,rfl⟩:=uO hn;have k:∀z (A':AA) H',A'.a=A.a->bj C H' A' true (jV most val t [p,n]).1->Kept A H H'->(∀c∈A'.foot,c∈A.foot∨H c=none)->H z=none->z∉A'.foot->H' z=some (.lst (c9 (jV most val t [p,n]).2))->Q (.ref z) H':=k;unfold jV at k;simp only[List.getD_cons_zero,List.getD_cons_succ]at k;rw[e1];refine⟨_,(ag (pz 4 ju (aD aA (pv 1) ai (fun _ _=>rfl)))
  (ag (pz 5 ju (aD aA (pv 1) ai (fun _ _=>rfl)))
  (ag (a9 (fN (eU (eC (pv 0) bI hr (aa (pv 4) af))))
   (ah (az (aK (aa (aU N.f9) af))))
   aI)
  (ag (a9 (aP fR (pv 5) (pv 2) (aV _))
   (ah (az (aK (aa (aU N.cx) af))))
   aI)
  (ag (a9 (aP iE (aT a6 (by rfl) T.dZ boot_len (aa (bg (pv 0) rfl) af)) ai (aV _))
   (ah (az (aK (aa (aU N.iU) af))))
   aI)
  (ag (pz 6 ju (ak cR hr (aa (bg (pv 0) rfl) (aa (aD aA (bg (pv 0) rfl) (pv 4) (fun _ _=>rfl)) af))))
  (ah (az (ak aB hr (aa (vd 3 (aa (aT (fg rfl) (by rfl) T.gN boot_sum (aa (bg (pv 0) rfl) af)) (aa (pv 6) (aa (pv 5) af)))) af)))))))))),?_⟩
 w_on;refine bq hg (ng p n) ?_;w_on;refine bq hg (nh p n) ?_;w_on;refine⟨A.dx,_,ha.ins,e9,A,true,t,p,rfl,ha,?_⟩;w_on;by_cases h1:p<2
 ·rw[if_neg (fun q=>q h1)]at k;rw[if_neg (by rw[decide_eq_true h1];simp)];by_cases h2:most<n
  ·rw[if_pos h2]at k;rw[if_pos (by omega)];exact⟨by decide,fun z hz=>a8 ha k rfl (aq.new hz) hz aj⟩
  rw[if_neg h2]at k;rw[if_neg (by omega)];refine fW X ha ?_;w_on;refine⟨_,.inl (aG.of ha.fY),dv _ _,?_⟩;rw[aX];by_cases h3:t.kinds.length=0
  ·rw[if_pos h3]at k;rw[if_pos (by omega)];exact⟨by decide,fun z hz=>a8 ha k rfl (aq.new hz) hz aj⟩
  rw[if_neg h3]at k;rw[if_neg (by omega)];obtain⟨o1,o2,o3⟩:=ha.of_ h1;have hf:=ha.ok.jr;refine fW X ha ?_;w_on;refine fO X ha ?_;w_on;refine ha.yy h1 ?_;w_on;refine⟨A.aw,pick A p,t.kinds,Kp296.of_ t p,rfl,aG.of ha.fY,aG.of o1,by omega,o3.symm,fun z1 H1 s1 gC=>?_⟩;w_on;have ha1:=ha.same s1;refine⟨_,rfl,fh,_,rfl,hand.Gn hr,?_⟩;w_on;refine fW X ha1 ?_;w_on;refine kf (aG.of ha1.fY) ?_;w_on;refine⟨t.kinds.sum,z1,dP t.kinds (Kp296.of_ t p),n,rfl,aG.of gC,ha.ok.lk _,ha.ok.dG h3,by omega,fun z2 H2 s2 hz2=>?_⟩;exact⟨z2,_,rfl,hz2,fun y H3 hy s3 h3=>a8 ha k rfl (s1.trans (s2.trans s3)) ((s1.trans s2).free hy) h3⟩
 rw[if_pos h1]at k;rw[if_pos (by rw[decide_eq_false h1];rfl)];exact⟨by decide,fun z hz=>a8 ha k rfl (aq.new hz) hz aj⟩
theorem eG{X:Cx}{x:Str}{f:Addr}{pos:PySem.Pos}(h:X.mg x=some (.ref f))(hg:Gl X x:=by rfl)(hd:(x==("__debug__":Str))=false:=by decide):PE X (.Name x pos) (tC (.ref f)):=Mr (v:=.ref f) hg h rfl hd
theorem QI(l c:List Nat)(h:l.length=c.length):dP l c=((List.range l.length).filter fun i=>c.getD i 0==0).map fun i=>l.getD i 0:=by
 have e:=tW l c h (bitsOf l.length fun i=>c.getD i 0 != 0) fun i hi=>by rw[qY,decide_eq_true hi];rfl
 rw[e];unfold il
 congr 1
 apply List.filter_congr;intro i hi;rw[List.mem_range]at hi;rw[qY,decide_eq_true hi];simp[bne]
section
variable{H:Hp}{A:AA}{b:Bool}{t:Table}
theorem NO(h:bj C H A b t)(p n:Nat):jV 20 pk t [p,n]=bh (.allBy p n) t:=by
 have e:Kp296.step (some t) (.allBy p n)=(some t,if 1<p then Kp296.say (-2)else if Kp292.DRAWS<n then Kp296.say (-22)else if t.kinds.length=0 then Kp296.say (-6)else tellF (allBy t.kinds (have_ t p) n)):=rfl;unfold jV;simp only[List.getD_cons_zero,List.getD_cons_succ];by_cases h1:p<2
 ·rw[if_neg (by omega)]at e;rw[if_neg (fun q=>q h1)];by_cases h2:20<n
  ·rw[if_pos (show Kp292.DRAWS<n from h2)]at e;rw[if_pos h2,cD e]
  rw[if_neg (show ¬Kp292.DRAWS<n from h2)]at e;rw[if_neg h2];by_cases h3:t.kinds.length=0
  ·rw[if_pos h3]at e ⊢;rw[cD e]
  rw[if_neg h3]at e ⊢;rw[Sw (h.ok.dG h3),<- h.tN h1]at e;rw[tX e]
 rw[if_pos (by omega)]at e;rw[if_pos h1,cD e]
theorem NP(h:bj C H A b t)(p n:Nat):jV 12 (fun s l n=>mkRat ((rS s l n:Nat):Int) (s ^ n)) t [p,n]=bh (.fresh p n) t:=by
 have e:Kp296.step (some t) (.fresh p n)=(some t,if 1<p then Kp296.say (-2)else if Kp293.DRAWS<n then Kp296.say (-22)else if t.kinds.length=0 then Kp296.say (-6)else⟨0,[((Kp296.fresh t p n).1:Int),((Kp296.fresh t p n).2:Int)]⟩):=rfl;unfold jV;simp only[List.getD_cons_zero,List.getD_cons_succ];by_cases h1:p<2
 ·rw[if_neg (by omega)]at e;rw[if_neg (fun q=>q h1)];by_cases h2:12<n
  ·rw[if_pos (show Kp293.DRAWS<n from h2)]at e;rw[if_pos h2,cD e]
  rw[if_neg (show ¬Kp293.DRAWS<n from h2)]at e;rw[if_neg h2];by_cases h3:t.kinds.length=0
  ·rw[if_pos h3]at e ⊢;rw[cD e]
  rw[if_neg h3]at e ⊢;have e2:Kp296.fresh t p n=frac (rS t.kinds.sum (dP t.kinds (Kp296.of_ t p)) n) (t.kinds.sum ^ n):=by
   unfold Kp296.fresh rS;rw[bO,bO,QI _ _ (h.of_ h1).2.2.symm,List.map_map];rfl
  have hp:=fj (h.ok.dG h3) n;unfold bh;rw[e,e2,Kx hp];show _=(t,[0,((frac (rS t.kinds.sum (dP t.kinds (Kp296.of_ t p)) n) (t.kinds.sum ^ n)).1:Int),_]);rw[Kw hp]
 rw[if_pos (by omega)]at e;rw[if_pos h1,cD e]
abbrev qe:Stmt:=top 195
theorem EJ:aC ["album","given"] ["album","given"] (ay qe):=aJ
theorem EK(N:eV mg)(F:bD K "answer_allby" "answer_allby" qe f fd)(eO:Cl P w K mg ae 4 "answer_by_draws" g1 bH ["album","given","most","found"] (BK P w K mg ae C))
  (eW:Cl P w K mg ae 3 "likely_all_by" g2 cp ["total","lacking","draws"] (Ie K)):aM P w K mg ae bo 5 f fd ef (cQ K C 2 (jV 20 pk)):=by
 refine bG F EJ fun _ A _ _ H _ Q _ hr h=>?_;obtain⟨A,t,g,args,rfl,h⟩:=h;refine⟨_,(ah (az (ak eO hr (aa (pv 0) (aa (pv 1) (aa (aU N.JW) (aa (eG eW.kq) af))))))),?_⟩;w_on;exact⟨A,g,g2,20,pk,rfl,by decide,eW.hand,A,t,g,args,rfl,h⟩
abbrev qf:Stmt:=top 199
theorem EL:aC ["album","given"] ["album","given"] (ay qf):=aJ
theorem EM(N:eV mg)(F:bD K "answer_fresh" "answer_fresh" qf f fd)(eO:Cl P w K mg ae 4 "answer_by_draws" g1 bH ["album","given","most","found"] (BK P w K mg ae C))
  (eD:Cl P w K mg ae 3 "mean_fresh" g2 cp ["total","lacking","draws"] (C3 K)):aM P w K mg ae bo 5 f fd ef (cQ K C 2 (jV 12 fun s l n=>mkRat ((rS s l n:Nat):Int) (s ^ n))):=by
 refine bG F EL fun _ A _ _ H _ Q _ hr h=>?_;obtain⟨A,t,g,args,rfl,h⟩:=h;refine⟨_,(ah (az (ak eO hr (aa (pv 0) (aa (pv 1) (aa (aU N.JX) (aa (eG eD.kq) af))))))),?_⟩;w_on;exact⟨A,g,g2,12,_,rfl,by decide,eD.hand,A,t,g,args,rfl,h⟩
def QJ(t:Table)(args:List Nat):Table×List Int:=bh (.half (args.getD 0 0)) t
abbrev rZ:Stmt:=top 196
theorem qg:aC ["album","given","collector","lacking"] ["album","given"] (ay rZ):=aJ
theorem Gp(X:gm K mg C)(N:eV mg)(F:bD K "answer_half" "answer_half" rZ f fd)(bI:rg P w K mg ae C 1 "has_collector" g1 bH ["self","collector"] (tR C))
  (cR:Cl P w K mg ae 1 "lacking_weights" g2 cp ["weights","counts"] (CZ K))(pC:Cl P w K mg ae 2 "half_draws" g3 c4 ["total","lacking"] (RL K)):aM P w K mg ae bo 3 f fd ef (cQ K C 1 QJ):=by
 have T:=X.blt;refine bG F qg fun _ A _ _ H _ Q _ hr h=>?_;obtain⟨A,t,g,args,rfl,ha,hg,fJ,hn,k⟩:=h;obtain⟨p,rfl⟩:=list1 hn;have e:Kp296.step (some t) (.half p)=(some t,if 1<p then Kp296.say (-2)else if t.kinds.length=0 then Kp296.say (-6)else match Kp292.half t.kinds (have_ t p)with
  |some n=>Kp296.say (n:Int)
  |none=>Kp296.say (-33)):=rfl
 have ek:QJ t [p]=bh (.half p) t:=rfl;rw[ek]at k;refine⟨_,(ag (pz 2 qg (aD aA (pv 1) ai (fun _ _=>rfl)))
  (ag (a9 (fN (eU (eC (pv 0) bI hr (aa (pv 2) af))))
   (ah (az (aK (aa (aU N.f9) af))))
   aI)
  (ag (a9 (aP iE (aT a6 (by rfl) T.dZ boot_len (aa (bg (pv 0) rfl) af)) ai (aV _))
   (ah (az (aK (aa (aU N.iU) af))))
   aI)
  (ag (pz 3 qg (ak cR hr (aa (bg (pv 0) rfl) (aa (aD aA (bg (pv 0) rfl) (pv 2) (fun _ _=>rfl)) af))))
  (ah (az (aK (aa (ak pC hr (aa (aT (fg rfl) (by rfl) T.gN boot_sum (aa (bg (pv 0) rfl) af)) (aa (pv 3) af))) af)))))))),?_⟩
 w_on;refine bq hg (jU p) ?_;w_on;refine⟨A.dx,_,ha.ins,e9,A,true,t,p,rfl,ha,?_⟩;w_on;by_cases h1:p<2
 ·rw[if_neg (by omega)]at e;rw[if_neg (by rw[decide_eq_true h1];simp)];refine fW X ha ?_;w_on;refine⟨_,.inl (aG.of ha.fY),dv _ _,?_⟩;rw[aX];by_cases h3:t.kinds.length=0
  ·rw[if_pos h3]at e;rw[cD e]at k;rw[if_pos (by omega)];exact⟨by decide,fun z hz=>a8 ha k rfl (aq.new hz) hz aj⟩
  rw[if_neg h3]at e;rw[if_neg (by omega)];obtain⟨o1,o2,o3⟩:=ha.of_ h1;have hf:=ha.ok.jr;refine fW X ha ?_;w_on;refine fO X ha ?_;w_on;refine ha.yy h1 ?_;w_on;refine⟨A.aw,pick A p,t.kinds,Kp296.of_ t p,rfl,aG.of ha.fY,aG.of o1,by omega,o3.symm,fun z1 H1 s1 gC=>?_⟩;w_on;have ha1:=ha.same s1;refine fW X ha1 ?_;w_on;refine kf (aG.of ha1.fY) ?_;w_on;have ht:=FG ha.ok (have_ t p);rw[<- ha.tN h1]at ht;refine⟨t.kinds.sum,z1,dP t.kinds (Kp296.of_ t p),300,rfl,aG.of gC,ha.ok.lk _,ht,fun n H2 s2 hn1 Ut=>?_⟩;w_on;have hs:=OX ha.ok (have_ t p) (n:=n) (by rw[<- ha.tN h1];exact hn1) (by rw[<- ha.tN h1];exact Ut);rw[hs]at e;rw[cD e]at k;exact⟨by decide,fun z hz=>a8 ha k rfl ((s1.trans s2).trans (aq.new hz)) ((s1.trans s2).free hz) aj⟩
 rw[if_pos (by omega)]at e;rw[cD e]at k;rw[if_pos (by rw[decide_eq_false h1];rfl)];exact⟨by decide,fun z hz=>a8 ha k rfl (aq.new hz) hz aj⟩
end
theorem Vx{t:Table}{p:Nat}(hl:(Kp296.of_ t p).length=t.kinds.length):dP t.kinds (Kp296.of_ t p)=il t.kinds (have_ t p):=
 tW _ _ hl.symm _ fun i hi=>by rw[rX,decide_eq_true hi];rfl
theorem De{t:Table}{p:Nat}(hw:e8 t.kinds)(hl:(Kp296.of_ t p).length=t.kinds.length):Kp296.mean t p=toF (d8 t p):=by
 unfold Kp296.mean d8;rw[HR hw.CF,Vx hl]
theorem dc(t:Table)(p i:Nat)(up:Bool):(change t p i up).kinds=t.kinds:=by
 unfold change with_;split <;> rfl
theorem r0{t:Table}{p i:Nat}{up:Bool}(hp:p<2):Kp296.of_ (change t p i up) p=(Kp296.of_ t p).set i (if up then count t p i+1 else count t p i - 1):=by
 match p,hp with
 |0,_=>rfl
 |1,_=>rfl
theorem J1{t:Table}{p i:Nat}{up:Bool}(hp:p<2):Kp296.of_ (change t (1 - p) i up) p=Kp296.of_ t p:=by
 match p,hp with
 |0,_=>rfl
 |1,_=>rfl
theorem kz{l:List Nat}{i:Nat}(h:i<l.length):(ax l)[i]? =some (V.int ((l.getD i 0:Nat):Int)):=by
 unfold ax;rw[List.getElem?_map,List.getD_eq_getElem?_getD,List.getElem?_eq_getElem h];rfl
def LN(t:Table)(args:List Nat):Table×List Int:=bh (.worth (args.getD 0 0) (args.getD 1 0)) t
theorem QK{H:Hp}{A:AA}{b:Bool}{t:Table}(h:bj C H A b t)(p i:Nat):LN t [p,i]=if ¬(p<2/\i<t.kinds.length)then(t,[-2])else(t,[0,(d8 t p - d8 (change t p i true) p).num,((d8 t p - d8 (change t p i true) p).den:Int)]):=by
 show bh (.worth p i) t=_;have e:Kp296.step (some t) (.worth p i)=(some t,if 1<p∨Kp296.is t i=false then Kp296.say (-2)else tellF (Kp292.add (Kp296.mean t p) (Kp292.neg (Kp296.mean (change t p i true) p)))):=rfl;by_cases h1:1<p∨Kp296.is t i=false
 ·rw[if_pos h1]at e;rw[if_pos (mL.mp h1),cD e]
 rw[if_neg h1]at e;have h2:p<2/\i<t.kinds.length:=by
  refine Classical.byContradiction fun q=>h1 (mL.mpr q)
 rw[if_neg (fun q=>q h2)];have hl:(Kp296.of_ (change t p i true) p).length=(change t p i true).kinds.length:=by
  rw[r0 h2.1,List.length_set,dc];exact(h.of_ h2.1).2.2
 rw[De h.ok (h.of_ h2.1).2.2,De (by rw[dc];exact h.ok) hl,neg_eq,add_eq,<- Rat.sub_eq_add_neg]at e;rw[tX e]
abbrev qh:Stmt:=top 197
theorem jy:aC ["album","given","collector","kind","with_it","mean_now"] ["album","given"] (ay qh):=aJ
theorem EN(X:gm K mg C)(N:eV mg)(F:bD K "answer_worth" "answer_worth" qh f fd)(fk:rg P w K mg ae C 2 "has_pair" g1 bH ["self","collector","kind"] (zV C))
  (bC:Cl P w K mg ae 4 "collector_mean" g2 cp ["weights","counts"] (mJ K))(aB:Cl P w K mg ae 1 "told_fraction" g3 c4 ["pair"] (gz K))(da:Cl P w K mg ae 3 "difference" g4 gG ["greater","lesser"] (CN K)):
  aM P w K mg ae bo 5 f fd ef (cQ K C 2 LN):=by
 have T:=X.blt;refine bG F jy fun _ A _ _ H _ Q _ hr h=>?_;obtain⟨A,t,g,args,rfl,ha,hg,fJ,hn,k⟩:=h;obtain⟨p,i,rfl⟩:=uO hn;rw[QK ha]at k;refine⟨_,(ag (pz 2 jy (aD aA (pv 1) ai (fun _ _=>rfl)))
  (ag (pz 3 jy (aD aA (pv 1) ai (fun _ _=>rfl)))
  (ag (a9 (fN (eU (eC (pv 0) fk hr (aa (pv 2) (aa (pv 3) af)))))
   (ah (az (aK (aa (aU N.f9) af))))
   aI)
  (ag (pz 4 jy (rF lJ (by rfl) T.CQ boot_list (aa (aD aA (bg (pv 0) rfl) (pv 2) (fun _ _=>rfl)) af)))
  (ag (lI (pv 4) (pv 3) j5 ai mT set_list)
  (ag (pz 5 jy (ak bC hr (aa (bg (pv 0) rfl) (aa (aD aA (bg (pv 0) rfl) (pv 2) (fun _ _=>rfl)) af))))
  (ah (az (ak aB hr (aa (ak da hr (aa (pv 5) (aa (ak bC hr (aa (bg (pv 0) rfl) (aa (pv 4) af))) af))) af)))))))))),?_⟩
 w_on;refine bq hg (ng p i) ?_;w_on;refine bq hg (nh p i) ?_;w_on;refine⟨A.dx,_,ha.ins,e9,A,true,t,p,i,rfl,ha,?_⟩;w_on;by_cases h1:p<2/\i<t.kinds.length
 ·rw[if_neg (fun q=>q h1)]at k;rw[if_neg (by rw[decide_eq_true h1];simp)];obtain⟨o1,o2,o3⟩:=ha.of_ h1.1;refine fO X ha ?_;w_on;refine ha.yy h1.1 ?_;w_on;refine⟨_,.inl (aG.of o1),fun q hq=>?_⟩;w_on;refine getL (i:=i) (aG.of aj) (kz (by omega)) ?_;w_on;refine wW aj (by rw[aX];omega) ?_;rw[show((Kp296.of_ t p).getD i 0:Int)+1=(((Kp296.of_ t p).getD i 0+1:Nat):Int)by omega,ia];have s1:aq H (upd (upd H q (.lst (ax (Kp296.of_ t p)))) q (.lst (ax ((Kp296.of_ t p).set i ((Kp296.of_ t p).getD i 0+1))))):=aq.put (aq.new hq) hq;have ha1:=ha.same s1;obtain⟨p1,_,_⟩:=ha1.of_ h1.1;w_on;refine fW X ha1 ?_;w_on;refine fO X ha1 ?_;w_on;refine ha1.yy h1.1 ?_;w_on;refine⟨A.aw,pick A p,t.kinds,Kp296.of_ t p,rfl,aG.of ha1.fY,aG.of p1,ha.ok,o3.symm,fun z2 H2 s2 hz2 f2=>?_⟩;have ha2:=ha1.same s2;w_on;refine fW X ha2 ?_;w_on;refine⟨A.aw,q,t.kinds,(Kp296.of_ t p).set i ((Kp296.of_ t p).getD i 0+1),rfl,aG.of ha2.fY,aG.of (s2 _ _ aj),ha.ok,by rw[List.length_set,o3],fun z3 H3 s3 Tj f3=>?_⟩;have em:gw t.kinds.sum (dP t.kinds ((Kp296.of_ t p).set i ((Kp296.of_ t p).getD i 0+1)))=d8 (change t p i true) p:=by
   unfold d8;rw[r0 h1.1,dc];rfl
  rw[em]at Tj f3;refine⟨z2,z3,_,_,rfl,aq.rat s3 hz2,Tj,f2,f3,fun z4 H4 n4 s4 h4=>?_⟩;refine⟨z4,_,rfl,bF.of h4,fun z5 H5 n5 s5 h5=>?_⟩;exact a8 ha k rfl ((s1.trans s2).trans (s3.trans (s4.trans s5))) (((s1.trans s2).trans (s3.trans s4)).free n5) h5
 rw[if_pos h1]at k;rw[if_pos (by rw[decide_eq_false h1];rfl)];exact⟨by decide,fun z hz=>a8 ha k rfl (aq.new hz) hz aj⟩
def LO(t:Table)(_:List Nat):Table×List Int:=bh .ahead t
theorem QL{H:Hp}{A:AA}{b:Bool}{t:Table}(h:bj C H A b t)(l:List Nat):LO t l=if d8 t 0<d8 t 1 then(t,[1])else if d8 t 1<d8 t 0 then(t,[2])else(t,[0]):=by
 have e:Kp296.step (some t) .ahead=(some t,Kp296.say (if leq (Kp296.mean t 0) (Kp296.mean t 1)then(if leq (Kp296.mean t 1) (Kp296.mean t 0)then 0 else 1)else 2)):=rfl;rw[h.mean (by decide),h.mean (by decide),G8,G8]at e;show bh .ahead t=_;rw[cD e];by_cases h1:d8 t 0<d8 t 1
 ·have a1:d8 t 0<=d8 t 1:=Rat.le_of_lt h1;have a2:¬d8 t 1<=d8 t 0:=Rat.not_le.mpr h1;rw[if_pos h1,if_pos (decide_eq_true a1),if_neg (by rw[decide_eq_false a2];simp)]
 rw[if_neg h1];have a2:d8 t 1<=d8 t 0:=Rat.not_lt.mp h1;by_cases h2:d8 t 1<d8 t 0
 ·have a1:¬d8 t 0<=d8 t 1:=Rat.not_le.mpr h2;rw[if_pos h2,if_neg (by rw[decide_eq_false a1];simp)]
 have a1:d8 t 0<=d8 t 1:=Rat.not_lt.mp h2;rw[if_neg h2,if_pos (decide_eq_true a1),if_pos (decide_eq_true a2)]
abbrev qi:Stmt:=top 198
theorem oM:aC ["album","given","one","other"] ["album","given"] (ay qi):=aJ
theorem EO(X:gm K mg C)(F:bD K "answer_ahead" "answer_ahead" qi f fd)(bC:Cl P w K mg ae 4 "collector_mean" g1 bH ["weights","counts"] (mJ K))
  (fe:Cl P w K mg ae 1 "is_less" g2 cp ["one","other"] (CP K)):aM P w K mg ae bo 5 f fd ef (cQ K C 0 LO):=by
 have T:=X.blt;refine bG F oM fun _ A _ _ H _ Q _ hr h=>?_;obtain⟨A,t,g,args,rfl,ha,hg,fJ,hn,k⟩:=h;rw[QL ha]at k;refine⟨_,(ag (pz 2 oM (ak bC hr (aa (bg (pv 0) rfl) (aa (aD aA (bg (pv 0) rfl) ai (fun _ _=>rfl)) af))))
  (ag (pz 3 oM (ak bC hr (aa (bg (pv 0) rfl) (aa (aD aA (bg (pv 0) rfl) ai (fun _ _=>rfl)) af))))
  (ag (a9 (eU (ak fe hr (aa (pv 2) (aa (pv 3) af))))
   (ah (az (aK (aa ai af))))
   aI)
  (ag (a9 (eU (ak fe hr (aa (pv 3) (aa (pv 2) af))))
   (ah (az (aK (aa ai af))))
   aI)
  (ah (az (aK (aa ai af)))))))),?_⟩
 w_on;refine fW X ha ?_;w_on;refine fO X ha ?_;w_on;refine bq (aG.of ha.lst) (lN _ _) ?_;w_on;refine⟨A.aw,A.a0,t.kinds,t.one,rfl,aG.of ha.fY,aG.of ha.one,ha.ok,ha.l1.symm,fun z1 H1 s1 gC f1=>?_⟩;have ha1:=ha.same s1;w_on;refine fW X ha1 ?_;w_on;refine fO X ha1 ?_;w_on;refine bq (aG.of ha1.lst) (pB _ _) ?_;w_on;refine⟨A.aw,A.a1,t.kinds,t.two,rfl,aG.of ha1.fY,aG.of ha1.two,ha.ok,ha.l2.symm,fun z2 H2 s2 hz2 f2=>?_⟩;w_on;have f1:Fits (d8 t 0):=f1;have f2:Fits (d8 t 1):=f2;have r1:bF K H2 z1 (d8 t 0):=aq.rat s2 gC;have r2:bF K H2 z2 (d8 t 1):=hz2;refine⟨z1,z2,_,_,rfl,r1,r2,f1,f2,?_⟩;w_on;by_cases h1:d8 t 0<d8 t 1
 ·rw[if_pos h1]at k;rw[if_pos h1];exact⟨by decide,fun z hz=>a8 ha k rfl ((s1.trans s2).trans (aq.new hz)) ((s1.trans s2).free hz) aj⟩
 rw[if_neg h1]at k;rw[if_neg h1];refine⟨z2,z1,_,_,rfl,r2,r1,f2,f1,?_⟩;w_on;by_cases h2:d8 t 1<d8 t 0
 ·rw[if_pos h2]at k;rw[if_pos h2];exact⟨by decide,fun z hz=>a8 ha k rfl ((s1.trans s2).trans (aq.new hz)) ((s1.trans s2).free hz) aj⟩
 rw[if_neg h2]at k;rw[if_neg h2];exact⟨by decide,fun z hz=>a8 ha k rfl ((s1.trans s2).trans (aq.new hz)) ((s1.trans s2).free hz) aj⟩
theorem Kept.trans{A:AA}{H H1 H2:Hp}(a:Kept A H H1)(b:Kept A H1 H2):Kept A H H2:=fun c o e hc=>b c o (a c o e hc) hc
def QM(t:Table)(args:List Nat):Table×List Int:=bh (.give (args.getD 0 0) (args.getD 1 0)) t
def KP(t:Table)(p i:Nat):Table:=change (change t p i false) (1 - p) i true
theorem Tn(t:Table)(p i:Nat):QM t [p,i]=if ¬(p<2/\i<t.kinds.length)then(t,[-2])else if count t p i=0 then(t,[-12])else if 100<=count t (1 - p) i then(t,[-28])else(KP t p i,[((count t p i - 1:Nat):Int)]):=by
 show bh (.give p i) t=_;have e:Kp296.step (some t) (.give p i)=if 1<p∨Kp296.is t i=false then(some t,Kp296.say (-2))else if count t p i=0 then(some t,Kp296.say (-12))else if 100<=count t (1 - p) i then(some t,Kp296.say (-28))else(some (KP t p i),Kp296.say (count t p i - 1:Nat)):=rfl;by_cases h1:1<p∨Kp296.is t i=false
 ·rw[if_pos h1]at e;rw[if_pos (mL.mp h1),cD e]
 rw[if_neg h1]at e;rw[if_neg (fun q=>h1 (mL.mpr q))];by_cases h2:count t p i=0
 ·rw[if_pos h2]at e ⊢;rw[cD e]
 rw[if_neg h2]at e ⊢;by_cases h3:100<=count t (1 - p) i
 ·rw[if_pos h3]at e ⊢;rw[cD e]
 rw[if_neg h3]at e ⊢;rw[cD e]
theorem NQ{t:Table}{p i:Nat}(hp:p<2)(hi:i<(Kp296.of_ t p).length):count (KP t p i) p i=count t p i - 1:=by
 have e:Kp296.of_ (KP t p i) p=Kp296.of_ (change t p i false) p:=J1 hp;unfold count;rw[e];exact A1 hp hi
abbrev se:Stmt:=top 101
theorem l3:aC ["album","given","collector","kind","other"] ["album","given"] (ay se):=aJ
theorem Gq(X:gm K mg C)(N:eV mg)(F:bD K "answer_give" "answer_give" se f fd)(fk:rg P w K mg ae C 2 "has_pair" g1 bH ["self","collector","kind"] (zV C))
  (gP:rg P w K mg ae C 1 "add_picture" g2 cp ["self","collector","kind"] (EF C true))(w8:rg P w K mg ae C 1 "take_picture" g3 c4 ["self","collector","kind"] (EF C false)):aM P w K mg ae bo 3 f fd ef (cQ K C 2 QM):=by
 have T:=X.blt;refine bG F l3 fun _ A _ _ H _ Q _ hr h=>?_;obtain⟨A,t,g,args,rfl,ha,hg,fJ,hn,k⟩:=h;obtain⟨p,i,rfl⟩:=uO hn;rw[Tn]at k;refine⟨_,(ag (pz 2 l3 (aD aA (pv 1) ai (fun _ _=>rfl)))
  (ag (pz 3 l3 (aD aA (pv 1) ai (fun _ _=>rfl)))
  (ag (a9 (fN (eU (eC (pv 0) fk hr (aa (pv 2) (aa (pv 3) af)))))
   (ah (az (aK (aa (aU N.f9) af))))
   aI)
  (ag (pz 4 l3 (aO dU ai (pv 2)))
  (ag (a9 (aP iE (aD aA (aD aA (bg (pv 0) rfl) (pv 2) (fun _ _=>rfl)) (pv 3) (fun _ _=>rfl)) ai (aV _))
   (ah (az (aK (aa (aU N.NG) af))))
   aI)
  (ag (a9 (aP OA (aD aA (aD aA (bg (pv 0) rfl) (pv 4) (fun _ _=>rfl)) (pv 3) (fun _ _=>rfl)) (aU N.oI) (aV _))
   (ah (az (aK (aa (aU N.C8) af))))
   aI)
  (ag (jx (eC (pv 0) w8 hr (aa (pv 2) (aa (pv 3) af))))
  (ag (jx (eC (pv 0) gP hr (aa (pv 4) (aa (pv 3) af))))
  (ah (az (aK (aa (aD aA (aD aA (bg (pv 0) rfl) (pv 2) (fun _ _=>rfl)) (pv 3) (fun _ _=>rfl)) af)))))))))))),?_⟩
 w_on;refine bq hg (ng p i) ?_;w_on;refine bq hg (nh p i) ?_;w_on;refine⟨A.dx,_,ha.ins,e9,A,true,t,p,i,rfl,ha,?_⟩;w_on;by_cases h1:p<2/\i<t.kinds.length
 ·rw[if_neg (fun q=>q h1)]at k;rw[if_neg (by rw[decide_eq_true h1];simp)];have e1:(1:Int) - (p:Int)=((1 - p:Nat):Int):=by omega
  rw[e1];have hq:1 - p<2:=by omega
  refine fO X ha ?_;w_on;refine ha.yy h1.1 ?_;w_on;refine ha.Tf h1.1 h1.2 ?_;w_on;refine⟨dv _ _,?_⟩;by_cases h2:count t p i=0
  ·rw[if_pos h2]at k;rw[if_pos (by omega)];exact⟨by decide,fun z hz=>a8 ha k rfl (aq.new hz) hz aj⟩
  rw[if_neg h2]at k;rw[if_neg (by omega)];refine fO X ha ?_;w_on;refine ha.yy hq ?_;w_on;refine ha.Tf hq h1.2 ?_;w_on;by_cases h3:100<=count t (1 - p) i
  ·rw[if_pos h3]at k;rw[if_pos (by omega)];exact⟨by decide,fun z hz=>a8 ha k rfl (aq.new hz) hz aj⟩
  rw[if_neg h3]at k;rw[if_neg (by omega)];refine⟨A.dx,_,ha.ins,e9,A,true,t,p,i,rfl,ha,h1.1,h1.2,(fun _=>by omega),fun H1 h4 kp1=>?_⟩;w_on;refine⟨A.dx,_,h4.ins,e9,A,true,_,1 - p,i,rfl,h4,hq,by rw[dc];exact h1.2,(fun q=>by cases q),fun H2 h5 kp2=>?_⟩;have h5:bj C H2 A true (KP t p i):=h5;w_on;refine fO X h5 ?_;w_on;refine h5.yy h1.1 ?_;w_on;refine h5.Tf h1.1 (by unfold KP;rw[dc,dc];exact h1.2) ?_;w_on;refine⟨by decide,fun z hz=>Hg ha k h5 rfl (kp1.trans kp2) hz _ ?_⟩;rw[NQ h1.1 (by rw[(ha.of_ h1.1).2.2];exact h1.2)];rfl
 rw[if_pos h1]at k;rw[if_pos (by rw[decide_eq_false h1];rfl)];exact⟨by decide,fun z hz=>a8 ha k rfl (aq.new hz) hz aj⟩
theorem QN{l:List Nat}(h:l.length=3):∃x y z,l=[x,y,z]:=by
 match l,h with
 |[x,y,z],_=>exact⟨x,y,z,rfl⟩
theorem Vy(x y z:Nat):cW (ax [x,y,z]) 0=some (V.int (x:Int)):=rfl
theorem Vz(x y z:Nat):cW (ax [x,y,z]) 1=some (V.int (y:Int)):=rfl
theorem QO(x y z:Nat):cW (ax [x,y,z]) 2=some (V.int (z:Int)):=rfl
theorem VA(x y z:Nat):lg (ax [x,y,z]) none (some 2)=ax [x,y]:=rfl
def ot(NK:Option Int)(H:Hp)(Q:VK):Prop:=(∀e,NK=some e->∀z H',H z=none->aq H H'->H' z=some (.lst [.int e])->Q (.ref z) H')/\(NK=none->∀H',aq H H'->Q .e7 H')
def sf(l:List Nat)(n most:Nat):Option Int:=if l.length=0 then some (-6)else if most<n then some (-22)else none
theorem LP{l:List Nat}{n most:Nat}{val:List Nat->Nat->Rat}{e:Int}(h:sf l n most=some e):fX most val l n=[e]:=by
 unfold sf at h;unfold fX;split at h
 ·rename_i h1;rw[if_pos h1,<- Option.some.inj h]
 rename_i h1;rw[if_neg h1];split at h
 ·rename_i h2;rw[if_pos h2,<- Option.some.inj h]
 cases h
theorem oN{l:List Nat}{n most:Nat}(h:sf l n most=none):l.length≠0/\n<=most:=by
 unfold sf at h;split at h
 ·cases h
 rename_i h1;split at h
 ·cases h
 exact⟨h1,by omega⟩
theorem LQ{l:List Nat}{n most:Nat}{val:List Nat->Nat->Rat}(h:sf l n most=none):fX most val l n=cH (val l n):=by
 obtain⟨h1,h2⟩:=oN h;unfold fX;rw[if_neg h1,if_neg (by omega)]
def FU(l ks:List Nat):Option Int:=if l.length=0 then some (-6)else if ¬(∀k∈ks,k<l.length)then some (-2)else none
def FV(l:List Nat)(i j n most:Nat):Option Int:=if l.length=0 then some (-6)else if ¬(i<l.length/\j<l.length)then some (-2)else if most<n∨i=j then some (-22)else none
theorem yz(p:Nat->Prop) [DecidablePred p](l:List Nat):(l.map fun x=>decide (p x)).all id=decide (∀x∈l,p x):=by
 rw[Bool.eq_iff_iff,List.all_eq_true,decide_eq_true_eq];constructor
 ·intro h x hx;exact of_decide_eq_true (h _ (List.mem_map.mpr ⟨x,hx,rfl⟩))
 intro h b hb;obtain⟨x,hx,rfl⟩:=List.mem_map.mp hb;exact decide_eq_true (h x hx)
theorem QP(p:Nat->Bool)(l:List Nat):(l.filterMap fun x=>some (V.bl (p x)))=(l.map p).map V.bl:=by
 induction l with
 |nil=>rfl
 |cons a l ih=>rw[List.filterMap_cons,ih];rfl
def Df(C:Addr):Sp:=fun vs H Q _=>∃(A:AA) (b:Bool) (t:Table) (n most:Nat),vs=[.ref A.a,.int n,.int most]/\bj C H A b t/\ot (sf t.kinds n most) H Q
abbrev oO:Stmt:=top 41
theorem Dg:aC ["album","draws","most"] ["album","draws","most"] (ay oO):=aJ
theorem Dh(X:gm K mg C)(N:eV mg)(F:bD K "refused_draws" "refused_draws" oO f fd):aM P w K mg ae bo 1 f fd ["album","draws","most"] (Df C):=by
 have T:=X.blt;refine bG F Dg fun _ A _ _ H _ Q _ hr h=>?_;obtain⟨A,b,t,n,most,rfl,ha,k⟩:=h;unfold ot sf at k;refine⟨_,(ag (a9 (aP iE (aT a6 (by rfl) T.dZ boot_len (aa (bg (pv 0) rfl) af)) ai (aV _))
   (ah (az (aK (aa (aU N.iU) af))))
   aI)
  (ag (a9 (aP fR (pv 1) (pv 2) (aV _))
   (ah (az (aK (aa (aU N.cx) af))))
   aI)
  (ah (az ck)))),?_⟩
 w_on;refine fW X ha ?_;w_on;refine⟨_,.inl (aG.of ha.fY),dv _ _,?_⟩;rw[aX];by_cases h1:t.kinds.length=0
 ·rw[if_pos h1]at k;rw[if_pos (by omega)];exact⟨by decide,fun z hz=>k.1 _ rfl z _ hz (aq.new hz) aj⟩
 rw[if_neg h1]at k;rw[if_neg (by omega)];by_cases h2:most<n
 ·rw[if_pos h2]at k;rw[if_pos (by omega)];exact⟨by decide,fun z hz=>k.1 _ rfl z _ hz (aq.new hz) aj⟩
 rw[if_neg h2]at k;rw[if_neg (by omega)];exact k.2 rfl H (aq.refl _)
def KQ(K:Frag)(IC:Nat->Prop)(val:List Nat->Nat->Rat):Sp:=fun vs H Q _=>∃(a:Addr) (l:List Nat) (n:Nat),vs=[.ref a,.int n]/\aG K H a (ax l)/\e8 l/\0<l.sum/\n<=12/\IC n/\∀z H',aq H H'->bF K H' z (val l n)->Q (.ref z) H'
def ib(P:Program)(w:World)(K:Frag)(mg:Str->Option Value)(ae:Heap)(C:Addr):Sp:=fun vs H Q _=>∃(A:AA) (t:Table) (n most:Nat) (f:Addr) (IC:Nat->Prop) (val:List Nat->Nat->Rat) (Lv:Hp->Prop),vs=[.ref A.a,.int n,.int most,.ref f]/\bj C H A true t/\Lv H/\(∀H',aq H H'->Lv H')/\
 Hand P w K mg ae 6 f (fun vs H Q E=>Lv H/\KQ K IC val vs H Q E)/\most<=12/\(t.kinds.length≠0->n<=most->IC n)/\∀z H',H z=none->aq H H'->H' z=some (.lst (c9 (fX most val t.kinds n)))->Q (.ref z) H'
abbrev mn:Stmt:=top 42
theorem qD:aC ["album","draws","most","found","refused"] ["album","draws","most","found"] (ay mn):=aJ
theorem Aj(X:gm K mg C)(F:bD K "answer_of_draws" "answer_of_draws" mn f fd)(cz:Cl P w K mg ae 1 "refused_draws" g1 bH ["album","draws","most"] (Df C))
  (aB:Cl P w K mg ae 1 "told_fraction" g2 cp ["pair"] (gz K)):aM P w K mg ae bo 7 f fd ["album","draws","most","found"] (ib P w K mg ae C):=by
 have T:=X.blt;refine bG F qD fun _ A _ _ H _ Q _ hr h=>?_;obtain⟨A,t,n,most,fh,IC,val,Lv,rfl,ha,hLv,hLs,hand,Vw,VB,k⟩:=h;refine⟨_,(ag (pz 4 qD (ak cz hr (aa (pv 0) (aa (pv 1) (aa (pv 2) af)))))
  (ag (a9 (aP cZ (pv 4) ck (aV _))
   (ah (az (pv 4)))
   aI)
  (ah (az (ak aB hr (aa (vd 3 (aa (bg (pv 0) rfl) (aa (pv 1) af))) af)))))),?_⟩
 w_on;refine⟨A,true,t,n,most,rfl,ha,fun e he z H1 hz s1 h1=>?_,fun he H1 s1=>?_⟩
 ·rw[LP he]at k;w_on;exact k z _ hz s1 h1
 rw[LQ he]at k;obtain⟨h1,h2⟩:=oN he;have ha1:=ha.same s1;w_on;refine⟨_,rfl,fh,_,rfl,hand.Gn hr,?_⟩;w_on;refine fW X ha1 ?_;w_on;refine⟨hLs _ s1,A.aw,t.kinds,n,rfl,aG.of ha1.fY,ha.ok,ha.ok.dG h1,by omega,VB h1 h2,fun z1 H2 s2 hz2=>?_⟩;exact⟨z1,_,rfl,hz2,fun z3 H3 Tj s3 h3=>k z3 H3 ((s1.trans s2).free Tj) ((s1.trans s2).trans s3) h3⟩
def Hh(K:Frag)(C:Addr):Sp:=fun vs H Q _=>∃(A:AA) (b:Bool) (t:Table) (a:Addr) (ks:List Nat),vs=[.ref A.a,.ref a]/\bj C H A b t/\aG K H a (ax ks)/\ks.length<=1000/\ot (FU t.kinds ks) H Q
abbrev oP:Stmt:=top 43
theorem nr:aC ["album","kinds","kind"] ["album","kinds"] (ay oP):=aJ
theorem Di(X:gm K mg C)(N:eV mg)(F:bD K "refused_kinds" "refused_kinds" oP f fd)(iV:rg P w K mg ae C 1 "has_kind" g1 bH ["self","kind"] (Hc C)):aM P w K mg ae bo 2 f fd ["album","kinds"] (Hh K C):=by
 have T:=X.blt;refine bG F nr fun _ A _ _ H _ Q _ hr h=>?_;obtain⟨A,b,t,a,ks,rfl,ha,hks,hl,k⟩:=h;unfold ot FU at k;refine⟨_,(ag (a9 (aP iE (aT a6 (by rfl) T.dZ boot_len (aa (bg (pv 0) rfl) af)) ai (aV _))
   (ah (az (aK (aa (aU N.iU) af))))
   aI)
  (ag (a9 (fN (eU (aT (G7 rfl) (by rfl) T.Ls boot_all (aa (lh rfl nr.nd (fm (pv 1)) (c7 (own:=[("kind",2)]) (by rfl)) (fun _ _ _ _ _=>(qz 2 nr)) (fun _ _ _ _ _=>fq) (fun _ _ _ _ _=>(eC (pv 0) iV hr (aa (pv 2) af)))) af))))
   (ah (az (aK (aa (aU N.f9) af))))
   aI)
  (ah (az ck)))),?_⟩
 w_on;refine fW X ha ?_;w_on;refine⟨_,.inl (aG.of ha.fY),dv _ _,?_⟩;rw[aX];by_cases h1:t.kinds.length=0
 ·rw[if_pos h1]at k;rw[if_pos (by omega)];exact⟨by decide,fun z hz=>k.1 _ rfl z _ hz (aq.new hz) aj⟩
 rw[if_neg h1]at k;rw[if_neg (by omega)];refine yi ks (fun(n:Nat)=>V.int (n:Int)) (fun(n:Nat)=>some (V.bl (decide (n<t.kinds.length)))) (fun R r=>by w_on;exact r) hks (by omega) (fun v H3 Ry Rn hx s3 h1 h2=>?_) (fun D H3 hD s3 h3=>?_)
 ·w_on;exact⟨A.dx,_,(ha.same s3).ins,e9,A,b,t,v,rfl,ha.same s3,h1 _ _ (aq.refl _) rfl⟩
 w_on;rw[QP]at h3;refine⟨D,_,rfl,aG.of h3,?_⟩;rw[yz];w_on;by_cases h2:∀x∈ks,x<t.kinds.length
 ·rw[if_neg (fun q=>q h2)]at k;rw[if_neg (by rw[decide_eq_true h2];simp)];exact k.2 rfl H3 s3
 rw[if_pos h2]at k;rw[if_pos (by rw[decide_eq_false h2];rfl)];exact⟨by decide,fun z hz=>k.1 _ rfl z _ (s3.free hz) (s3.trans (aq.new hz)) aj⟩
def LR(K:Frag)(C:Addr):Sp:=fun vs H Q _=>∃(A:AA) (b:Bool) (t:Table) (a:Addr) (i j n most:Nat),vs=[.ref A.a,.ref a,.int most]/\bj C H A b t/\aG K H a (ax [i,j,n])/\ot (FV t.kinds i j n most) H Q
abbrev qj:Stmt:=top 44
theorem vg:aC ["album","given","most","refused"] ["album","given","most"] (ay qj):=aJ
theorem ER(X:gm K mg C)(N:eV mg)(F:bD K "refused_pair" "refused_pair" qj f fd)(dw:Cl P w K mg ae 2 "refused_kinds" g1 bH ["album","kinds"] (Hh K C)):aM P w K mg ae bo 3 f fd ["album","given","most"] (LR K C):=by
 have T:=X.blt;refine bG F vg fun _ A _ _ H _ Q _ hr h=>?_;obtain⟨A,b,t,a,i,j,n,most,rfl,ha,hg,k⟩:=h;unfold ot FV at k;refine⟨_,(ag (pz 3 vg (ak dw hr (aa (pv 0) (aa (fF gI (pv 1) ya (dB ai)) af))))
  (ag (a9 (aP cZ (pv 3) ck (aV _))
   (ah (az (pv 3)))
   aI)
  (ag (a9 (PW.pt (pW (aP fR (aD aA (pv 1) ai (fun _ _=>rfl)) (pv 2) (aV _)) (mS (aP iE (aD aA (pv 1) ai (fun _ _=>rfl)) (aD aA (pv 1) ai (fun _ _=>rfl)) (aV _)))))
   (ah (az (aK (aa (aU N.cx) af))))
   aI)
  (ah (az ck))))),?_⟩
 w_on;refine⟨a,_,rfl,hg,fun q hq=>?_⟩;rw[VA];have s0:aq H (upd H q (.lst (ax [i,j]))):=aq.new hq;have ea:(∀x∈[i,j],x<t.kinds.length)↔(i<t.kinds.length/\j<t.kinds.length):=by simp
 refine⟨A,b,t,q,[i,j],rfl,ha.same s0,aG.of aj,by simp,fun e he z H1 hz s1 h1=>?_,fun he H1 s1=>?_⟩
 ·w_on;unfold FU at he;by_cases h2:t.kinds.length=0
  ·rw[if_pos h2]at he k;cases he;exact k.1 _ rfl z H1 (s0.free hz) (s0.trans s1) h1
  rw[if_neg h2]at he k;by_cases h3:i<t.kinds.length/\j<t.kinds.length
  ·rw[if_neg (fun q=>q (ea.mpr h3))]at he;cases he
  rw[if_pos (fun q=>h3 (ea.mp q))]at he;rw[if_pos h3]at k;cases he;exact k.1 _ rfl z H1 (s0.free hz) (s0.trans s1) h1
 unfold FU at he;have h2:t.kinds.length≠0:=fun h2=>by rw[if_pos h2]at he;cases he
 rw[if_neg h2]at he k;have h3:i<t.kinds.length/\j<t.kinds.length:=Classical.byContradiction fun h3=>by rw[if_pos (fun q=>h3 (ea.mp q))]at he;cases he
 rw[if_neg (fun q=>q h3)]at k;have s2:=s0.trans s1;w_on;refine bq (s2.seq hg) (QO i j n) ?_;w_on;by_cases h4:most<n
 ·rw[if_pos (.inl h4)]at k;rw[if_pos (by omega)];w_on;exact⟨by decide,fun z hz=>k.1 _ rfl z _ (s2.free hz) (s2.trans (aq.new hz)) aj⟩
 rw[if_neg (by omega)];refine bq (s2.seq hg) (Vy i j n) ?_;w_on;refine bq (s2.seq hg) (Vz i j n) ?_;w_on;refine⟨dv _ _,?_⟩;by_cases h5:i=j
 ·rw[if_pos (.inr h5)]at k;rw[if_pos (by omega)];exact⟨by decide,fun z hz=>k.1 _ rfl z _ (s2.free hz) (s2.trans (aq.new hz)) aj⟩
 rw[if_neg (by omega)]at k;rw[if_neg (by omega)];exact k.2 rfl H1 s2
theorem J2{l:List Nat}{i j n most:Nat}{val:List Nat->Nat->Rat}{e:Int}(h:FV l i j n most=some e):lL most val l i j n=[e]:=by
 unfold FV at h;unfold lL;by_cases h1:l.length=0
 ·rw[if_pos h1]at h ⊢;rw[<- Option.some.inj h]
 rw[if_neg h1]at h ⊢;by_cases h2:¬(i<l.length/\j<l.length)
 ·rw[if_pos h2]at h ⊢;rw[<- Option.some.inj h]
 rw[if_neg h2]at h ⊢;by_cases h3:most<n∨i=j
 ·rw[if_pos h3]at h ⊢;rw[<- Option.some.inj h]
 rw[if_neg h3]at h;cases h
theorem ID{l:List Nat}{i j n most:Nat}(h:FV l i j n most=none):l.length≠0/\i<l.length/\j<l.length/\n<=most/\i≠j:=by
 unfold FV at h;by_cases h1:l.length=0
 ·rw[if_pos h1]at h;cases h
 rw[if_neg h1]at h;by_cases h2:¬(i<l.length/\j<l.length)
 ·rw[if_pos h2]at h;cases h
 rw[if_neg h2]at h;by_cases h3:most<n∨i=j
 ·rw[if_pos h3]at h;cases h
 omega
def BL(P:Program)(w:World)(K:Frag)(mg:Str->Option Value)(ae:Heap)(C:Addr):Sp:=fun vs H Q _=>∃(A:AA) (t:Table) (g:Addr) (i j n most:Nat) (f:Addr) (val:List Nat->Nat->Rat),vs=[.ref A.a,.ref g,.int most,.ref f]/\bj C H A true t/\aG K H g (ax [i,j,n])/\
 Hand P w K mg ae 6 f (KQ K (fun _=>True) val)/\most<=12/\∀z H',H z=none->aq H H'->H' z=some (.lst (c9 (lL most val t.kinds i j n)))->Q (.ref z) H'
abbrev jN:Stmt:=top 46
theorem gZ:aC ["album","given","most","found","refused","one","other"] ["album","given","most","found"] (ay jN):=aJ
theorem vh(X:gm K mg C)(N:eV mg)(F:bD K "answer_behind_level" "answer_behind_level" jN f fd)(gp:Cl P w K mg ae 3 "refused_pair" g1 bH ["album","given","most"] (LR K C))
  (aB:Cl P w K mg ae 1 "told_fraction" g2 cp ["pair"] (gz K))(tY:Cl P w K mg ae 1 "levelled" g3 c4 ["weights","one","other"] (FL K)):aM P w K mg ae bo 7 f fd ["album","given","most","found"] (BL P w K mg ae C):=by
 have T:=X.blt;refine bG F gZ fun _ A _ _ H _ Q _ hr h=>?_;obtain⟨A,t,g,i,j,n,most,fh,val,rfl,ha,hg,hand,Vw,k⟩:=h;refine⟨_,(ag (pz 4 gZ (ak gp hr (aa (pv 0) (aa (pv 1) (aa (pv 2) af)))))
  (ag (a9 (aP cZ (pv 4) ck (aV _))
   (ah (az (pv 4)))
   aI)
  (ag (pz 5 gZ (aD aA (pv 1) ai (fun _ _=>rfl)))
  (ag (pz 6 gZ (aD aA (pv 1) ai (fun _ _=>rfl)))
  (ag (a9 (aP iE (aO Rw (aO dh (aD aA (bg (pv 0) rfl) (pv 5) (fun _ _=>rfl)) (aD aA (bg (pv 0) rfl) (pv 6) (fun _ _=>rfl))) ai) ai (aV _))
   (ah (az (aK (aa (aU N.Iq) af))))
   aI)
  (ah (az (ak aB hr (aa (vd 3 (aa (ak tY hr (aa (bg (pv 0) rfl) (aa (pv 5) (aa (pv 6) af)))) (aa (aD aA (pv 1) ai (fun _ _=>rfl)) af))) af))))))))),?_⟩
 w_on;refine⟨A,true,t,g,i,j,n,most,rfl,ha,hg,fun e he z H1 hz s1 h1=>?_,fun he H1 s1=>?_⟩
 ·rw[J2 he]at k;w_on;exact k z _ hz s1 h1
 obtain⟨h1,hi,hj,hn,SF⟩:=ID he;have ek:lL most val t.kinds i j n=if(t.kinds.getD i 0+t.kinds.getD j 0)%2≠0 then[-33]else cH (val (Kp291.level t.kinds i j) n):=by
  unfold lL;rw[if_neg h1,if_neg (fun q=>q ⟨hi,hj⟩),if_neg (by omega)]
 rw[ek]at k;have ha1:=ha.same s1;have hg1:=s1.seq hg;w_on;refine bq hg1 (Vy i j n) ?_;w_on;refine bq hg1 (Vz i j n) ?_;w_on;refine fW X ha1 ?_;w_on;refine bq (aG.of ha1.fY) (du hi) ?_;w_on;refine fW X ha1 ?_;w_on;refine bq (aG.of ha1.fY) (du hj) ?_;w_on;refine⟨by decide,dv _ _,?_⟩;by_cases h4:(t.kinds.getD i 0+t.kinds.getD j 0)%2=0
 ·rw[if_neg (fun q=>q h4)]at k;rw[if_neg (by omega)];have hW:=ha.ok.level hi hj;refine⟨_,rfl,fh,_,rfl,hand.Gn hr,?_⟩;w_on;refine fW X ha1 ?_;w_on;refine⟨A.aw,t.kinds,i,j,rfl,aG.of ha1.fY,by have:=ha.ok.jr;omega,hi,hj,fun z0 H0 s0 h0=>?_⟩;w_on;refine bq (s0.seq hg1) (QO i j n) ?_;w_on;refine⟨z0,Kp291.level t.kinds i j,n,rfl,aG.of h0,hW,hW.dG (by rw[wu];exact h1),by omega,trivial,fun z1 H2 s2 hz2=>?_⟩;exact⟨z1,_,rfl,hz2,fun z3 H3 Tj s3 h3=>k z3 H3 (((s1.trans s0).trans s2).free Tj) (((s1.trans s0).trans s2).trans s3) h3⟩
 rw[if_pos h4]at k;rw[if_pos (by omega)];exact⟨by decide,fun z hz=>k z _ (s1.free hz) (s1.trans (aq.new hz)) aj⟩
theorem Hand.imp{k:Nat}{f:Addr}{sp Uv:Sp}(G:Hand P w K mg ae k f sp)(h:∀vs H Q E,Uv vs H Q E->sp vs H Q E):Hand P w K mg ae k f Uv:=by
 obtain⟨fd,ps,h1,h2,h3⟩:=G.ex;exact⟨fd,ps,h1.imp h,h2,h3.imp id fun k vs H Q E hp q ok=>k vs H Q E hp (h _ _ _ _ q) ok⟩
theorem Hand.mono{j k:Nat}{f:Addr}{sp:Sp}(G:Hand P w K mg ae j f sp)(h:j<=k):Hand P w K mg ae k f sp:=by
 obtain⟨fd,ps,h1,h2,h3⟩:=G.ex;exact⟨fd,ps,h1.mono h,h2,h3⟩
def gk(most:Nat)(val:List Nat->Nat->Rat)(t:Table)(args:List Nat):Table×List Int:=(t,fX most val t.kinds (args.getD 0 0))
abbrev lq:Stmt:=top 49
theorem yA:aC ["album","given"] ["album","given"] (ay lq):=aJ
theorem yB(N:eV mg)(F:bD K "answer_different" "answer_different" lq f fd)(aH:Cl P w K mg ae 7 "answer_of_draws" g1 bH ["album","draws","most","found"] (ib P w K mg ae C))
  (aY:Cl P w K mg ae 4 "likely_different" g2 cp ["weights","draws"] (jk K)):aM P w K mg ae bo 8 f fd ef (cQ K C 1 (gk 10 fU)):=by
 refine bG F yA fun _ A _ _ H vs Q E hr h=>?_;obtain⟨A,t,g,args,rfl,ha,hg,fJ,hn,k⟩:=h;obtain⟨n,rfl⟩:=list1 hn;refine⟨_,(ah (az (ak aH hr (aa (pv 0) (aa (aD aA (pv 1) ai (fun _ _=>rfl)) (aa (aU N.cG) (aa (eG aY.kq) af))))))),?_⟩;w_on;refine bq hg (jU n) ?_;w_on;refine⟨A,t,n,10,g2,(fun _=>True),fU,(fun _=>True),rfl,ha,trivial,fun _ _=>trivial,(aY.hand.imp ?_).mono (by decide),by decide,fun _ _=>trivial,fun z H1 hz s1 h1=>?_⟩
 ·rintro vs H Q E ⟨_,a,l,n,h1,h2,h3,h4,h5,_,h6⟩;exact⟨a,l,n,h1,h2,h3,h4,by omega,h6⟩
 exact a8 ha k rfl s1 hz h1
abbrev qk:Stmt:=top 50
theorem ES:aC ["album","given"] ["album","given"] (ay qk):=aJ
theorem ET(N:eV mg)(F:bD K "answer_alike" "answer_alike" qk f fd)(aH:Cl P w K mg ae 7 "answer_of_draws" g1 bH ["album","draws","most","found"] (ib P w K mg ae C))
  (jW:Cl P w K mg ae 5 "likely_alike" g2 cp ["weights","draws"] (yo K)):aM P w K mg ae bo 8 f fd ef (cQ K C 1 (gk 10 (fun l n=>1 - fU l n))):=by
 refine bG F ES fun _ A _ _ H vs Q E hr h=>?_;obtain⟨A,t,g,args,rfl,ha,hg,fJ,hn,k⟩:=h;obtain⟨n,rfl⟩:=list1 hn;refine⟨_,(ah (az (ak aH hr (aa (pv 0) (aa (aD aA (pv 1) ai (fun _ _=>rfl)) (aa (aU N.cG) (aa (eG jW.kq) af))))))),?_⟩;w_on;refine bq hg (jU n) ?_;w_on;refine⟨A,t,n,10,g2,(fun _=>True),(fun l n=>1 - fU l n),(fun _=>True),rfl,ha,trivial,fun _ _=>trivial,(jW.hand.imp ?_).mono (by decide),by decide,fun _ _=>trivial,fun z H1 hz s1 h1=>?_⟩
 ·rintro vs H Q E ⟨_,a,l,n,h1,h2,h3,h4,h5,_,h6⟩;exact⟨a,l,n,h1,h2,h3,h4,by omega,h6⟩
 exact a8 ha k rfl s1 hz h1
abbrev ql:Stmt:=top 51
theorem EU:aC ["album","given"] ["album","given"] (ay ql):=aJ
theorem EV(N:eV mg)(F:bD K "answer_pairs" "answer_pairs" ql f fd)(aH:Cl P w K mg ae 7 "answer_of_draws" g1 bH ["album","draws","most","found"] (ib P w K mg ae C))
  (lO:Cl P w K mg ae 3 "mean_pairs" g2 cp ["weights","draws"] (CT K)):aM P w K mg ae bo 8 f fd ef (cQ K C 1 (gk 10 CJ)):=by
 refine bG F EU fun _ A _ _ H vs Q E hr h=>?_;obtain⟨A,t,g,args,rfl,ha,hg,fJ,hn,k⟩:=h;obtain⟨n,rfl⟩:=list1 hn;refine⟨_,(ah (az (ak aH hr (aa (pv 0) (aa (aD aA (pv 1) ai (fun _ _=>rfl)) (aa (aU N.cG) (aa (eG lO.kq) af))))))),?_⟩;w_on;refine bq hg (jU n) ?_;w_on;refine⟨A,t,n,10,g2,(fun _=>True),CJ,(fun _=>True),rfl,ha,trivial,fun _ _=>trivial,(lO.hand.imp ?_).mono (by decide),by decide,fun _ _=>trivial,fun z H1 hz s1 h1=>?_⟩
 ·rintro vs H Q E ⟨_,a,l,n,h1,h2,h3,h4,h5,_,h6⟩;exact⟨a,l,n,h1,h2,h3,h4,by omega,h6⟩
 exact a8 ha k rfl s1 hz h1
abbrev qm:Stmt:=top 52
theorem EW:aC ["album","given"] ["album","given"] (ay qm):=aJ
theorem EX(N:eV mg)(F:bD K "answer_three" "answer_three" qm f fd)(aH:Cl P w K mg ae 7 "answer_of_draws" g1 bH ["album","draws","most","found"] (ib P w K mg ae C))
  (jX:Cl P w K mg ae 3 "likely_three" g2 cp ["weights","draws"] (Nr K)):aM P w K mg ae bo 8 f fd ef (cQ K C 1 (gk 10 CK)):=by
 refine bG F EW fun _ A _ _ H vs Q E hr h=>?_;obtain⟨A,t,g,args,rfl,ha,hg,fJ,hn,k⟩:=h;obtain⟨n,rfl⟩:=list1 hn;refine⟨_,(ah (az (ak aH hr (aa (pv 0) (aa (aD aA (pv 1) ai (fun _ _=>rfl)) (aa (aU N.cG) (aa (eG jX.kq) af))))))),?_⟩;w_on;refine bq hg (jU n) ?_;w_on;refine⟨A,t,n,10,g2,(fun _=>True),CK,(fun _=>True),rfl,ha,trivial,fun _ _=>trivial,(jX.hand.imp ?_).mono (by decide),by decide,fun _ _=>trivial,fun z H1 hz s1 h1=>?_⟩
 ·rintro vs H Q E ⟨_,a,l,n,h1,h2,h3,h4,h5,_,h6⟩;exact⟨a,l,n,h1,h2,h3,h4,by omega,h6⟩
 exact a8 ha k rfl s1 hz h1
abbrev jz:Stmt:=top 53
theorem uR:aC ["album","given"] ["album","given"] (ay jz):=aJ
theorem uS(N:eV mg)(F:bD K "answer_evendifferent" "answer_evendifferent" jz f fd)(aH:Cl P w K mg ae 7 "answer_of_draws" g1 bH ["album","draws","most","found"] (ib P w K mg ae C))
  (fw:Cl P w K mg ae 5 "likely_even_different" g2 cp ["weights","draws"] (AV K)):aM P w K mg ae bo 8 f fd ef (cQ K C 1 (gk 10 Er)):=by
 refine bG F uR fun _ A _ _ H vs Q E hr h=>?_;obtain⟨A,t,g,args,rfl,ha,hg,fJ,hn,k⟩:=h;obtain⟨n,rfl⟩:=list1 hn;refine⟨_,(ah (az (ak aH hr (aa (pv 0) (aa (aD aA (pv 1) ai (fun _ _=>rfl)) (aa (aU N.cG) (aa (eG fw.kq) af))))))),?_⟩;w_on;refine bq hg (jU n) ?_;w_on;refine⟨A,t,n,10,g2,(fun _=>True),Er,(fun _=>True),rfl,ha,trivial,fun _ _=>trivial,(fw.hand.imp ?_).mono (by decide),by decide,fun _ _=>trivial,fun z H1 hz s1 h1=>?_⟩
 ·rintro vs H Q E ⟨_,a,l,n,h1,h2,h3,h4,h5,_,h6⟩;exact⟨a,l,n,h1,h2,h3,h4,by omega,h6⟩
 exact a8 ha k rfl s1 hz h1
def EY(t:Table)(args:List Nat):Table×List Int:=(t,ZF t.kinds (args.getD 0 0))
abbrev qo:Stmt:=top 54
theorem EZ:aC ["album","given"] ["album","given"] (ay qo):=aJ
theorem E1(X:gm K mg C)(N:eV mg)(F:bD K "answer_first" "answer_first" qo f fd)(aH:Cl P w K mg ae 7 "answer_of_draws" g1 bH ["album","draws","most","found"] (ib P w K mg ae C))
  (jY:Cl P w K mg ae 5 "likely_first" g2 cp ["weights","draws"] (yp K)):aM P w K mg ae bo 8 f fd ef (cQ K C 1 EY):=by
 have T:=X.blt;refine bG F EZ fun _ A _ _ H vs Q E hr h=>?_;obtain⟨A,t,g,args,rfl,ha,hg,fJ,hn,k⟩:=h;obtain⟨n,rfl⟩:=list1 hn;have ek:EY t [n]=(t,if t.kinds.length≠0/\n=0 then[-22]else fX 10 Lo t.kinds n):=rfl;rw[ek]at k;refine⟨_,(ag (a9 (PW.pt (La (aP fR (aT a6 (by rfl) T.dZ boot_len (aa (bg (pv 0) rfl) af)) ai (aV _)) (Hm (aP iE (aD aA (pv 1) ai (fun _ _=>rfl)) ai (aV _)))))
   (ah (az (aK (aa (aU N.cx) af))))
   aI)
  (ah (az (ak aH hr (aa (pv 0) (aa (aD aA (pv 1) ai (fun _ _=>rfl)) (aa (aU N.cG) (aa (eG jY.kq) af)))))))),?_⟩
 w_on;refine fW X ha ?_;w_on;refine⟨_,.inl (aG.of ha.fY),?_⟩;rw[aX];have go:(t.kinds.length≠0->n≠0)->ib P w K mg ae C [.ref A.a,.int n,.int 10,.ref g2] H (fun v H'=>Q v H') (fun _ _ _=>False):=by
  intro mQ;rw[if_neg (by omega)]at k;refine⟨A,t,n,10,g2,(fun n=>1<=n),Lo,(fun _=>True),rfl,ha,trivial,fun _ _=>trivial,(jY.hand.imp ?_).mono (by decide),by decide,fun q _=>by have:=mQ q;omega,fun z H1 hz s1 h1=>a8 ha k rfl s1 hz h1⟩;rintro vs H Q E ⟨_,a,l,m,h1,h2,h3,h4,h5,h6,h7⟩;refine⟨a,l,m - 1,?_,h2,h3,h4,by omega,fun z H' s1 hr=>h7 z H' s1 ?_⟩
  ·rw[h1,show m - 1+1=m by omega]
  rw[show m - 1+1=m by omega]at hr;exact hr
 by_cases h0:0<t.kinds.length
 ·rw[if_pos (by omega)];refine bq hg (jU n) ?_;w_on;refine⟨dv _ _,?_⟩;by_cases h1:n=0
  ·rw[if_pos ⟨by omega,h1⟩]at k;rw[if_pos (by omega)];exact⟨by decide,fun z hz=>a8 ha k rfl (aq.new hz) hz aj⟩
  rw[if_neg (by omega)];refine bq hg (jU n) ?_;w_on;exact go fun _=>h1
 rw[if_neg (by omega)];w_on;refine bq hg (jU n) ?_;w_on;exact go (fun q=>by omega)
def yC(t:Table)(_:List Nat):Table×List Int:=(t,WT t.kinds)
abbrev lr:Stmt:=top 55
theorem yD:aC ["album","given"] ["album","given"] (ay lr):=aJ
theorem yE(X:gm K mg C)(N:eV mg)(F:bD K "answer_alikehalf" "answer_alikehalf" lr f fd)(pD:Cl P w K mg ae 4 "least_half" g1 bH ["weights"] (CU K)):aM P w K mg ae bo 5 f fd ef (cQ K C 0 yC):=by
 have T:=X.blt;refine bG F yD fun _ A _ _ H _ Q _ hr h=>?_;obtain⟨A,t,g,args,rfl,ha,hg,fJ,hn,k⟩:=h;unfold yC WT at k;refine⟨_,(ag (a9 (aP iE (aT a6 (by rfl) T.dZ boot_len (aa (bg (pv 0) rfl) af)) ai (aV _))
   (ah (az (aK (aa (aU N.iU) af))))
   aI)
  (ah (az (aK (aa (ak pD hr (aa (bg (pv 0) rfl) af)) af))))),?_⟩
 w_on;refine fW X ha ?_;w_on;refine⟨_,.inl (aG.of ha.fY),dv _ _,?_⟩;rw[aX];by_cases h1:t.kinds.length=0
 ·rw[if_pos h1]at k;rw[if_pos (by omega)];exact⟨by decide,fun z hz=>a8 ha k rfl (aq.new hz) hz aj⟩
 rw[if_neg h1]at k;rw[if_neg (by omega)];refine fW X ha ?_;w_on;refine⟨A.aw,t.kinds,rfl,aG.of ha.fY,ha.ok,fun H1 s1=>?_⟩;w_on;exact⟨by decide,fun z hz=>a8 ha k rfl (s1.trans (aq.new hz)) (s1.free hz) aj⟩
def yF(t:Table)(_:List Nat):Table×List Int:=(t,WU t.kinds)
abbrev lu:Stmt:=top 56
theorem yG:aC ["album","given"] ["album","given"] (ay lu):=aJ
theorem yH(X:gm K mg C)(N:eV mg)(F:bD K "answer_meanfirst" "answer_meanfirst" lu f fd)(pE:Cl P w K mg ae 4 "mean_first" g1 bH ["weights"] (CW K))
  (aB:Cl P w K mg ae 1 "told_fraction" g2 cp ["pair"] (gz K)):aM P w K mg ae bo 5 f fd ef (cQ K C 0 yF):=by
 have T:=X.blt;refine bG F yG fun _ A _ _ H _ Q _ hr h=>?_;obtain⟨A,t,g,args,rfl,ha,hg,fJ,hn,k⟩:=h;unfold yF WU at k;refine⟨_,(ag (a9 (aP iE (aT a6 (by rfl) T.dZ boot_len (aa (bg (pv 0) rfl) af)) ai (aV _))
   (ah (az (aK (aa (aU N.iU) af))))
   aI)
  (ah (az (ak aB hr (aa (ak pE hr (aa (bg (pv 0) rfl) af)) af))))),?_⟩
 w_on;refine fW X ha ?_;w_on;refine⟨_,.inl (aG.of ha.fY),dv _ _,?_⟩;rw[aX];by_cases h1:t.kinds.length=0
 ·rw[if_pos h1]at k;rw[if_pos (by omega)];exact⟨by decide,fun z hz=>a8 ha k rfl (aq.new hz) hz aj⟩
 rw[if_neg h1]at k;rw[if_neg (by omega)];refine fW X ha ?_;w_on;refine⟨A.aw,t.kinds,rfl,aG.of ha.fY,ha.ok,ha.ok.dG h1,fun z1 H1 s1 gC=>?_⟩;exact⟨z1,_,rfl,gC,fun z2 H2 hz2 s2 h2=>a8 ha k rfl (s1.trans s2) (s1.free hz2) h2⟩
def BN(t:Table)(args:List Nat):Table×List Int:=(t,Nb t.kinds (args.getD 0 0))
theorem To{l:List Nat}{n:Nat}{e:Int}(h:sf l n 10=some e):Nb l n=[e]:=by
 unfold sf at h;unfold Nb;by_cases h1:l.length=0
 ·rw[if_pos h1]at h ⊢;rw[<- Option.some.inj h]
 rw[if_neg h1]at h ⊢;by_cases h2:10<n
 ·rw[if_pos h2]at h ⊢;rw[<- Option.some.inj h]
 rw[if_neg h2]at h;cases h
theorem Tp{l:List Nat}{n:Nat}(h:sf l n 10=none):Nb l n=[0,((products l n:Nat):Int)]:=by
 obtain⟨h1,h2⟩:=oN h;unfold Nb;rw[if_neg h1,if_neg (by omega)]
abbrev mq:Stmt:=top 57
theorem qE:aC ["album","given","refused"] ["album","given"] (ay mq):=aJ
theorem Ak(X:gm K mg C)(N:eV mg)(F:bD K "answer_products" "answer_products" mq f fd)(cz:Cl P w K mg ae 1 "refused_draws" g1 bH ["album","draws","most"] (Df C))
  (eM:Cl P w K mg ae 2 "product_of_size" g2 cp ["weights","size"] (yk K)):aM P w K mg ae bo 3 f fd ef (cQ K C 1 BN):=by
 have T:=X.blt;refine bG F qE fun _ A _ _ H _ Q _ hr h=>?_;obtain⟨A,t,g,args,rfl,ha,hg,fJ,hn,k⟩:=h;obtain⟨n,rfl⟩:=list1 hn;have ek:BN t [n]=(t,Nb t.kinds n):=rfl;rw[ek]at k;refine⟨_,(ag (pz 2 qE (ak cz hr (aa (pv 0) (aa (aD aA (pv 1) ai (fun _ _=>rfl)) (aa (aU N.cG) af)))))
  (ag (a9 (aP cZ (pv 2) ck (aV _))
   (ah (az (pv 2)))
   aI)
  (ah (az (aK (aa ai (aa (ak eM hr (aa (bg (pv 0) rfl) (aa (aD aA (pv 1) ai (fun _ _=>rfl)) af))) af))))))),?_⟩
 w_on;refine bq hg (jU n) ?_;w_on;refine⟨A,true,t,n,10,rfl,ha,fun e he z H1 hz s1 h1=>?_,fun he H1 s1=>?_⟩
 ·rw[To he]at k;w_on;exact a8 ha k rfl s1 hz h1
 rw[Tp he]at k;have ha1:=ha.same s1;w_on;refine fW X ha1 ?_;w_on;refine bq (s1.seq hg) (jU n) ?_;w_on;refine⟨A.aw,t.kinds,n,rfl,aG.of ha1.fY,ha.ok,fun H2 s2=>?_⟩;w_on;exact⟨by decide,fun z hz=>a8 ha k rfl ((s1.trans s2).trans (aq.new hz)) ((s1.trans s2).free hz) aj⟩
def E2(t:Table)(_:List Nat):Table×List Int:=(t,WV t.kinds)
abbrev nt:Stmt:=top 58
theorem BP:aC ["album","given"] ["album","given"] (ay nt):=aJ
theorem BQ(X:gm K mg C)(N:eV mg)(F:bD K "answer_squares" "answer_squares" nt f fd)(iA:Cl P w K mg ae 1 "square_sum" g1 bH ["weights"] (BA K)):aM P w K mg ae bo 2 f fd ef (cQ K C 0 E2):=by
 have T:=X.blt;refine bG F BP fun _ A _ _ H _ Q _ hr h=>?_;obtain⟨A,t,g,args,rfl,ha,hg,fJ,hn,k⟩:=h;unfold E2 WV at k;refine⟨_,(ag (a9 (aP iE (aT a6 (by rfl) T.dZ boot_len (aa (bg (pv 0) rfl) af)) ai (aV _))
   (ah (az (aK (aa (aU N.iU) af))))
   aI)
  (ah (az (aK (aa (ak iA hr (aa (bg (pv 0) rfl) af)) af))))),?_⟩
 w_on;refine fW X ha ?_;w_on;refine⟨_,.inl (aG.of ha.fY),dv _ _,?_⟩;rw[aX];by_cases h1:t.kinds.length=0
 ·rw[if_pos h1]at k;rw[if_pos (by omega)];exact⟨by decide,fun z hz=>a8 ha k rfl (aq.new hz) hz aj⟩
 rw[if_neg h1]at k;rw[if_neg (by omega)];refine fW X ha ?_;w_on;refine⟨A.aw,t.kinds,rfl,aG.of ha.fY,ha.ok,fun H1 s1=>?_⟩;w_on;exact⟨by decide,fun z hz=>a8 ha k rfl (s1.trans (aq.new hz)) (s1.free hz) aj⟩
def IE(t:Table)(args:List Nat):Table×List Int:=(t,ZO t.kinds (args.getD 0 0))
abbrev oQ:Stmt:=top 60
theorem tZ:aC ["album","given","refused"] ["album","given"] (ay oQ):=aJ
theorem Dj(X:gm K mg C)(F:bD K "answer_chance" "answer_chance" oQ f fd)(dw:Cl P w K mg ae 2 "refused_kinds" g1 bH ["album","kinds"] (Hh K C))
  (aF:Cl P w K mg ae 2 "fraction" g2 cp ["above","below"] (gy K))(aB:Cl P w K mg ae 1 "told_fraction" g3 c4 ["pair"] (gz K)):aM P w K mg ae bo 3 f fd ef (cQ K C 1 IE):=by
 have T:=X.blt;refine bG F tZ fun _ A _ _ H _ Q _ hr h=>?_;obtain⟨A,t,g,args,rfl,ha,hg,fJ,hn,k⟩:=h;obtain⟨n,rfl⟩:=list1 hn;have ek:IE t [n]=(t,if t.kinds.length=0 then[-6]else if ¬n<t.kinds.length then[-2]else cH (mkRat ((t.kinds.getD n 0:Nat):Int) t.kinds.sum)):=rfl;rw[ek]at k;have ea:(∀x∈[n],x<t.kinds.length)↔n<t.kinds.length:=by simp
 refine⟨_,(ag (pz 2 tZ (ak dw hr (aa (pv 0) (aa (pv 1) af))))
  (ag (a9 (aP cZ (pv 2) ck (aV _))
   (ah (az (pv 2)))
   aI)
  (ah (az (ak aB hr (aa (ak aF hr (aa (aD aA (bg (pv 0) rfl) (aD aA (pv 1) ai (fun _ _=>rfl)) (fun _ _=>rfl)) (aa (aT (fg rfl) (by rfl) T.gN boot_sum (aa (bg (pv 0) rfl) af)) af))) af)))))),?_⟩
 w_on;refine⟨A,true,t,g,[n],rfl,ha,hg,by simp,fun e he z H1 hz s1 h1=>?_,fun he H1 s1=>?_⟩
 ·w_on;unfold FU at he;by_cases h2:t.kinds.length=0
  ·rw[if_pos h2]at he k;cases he;exact a8 ha k rfl s1 hz h1
  rw[if_neg h2]at he k;by_cases h3:n<t.kinds.length
  ·rw[if_neg (fun q=>q (ea.mpr h3))]at he;cases he
  rw[if_pos (fun q=>h3 (ea.mp q))]at he;rw[if_pos h3]at k;cases he;exact a8 ha k rfl s1 hz h1
 unfold FU at he;have h1:t.kinds.length≠0:=fun h2=>by rw[if_pos h2]at he;cases he
 rw[if_neg h1]at he k;have h2:n<t.kinds.length:=Classical.byContradiction fun h3=>by rw[if_pos (fun q=>h3 (ea.mp q))]at he;cases he
 rw[if_neg (fun q=>q h2)]at k;have hs:=ha.ok.kd;have ha1:=ha.same s1;w_on;refine fW X ha1 ?_;w_on;refine bq (s1.seq hg) (jU n) ?_;w_on;refine bq (aG.of ha1.fY) (du h2) ?_;w_on;refine fW X ha1 ?_;w_on;refine kf (aG.of ha1.fY) ?_;w_on;refine⟨_,t.kinds.sum,rfl,ha.ok.dG h1,jj (Nat.lt_of_le_of_lt hs (by decide +kernel)),fun z1 H2 n1 s2 h2=>?_⟩;exact⟨z1,_,rfl,bF.of h2,fun z2 H3 hz2 s3 h3=>a8 ha k rfl ((s1.trans s2).trans s3) ((s1.trans s2).free hz2) h3⟩
def QQ(t:Table)(args:List Nat):Table×List Int:=(t,ZM t.kinds (args.getD 0 0) (args.getD 1 0))
abbrev lx:Stmt:=top 59
theorem kE:aC ["album","given","weight","draws"] ["album","given"] (ay lx):=aJ
theorem yI(X:gm K mg C)(N:eV mg)(F:bD K "answer_with_more" "answer_with_more" lx f fd)(iX:Cl P w K mg ae 1 "is_weight" g1 bH ["number"] yx)
  (aY:Cl P w K mg ae 4 "likely_different" g2 cp ["weights","draws"] (jk K))(aB:Cl P w K mg ae 1 "told_fraction" g3 c4 ["pair"] (gz K)):aM P w K mg ae bo 5 f fd ef (cQ K C 2 QQ):=by
 have T:=X.blt;refine bG F kE fun _ A _ _ H _ Q _ hr h=>?_;obtain⟨A,t,g,args,rfl,ha,hg,fJ,hn,k⟩:=h;obtain⟨x,n,rfl⟩:=uO hn;have ek:QQ t [x,n]=(t,if ¬(1<=x/\x<=20)∨10<n then[-22]else if 6<=t.kinds.length then[-28]else cH (fU (t.kinds++[x]) n)):=rfl;rw[ek]at k;refine⟨_,(ag (pz 2 kE (aD aA (pv 1) ai (fun _ _=>rfl)))
  (ag (pz 3 kE (aD aA (pv 1) ai (fun _ _=>rfl)))
  (ag (a9 (PW.pt (pW (fN (eU (ak iX hr (aa (pv 2) af)))) (mS (aP fR (pv 3) (aU N.cG) (aV _)))))
   (ah (az (aK (aa (aU N.cx) af))))
   aI)
  (ag (a9 (aP iE (aT a6 (by rfl) T.dZ boot_len (aa (bg (pv 0) rfl) af)) (aU N.AY) (aV _))
   (ah (az (aK (aa (aU N.C8) af))))
   aI)
  (ah (az (ak aB hr (aa (ak aY hr (aa (aO lW (bg (pv 0) rfl) (aK (aa (pv 2) af))) (aa (pv 3) af))) af)))))))),?_⟩
 w_on;refine bq hg (ng x n) ?_;w_on;refine bq hg (nh x n) ?_;w_on;refine⟨x,rfl,?_⟩;w_on;by_cases h1:1<=x/\x<=20
 ·rw[if_neg (by rw[decide_eq_true h1];simp)];by_cases h2:10<n
  ·rw[if_pos (.inr h2)]at k;rw[if_pos (by omega)];exact⟨by decide,fun z hz=>a8 ha k rfl (aq.new hz) hz aj⟩
  rw[if_neg (by omega)]at k;rw[if_neg (by omega)];refine fW X ha ?_;w_on;refine⟨_,.inl (aG.of ha.fY),dv _ _,?_⟩;rw[aX];have hf:=ha.ok.jr;by_cases h3:6<=t.kinds.length
  ·rw[if_pos h3]at k;rw[if_pos (by omega)];exact⟨by decide,fun z hz=>a8 ha k rfl (aq.new hz) hz aj⟩
  rw[if_neg h3]at k;rw[if_neg (by omega)];refine fW X ha ?_;w_on;refine⟨by decide,fun p1 u9=>wV ((aq.new u9) _ _ ha.fY) aj (iQ (by rw[aX];simp;omega)) fun p2 wx=>?_⟩;w_on;have hW:=ha.ok.snoc (by omega) h1.1 h1.2;refine⟨p2,t.kinds++[x],n,rfl,aG.of (by rw[aj,tV]),hW,hW.dG (by simp),by omega,fun z1 H1 s1 gC=>?_⟩;have s0:=(aq.new (o:=.lst [V.int (x:Int)]) u9).trans (aq.new (o:=.lst (ax t.kinds++[V.int (x:Int)])) wx);exact⟨z1,_,rfl,gC,fun z2 H2 hz2 s2 h2=>a8 ha k rfl (s0.trans (s1.trans s2)) ((s0.trans s1).free hz2) h2⟩
 rw[if_pos (.inl h1)]at k;rw[if_pos (by rw[decide_eq_false h1];rfl)];w_on;exact⟨by decide,fun z hz=>a8 ha k rfl (aq.new hz) hz aj⟩
def zW(most:Nat)(val:List Nat->Nat->Rat)(t:Table)(args:List Nat):Table×List Int:=(t,lL most val t.kinds (args.getD 0 0) (args.getD 1 0) (args.getD 2 0))
abbrev qp:Stmt:=top 61
theorem E4:aC ["album","given"] ["album","given"] (ay qp):=aJ
theorem E5(N:eV mg)(F:bD K "answer_would" "answer_would" qp f fd)(dD:Cl P w K mg ae 7 "answer_behind_level" g1 bH ["album","given","most","found"] (BL P w K mg ae C))
  (aY:Cl P w K mg ae 4 "likely_different" g2 cp ["weights","draws"] (jk K)):aM P w K mg ae bo 8 f fd ef (cQ K C 3 (zW 10 fU)):=by
 refine bG F E4 fun _ A _ _ H vs Q E hr h=>?_;obtain⟨A,t,g,args,rfl,ha,hg,fJ,hn,k⟩:=h;obtain⟨i,j,n,rfl⟩:=QN hn;refine⟨_,(ah (az (ak dD hr (aa (pv 0) (aa (pv 1) (aa (aU N.cG) (aa (eG aY.kq) af))))))),?_⟩;w_on;refine⟨A,t,g,i,j,n,10,g2,fU,rfl,ha,hg,(aY.hand.imp ?_).mono (by decide),by decide,fun z H1 hz s1 h1=>?_⟩
 ·rintro vs H Q E ⟨a,l,n,h1,h2,h3,h4,h5,_,h6⟩;exact⟨a,l,n,h1,h2,h3,h4,by omega,h6⟩
 exact a8 ha k rfl s1 hz h1
theorem VC{X:Cx}{K:Frag}{e:Expr}{f:Str}{pos:PySem.Pos}{ta:TE}(h:X.K=K)(he:PE X e ta)(hb:attributeBase e f X.env (eval e X.env)=eval e X.env):PE X (.Attribute e f pos) (xX K ta f):=by
 subst h;exact bg he hb
section
variable{X:Cx}
def W7(K:Frag):V->List V->Hp->VK->Prop:=fun x xs H Q=>∃(a:Addr) (ns:List Nat) (n:Nat),x=V.ref a/\xs=[.int n]/\aG K H a (ax ns)/\Q (.int ((ns.count n:Nat):Int)) H
theorem FW(ns:List Nat):(ax ns).all jE=true:=by
 rw[List.all_eq_true];intro v hv;obtain⟨n,_,rfl⟩:=List.mem_map.mp hv;rfl
theorem KR(n:Nat):∀(ns:List Nat) (us:List Value),Vals (ax ns) us->us.countP (UD (.int (n:Int)))=ns.count n
 |[],_,.nil=>rfl
 |m::ns,u::us,.cons r t=>by
  rw[List.countP_cons,KR n ns us t,List.count_cons,G6 r rfl]
  congr 1
  show(if((m:Int)==(n:Int))=true then 1 else 0)=_;by_cases h:m=n
  ·subst h;simp
  have:¬(m:Int)=(n:Int):=fun q=>h (by omega);simp[h,this]
theorem KS:Zg X "list.count" (W7 X.K):=by
 intro au s σ H x xs v us Q I rx Zm h;obtain⟨a,ns,n,rfl,rfl,hs,q⟩:=h;cases rx;cases Zm with
 |cons ry rt=>
  rename_i uy ut;cases rt;obtain⟨its,rv,⟨⟨cls,dd,data,sl⟩,m,ho,hc,hdn,hd⟩,hlen⟩:=I.list hs;simp only at hc hd;subst hc hd;refine call_meets PySem.F.slot_list_count ⟨_,ho,rfl⟩ PySem.F.entry_list_count (PySem.F.args_list_count_2 _ _)
   (SeqAt.list_countAt a its.toArray m dd sl uy (UD (.int (n:Int)))) ⟨ho,fun u' Zo=>Em ry rfl rv (FW ns) u' (by simpa using Zo),?_⟩
  rw[show its.toArray.toList=its from rfl,KR n ns its rv];exact⟨.int _,H,I.tok _,⟨_,rfl⟩,q⟩
end
theorem abB{K:Frag}{H:Hp}{a:Addr}{f:Nat->Nat}{m:Nat}{Q:VK}(h:aG K H a (ax (tab f m)))(q:Q (.int ((f (cI f m):Nat):Int)) H):YU K [.ref a] H Q:=by
 refine⟨a,(tab f m).map fun(n:Nat)=>(n:Int),rfl,by rw[<- FJ];exact h,by simp[gB],fun v hv hall=>?_⟩;obtain⟨s1,s2,s3⟩:=rM f m;have e:v=((f (cI f m):Nat):Int):=by
  obtain⟨x,hx,rfl⟩:=List.mem_map.mp hv;unfold tab at hx;obtain⟨i,hi,rfl⟩:=List.mem_map.mp hx;rw[List.mem_range]at hi;have h1:=s2 i (by omega);have h2:=hall ((f (cI f m):Nat):Int) (List.mem_map.mpr ⟨_,by unfold tab;exact List.mem_map.mpr ⟨_,List.mem_range.mpr (by omega),rfl⟩,rfl⟩);omega
 rw[e];exact q
def vi(K:Frag):Sp:=fun vs H Q _=>∃(a:Addr) (f:Nat->Nat) (m:Nat),vs=[.ref a]/\aG K H a (ax (tab f m))/\Q (.int ((cI f m:Nat):Int)) H
abbrev nv:Stmt:=top 3
theorem BR:aC ["numbers"] ["numbers"] (ay nv):=aJ
theorem BS(T:gE mg)(F:bD K "first_greatest" "first_greatest" nv f fd):aM P w K mg ae bo 1 f fd ["numbers"] (vi K):=by
 refine bG F BR fun _ _ _ _ H _ Q _ hr h=>?_;obtain⟨a,f,m,rfl,ha,k⟩:=h;refine⟨_,(ah (az (uA PySem.F.plainAttrs_list PySem.F.slot_list_index PySem.F.type_list_index Sl (pv 0) (aa (aT (Wy rfl) (by rfl) T.aat boot_max (aa (pv 0) af)) af)))),?_⟩;w_on;obtain⟨s1,s2,s3⟩:=rM f m;refine⟨.inl ⟨rfl,_,ha⟩,abB ha ?_⟩;refine⟨a,_,_,cI f m,_,rfl,rfl,ha,rfl,FW _,yt f m _ s1,by show((_:Int)==_)=true;simp,fun j z hj hz=>?_,k⟩;rw[yt f m j (by omega)]at hz;cases hz;have:=s3 j hj;show(((f j:Nat):Int)==((f (cI f m):Nat):Int))=false;simp;omega
theorem Tq{ta:TA}{g:TG}{tb:TS}{D:Ends}{σ:L2.St}{H:Hp}(lo:Int)(n:Nat)(hlo:0<=lo)(hn:lo+n<2 ^ 62)(lj:∀R:List V->Hp->Prop,R [.int lo,.int (lo+n)] H->ta σ H R)(Pv:Nat->L2.St->Hp->Prop)(h0:Pv 0 σ H)
  (hs:∀i σ H,i<n->Pv i σ H->g (.int (lo+i)) σ H fun σ2 H2=>tb {D with nx:=Pv (i+1),ct:=Pv (i+1),bk:=D.nx} σ2 H2)(hd:∀σ H,Pv n σ H->D.nx σ H):Fw (Uk ta) g tb D σ H:=by
 refine lj _ ⟨lo,lo+n,rfl,⟨by omega,by omega,by omega,by omega⟩,?_⟩;have e:(lo+(n:Int) - lo).toNat=n:=by omega
 rw[e];exact Hr Pv h0 hs hd
theorem abC{ta:TA}{n:Nat}{g:TG}{tt:TT}{te:TE}{vs:List Nat}{σ:L2.St}{H:Hp}{Q:VK}(lj:∀R:List V->Hp->Prop,R [.int n] H->ta σ H R)(hn:n<=1000000)(PI:Addr->Nat->List V->Hp->Prop)
  (h0:∀D,H D=none->PI D 0 [] (upd H D (.lst [])))
  (step:∀D i acc H' (Ry:V->Hp->Prop) (Rn:Hp->Prop),H D=none->i<n->H' D=some (.lst acc)->PI D i acc H'->(∀y H4,H4 D=some (.lst acc)->PI D (i+1) (acc++[y]) (upd H4 D (.lst (acc++[y])))->Ry y H4)->
   g (.int i) (wipe σ vs) H' fun σ2 H2=>wipe σ2 vs=wipe σ vs/\tt σ2 H2 fun b H3=>if b=true then te σ2 H3 Ry else Rn H3)
  (fin:∀D acc H',H D=none->acc.length=n->H' D=some (.lst acc)->PI D n acc H'->Q (.ref D) H'):HJ (Lc ta) g tt te vs σ H Q:=by
 refine lj _ ⟨n,rfl,by omega,by omega,?_⟩;have e:((n:Int)).toNat=n:=by omega
 rw[e];intro D hD;refine⟨fun i m H'=>m=n - i/\i<=n/\∃acc:List V,acc.length=i/\H' D=some (.lst acc)/\PI D i acc H',⟨n,by simp,Nat.zero_le _,[],rfl,aj,h0 D hD⟩,?_⟩;rintro i m H' ⟨rfl,hi,acc,A3,hd,hp⟩;by_cases hlt:i<n
 ·refine .inr ⟨hlt,fun H5=>∃acc:List V,acc.length=i+1/\H5 D=some (.lst acc)/\PI D (i+1) acc H5,fun H5 h5=>⟨n - (i+1),by omega,rfl,hlt,h5⟩,fun x H5 y=>?_⟩;obtain⟨rfl,y⟩:=y;rw[y,Int.zero_add];refine step D i acc _ _ _ hD hlt hd hp fun y H4 h4 Ae=>⟨acc,h4,by rw[A3,sizeLine_eq];omega,acc++[y],by rw[List.length_append,A3];rfl,aj,Ae⟩
 have e:i=n:=by omega
 subst e;exact .inl ⟨Nat.le_refl _,fin D acc H' hD A3 hd hp⟩
theorem abD{g:TG}{tt:TT}{te:TE}{vs:List Nat}{σ:L2.St}{H:Hp}{Q:VK}{K:Frag}{α:Type}{tl:TE}{post:Addr->Hp->Prop}(L:List α)(φ:α->V)(f:α->Option V)(Bw:∀R:VK,(∀z H1,post z H1->R (.ref z) H1)->tl σ H R)(hl:∀z H1,post z H1->aG K H1 z (L.map φ))(hn:L.length<=1000000)
  (step:∀x z H1 H' (Ry:V->Hp->Prop) (Rn:Hp->Prop),post z H1->x∈L->aq H1 H'->(∀y H4,aq H' H4->f x=some y->Ry y H4)->(∀H3,aq H' H3->f x=none->Rn H3)->
   g (φ x) (wipe σ vs) H' fun σ2 H2=>wipe σ2 vs=wipe σ vs/\tt σ2 H2 fun b H3=>if b=true then te σ2 H3 Ry else Rn H3)
  (fin:∀z H1 D H',post z H1->H1 D=none->aq H1 H'->H' D=some (.lst (L.filterMap f))->Q (.ref D) H'):HJ (Ej K tl) g tt te vs σ H Q:=by
 refine Bw _ fun z H1 hp=>?_;exact yi (tl:=fun _ H R=>R (.ref z) H) L φ f (fun R r=>r) (hl z H1 hp) hn (fun x H' Ry Rn hx s h1 h2=>step x z H1 H' Ry Rn hp hx s h1 h2) (fun D H' hD s h=>fin z H1 D H' hp hD s h)
structure hJ(H:Hp)(z:Addr)(as:List Addr)(d:Nat)(F:Nat->Nat->Nat):Prop where
 lst:H z=some (.lst (as.map V.ref))
 nd:as.Nodup
 out:z∉as
 row:∀k a,as[k]? =some a->H a=some (.lst (ax (tab (fun n=>F n k) d)))
theorem hJ.same{H H':Hp}{z:Addr}{as:List Addr}{d:Nat}{F:Nat->Nat->Nat}(h:hJ H z as d F)(s:aq H H'):hJ H' z as d F:=⟨s _ _ h.lst,h.nd,h.out,fun k a e=>s _ _ (h.row k a e)⟩
theorem hJ.congr{H:Hp}{z:Addr}{as:List Addr}{d:Nat}{F G:Nat->Nat->Nat}(h:hJ H z as d F)(e:∀k n,k<as.length->n<=d->F n k=G n k):hJ H z as d G:=
 ⟨h.lst,h.nd,h.out,fun k a q=>by
  rw[h.row k a q]
  congr 3
  exact kv fun n hn=>e k n (List.getElem?_eq_some_iff.mp q).1 hn⟩
theorem hJ.add{H:Hp}{z:Addr}{as:List Addr}{d:Nat}{F:Nat->Nat->Nat}(h:hJ H z as d F){k0 n0 v:Nat}{a0:Addr}(e:as[k0]? =some a0):hJ (upd H a0 (.lst (ax ((tab (fun n=>F n k0) d).set n0 (F n0 k0+v))))) z as d (fun n k=>F n k+if k=k0/\n=n0 then v else 0):=by
 have hk0:=(List.getElem?_eq_some_iff.mp e);refine⟨by rw[aE (show z≠a0 from fun q=>h.out (q▸List.mem_of_getElem? e))];exact h.lst,h.nd,h.out,fun k a q=>?_⟩;by_cases hk:k=k0
 ·subst hk;rw[e]at q;cases q;rw[aj,Nm]
  congr 3
  apply kv;intro n _;by_cases hn:n=n0
  ·rw[if_pos hn,if_pos ⟨rfl,hn⟩,hn]
  rw[if_neg hn,if_neg (fun q=>hn q.2),Nat.add_zero]
 have om:a≠a0:=fun q2=>by
  subst q2;obtain⟨h1,h2⟩:=List.getElem?_eq_some_iff.mp q;obtain⟨h3,h4⟩:=hk0;exact hk ((List.getElem_inj h.nd).mp (h2.trans h4.symm))
 rw[aE om,h.row k a q]
 congr 3
 apply kv;intro n _;rw[if_neg (fun q=>hk q.1),Nat.add_zero]
theorem hJ.off{H:Hp}{z u:Addr}{as:List Addr}{d:Nat}{F:Nat->Nat->Nat}{o:HO}(h:hJ H z as d F)(hz:z≠u)(ha:u∉as):hJ (upd H u o) z as d F:=
 ⟨by rw[aE hz];exact h.lst,h.nd,h.out,fun k a e=>by rw[aE (show a≠u from fun q=>ha (q▸List.mem_of_getElem? e))];exact h.row k a e⟩
theorem KU{as:List Addr}{i:Nat}{v:V}(h:(as.map V.ref)[i]? =some v):∃a,as[i]? =some a/\v= .ref a:=by
 rw[List.getElem?_map]at h;cases e:as[i]? with
 |none=>rw[e]at h;cases h
 |some a=>rw[e]at h;exact⟨a,rfl,(Option.some.inj h).symm⟩
theorem NR{as:List Addr}{i:Nat}{a:Addr}(h:as[i]? =some a):cW (as.map V.ref) (i:Int)=some (.ref a):=Ct (by rw[List.getElem?_map,h];rfl)
theorem sg{l:List Nat}{i:Nat}{v:V}(h:(ax l)[i]? =some v):∃x,l[i]? =some x/\v=V.int (x:Int):=by
 unfold ax at h;rw[List.getElem?_map]at h;cases e:l[i]? with
 |none=>rw[e]at h;cases h
 |some x=>rw[e]at h;exact⟨x,rfl,(Option.some.inj h).symm⟩
theorem W8{f:Nat->Nat}{n i x:Nat}(h:(tab f n)[i]? =some x):i<=n/\x=f i:=by
 have hi:=(List.getElem?_eq_some_iff.mp h).1;rw[gB]at hi;unfold tab at h;rw[List.getElem?_map,List.getElem?_range hi]at h;exact⟨by omega,(Option.some.inj h).symm⟩
theorem pK(f:Nat->Nat)(n:Nat):(List.range (n+1)).filterMap (fun i=>some (V.int ((f i:Nat):Int)))=ax (tab f n):=by
 unfold ax tab;rw[List.map_map];have:∀L:List Nat,L.filterMap (fun i=>some (V.int ((f i:Nat):Int)))=L.map ((fun(n:Nat)=>V.int (n:Int))∘f):=by
  intro L
  induction L with
  |nil=>rfl
  |cons a L ih=>rw[List.filterMap_cons,List.map_cons,ih];rfl
 exact this _
theorem aau{w t:Nat}(hw:w<=20)(ht:t<=12):w ^ t<2 ^ 60:=by
 have h1:w ^ t<=20 ^ t:=Nat.pow_le_pow_left hw t;have h2:20 ^ t<=20 ^ 12:=Nat.pow_le_pow_right (by decide) ht;have h3:20 ^ 12<2 ^ 60:=by decide +kernel
 omega
def FX(K:Frag):Sp:=fun vs H Q _=>∃(z:Addr) (as:List Addr) (d x:Nat) (F:Nat->Nat->Nat),vs=[.ref z,.int x,.int d]/\hJ H z as d F/\as.length<=100/\d<=12/\x<=20/\(∀n,n<=d->F n as.length=0)/\
 ∀z' as' H',aq H H'->hJ H' z' as' d (fV F x)->as'.length=as.length+1->Q (.ref z') H'
abbrev wB:Stmt:=top 119
theorem fT:aC ["rows","weight","draws","longer","placed","kinds","by_length","length","heavy","times"] ["rows","weight","draws"] (ay wB):=aJ
theorem J3(T:gE mg)(F:bD K "with_kind" "with_kind" wB f fd)(cC:Cl P w K mg ae 1 "power" g1 bH ["base","exponent"] uE)(cv:Cl P w K mg ae 1 "choices" g2 cp ["many","few"] ku):
  aM P w K mg ae bo 2 f fd ["rows","weight","draws"] (FX K):=by
 refine bG F fT fun _ _ _ _ H _ Q _ hr h=>?_;obtain⟨z,as,d,x,F,rfl,hR,hlen,hd,hx,hF,k⟩:=h;refine⟨_,(ag (j2 (i:=3) rfl fT.nd rfl rfl rfl (eK rfl T.gA (aa (aO dh (aT a6 (by rfl) T.dZ boot_len (aa (pv 0) af)) ai) af)) (c7 (own:=[("kinds",5)]) (by rfl)) (fun _ _ _ _ _=>(qz 5 fT)) (fun _ _ _ _ _=>fq) (fun _ _ _ _ _=>(aO qW (aK (aa ai af)) (aO dh (pv 2) ai))))
  (ag (j2 (i:=4) rfl fT.nd rfl rfl rfl (eK rfl T.gA (aa (aO dh (pv 2) ai) af)) (c7 (own:=[("times",9)]) (by rfl)) (fun _ _ _ _ _=>(qz 9 fT)) (fun _ _ _ _ _=>fq) (fun _ _ _ _ _=>(ak cC hr (aa (pv 1) (aa (pv 9) af)))))
  (ag (fQ PassesOwn.never rfl (Cw rfl T.rb (aa (pv 0) af)) (Co rfl (eJ (qz 5 fT) (eJ (qz 6 fT) lH)))
   (ah (fQ PassesOwn.never rfl (Cw rfl T.rb (aa (pv 6) af)) (Co rfl (eJ (qz 7 fT) (eJ (qz 8 fT) lH)))
   (ag (lI (aD aA (pv 3) (pv 5) (fun _ _=>rfl)) (pv 7) j5 (pv 8) mT set_list)
  (ah (fQ PassesOwn.never rfl (Ox rfl T.gA (aa ai (aa (aO dh (aO dU (pv 2) (pv 7)) ai) af))) (qz 9 fT)
   (ah (lI (aD aA (pv 3) (aO dh (pv 5) ai) (fun _ _=>rfl)) (aO dh (pv 7) (pv 9)) j5 (aO cM (aO cM (pv 8) (ak cv hr (aa (aO dh (pv 7) (pv 9)) (aa (pv 9) af)))) (aD aA (pv 4) (pv 9) (fun _ _=>rfl))) mT set_list))))))))
  (ah (az (pv 3)))))),?_⟩
 w_on;have ed:(d:Int)+1=((d+1:Nat):Int):=by omega
 refine abC (n:=as.length+1) (fun R r=>by
   w_on;refine⟨_,.inl (aG.of hR.lst),?_⟩;rw[List.length_map];exact r) (by omega)
  (fun D i acc H'=>aq H H'/\∃bs:List Addr,acc=bs.map V.ref/\bs.Nodup/\D∉bs/\∀b∈bs,H b=none/\H' b=some (.lst (List.replicate (d+1) (V.int 0))))
  (fun D hD=>⟨aq.new hD,[],rfl,List.nodup_nil,by simp,fun b hb=>absurd hb (by simp)⟩)
  (fun D i acc H' Ry Rn hD hi A3 ⟨s1,bs,e1,nd,out,hb⟩ hy=>?_) (fun D acc H' hD W9 A3 ⟨s1,bs,e1,nd,out,hb⟩=>?_)
 ·w_on;refine⟨by decide,fun p hp=>?_⟩;rw[ed];refine CV aj (by omega) fun q hq=>?_;obtain⟨hqp,Tr⟩:=bM hq;have hpD:p≠D:=fun e=>by rw[e,A3]at hp;cases hp
  have hqD:q≠D:=fun e=>by rw[e,A3]at Tr;cases Tr
  have nb:∀b∈bs,b≠p/\b≠q:=fun b pX=>⟨fun e=>(by rw[<- e,(hb b pX).2]at hp;cases hp),fun e=>(by rw[<- e,(hb b pX).2]at Tr;cases Tr)⟩;refine hy _ _ (by rw[aE (Ne.symm hqD),aE (Ne.symm hpD)];exact A3) ⟨?_,bs++[q],by rw[e1,List.map_append];rfl,?_,?_,fun b pX=>?_⟩
  ·exact aq.put (aq.put (aq.put s1 (s1.free hp)) (s1.free Tr)) hD
  ·rw[List.nodup_append];exact⟨nd,by simp,fun b pX c hc=>by rw[List.mem_singleton.mp hc];exact(nb b pX).2⟩
  ·rw[List.mem_append,List.mem_singleton];exact fun h=>h.elim out (Ne.symm hqD)
  rcases List.mem_append.mp pX with pX|pX
  ·have hbD:b≠D:=fun e=>out (e▸pX);exact⟨(hb b pX).1,by rw[aE hbD,aE (nb b pX).2,aE (nb b pX).1];exact(hb b pX).2⟩
  rw[List.mem_singleton.mp pX];exact⟨s1.free Tr,by rw[aE hqD,aj]⟩
 subst e1;rw[List.length_map]at W9;have hR0:hJ H' D bs d (fun n k=>cA F x d 0 k n):=⟨A3,nd,out,fun k a e=>by
  rw[(hb a (List.mem_of_getElem? e)).2,<- KL];rfl⟩
 have hbN:∀b∈bs,H b=none:=fun b pX=>(hb b pX).1;clear hb;w_on;refine Qr (n:=d+1) (fun R r=>by w_on;rw[ed];exact r) (by omega) (fun i=>some (V.int ((x ^ i:Nat):Int))) (fun i H3 Ry Rn hi s3 h1 h2=>?_) (fun D2 H3 Xa s3 h3=>?_)
 ·w_on;refine⟨_,i,rfl,by omega,by omega,by omega,?_⟩;exact h1 _ _ (aq.refl _) (by rw[Int.natCast_pow])
 rw[pK]at h3;have hR3:=hR0.same s3;have s4:=s1.trans s3;have nD2:D2∉bs/\D2≠D:=by
  refine⟨fun q=>?_,fun q=>?_⟩
  ·obtain⟨k,hk⟩:=List.getElem?_of_mem q;rw[hR0.row k D2 hk]at Xa;cases Xa
  rw[q,A3]at Xa;cases Xa
 w_on;refine U9 (xs:=as.map V.ref) (fun R r=>by w_on;exact r) (aG.of (s4 _ _ hR.lst))
  (fun a σ H'=>aq H H'/\H' D2=some (.lst (ax (tab (fun t=>x ^ t) d)))/\hJ H' D bs d (fun n k=>cA F x d a k n)/\∃v5 v6 v7 v8 v9,σ=[some (.ref z),some (.int (x:Int)),some (.int (d:Int)),some (.ref D),some (.ref D2),v5,v6,v7,v8,v9])
  ⟨s4,h3,hR3,_,_,_,_,_,rfl⟩ (fun a σ H' _ ⟨s5,_⟩=>aG.of (s5 _ _ hR.lst)) ?_ ?_
 ·rintro a v σ H5 hv H6 ⟨s5,p5,r5,v5,v6,v7,v8,v9,rfl⟩ ⟨T0,QR,rfl⟩;obtain⟨ra,hra,rfl⟩:=KU hv;have haL:a<as.length:=(List.getElem?_eq_some_iff.mp hra).1;have nT:T0≠D/\T0∉bs/\T0≠D2:=by
   refine⟨fun q=>?_,fun q=>?_,fun q=>?_⟩
   ·rw[q,r5.lst]at QR;cases QR
   ·obtain⟨k,hk⟩:=List.getElem?_of_mem q;rw[r5.row k T0 hk]at QR;cases QR
   rw[q,p5]at QR;cases QR
  have s6:aq H (upd H5 T0 (.tup [.int (a:Nat),.ref ra])):=aq.put s5 (s5.free QR);have p6:(upd H5 T0 (.tup [.int (a:Nat),.ref ra])) D2=some (.lst (ax (tab (fun t=>x ^ t) d))):=by rw[aE (Ne.symm nT.2.2)];exact p5
  have r6:hJ (upd H5 T0 (.tup [.int (a:Nat),.ref ra])) D bs d (fun n k=>cA F x d a k n):=r5.off (Ne.symm nT.1) nT.2.1;generalize upd H5 T0 (.tup [.int (a:Nat),.ref ra])=H6 at s6 p6 r6 ⊢;have hrow:=hR.row a ra hra;w_on;refine U9 (xs:=ax (tab (fun n=>F n a) d)) (fun R r=>by w_on;exact r) (aG.of (s6 _ _ hrow))
   (fun b σ H'=>aq H H'/\H' D2=some (.lst (ax (tab (fun t=>x ^ t) d)))/\hJ H' D bs d (fun n k=>cA F x d a k n+eE b (fun b'=>cL F x d a b' k n))/\∃v7 v8 v9,σ=[some (.ref z),some (.int (x:Int)),some (.int (d:Int)),some (.ref D),some (.ref D2),some (.int (a:Int)),some (.ref ra),v7,v8,v9])
   ⟨s6,p6,r6.congr (fun k n _ _=>by rw[wt,Nat.add_zero]),_,_,_,rfl⟩ (fun b σ H' _ ⟨s7,_⟩=>aG.of (s7 _ _ hrow)) ?_ ?_
  ·rintro b v σ H7 hv H8 ⟨s7,p7,r7,v7,v8,v9,rfl⟩ ⟨T1,QS,rfl⟩;obtain⟨hy,hyb,rfl⟩:=sg hv;obtain⟨hbd,rfl⟩:=W8 hyb;have nT:T1≠D/\T1∉bs/\T1≠D2:=by
    refine⟨fun q=>?_,fun q=>?_,fun q=>?_⟩
    ·rw[q,r7.lst]at QS;cases QS
    ·obtain⟨k,hk⟩:=List.getElem?_of_mem q;rw[r7.row k T1 hk]at QS;cases QS
    rw[q,p7]at QS;cases QS
   have s8:aq H (upd H7 T1 (.tup [.int (b:Nat),.int ((F b a:Nat):Int)])):=aq.put s7 (s7.free QS);have p8:(upd H7 T1 (.tup [.int (b:Nat),.int ((F b a:Nat):Int)])) D2=some (.lst (ax (tab (fun t=>x ^ t) d))):=by rw[aE (Ne.symm nT.2.2)];exact p7
   have r8:=r7.off (o:=.tup [.int (b:Nat),.int ((F b a:Nat):Int)]) (Ne.symm nT.1) nT.2.1;generalize upd H7 T1 (.tup [.int (b:Nat),.int ((F b a:Nat):Int)])=H8 at s8 p8 r8 ⊢;obtain⟨ba,NA⟩:∃ba,bs[a]? =some ba:=⟨bs[a]'(by omega),List.getElem?_eq_getElem (by omega)⟩;obtain⟨bb,hbb⟩:∃bb,bs[a+1]? =some bb:=⟨bs[a+1]'(by omega),List.getElem?_eq_getElem (by omega)⟩;have nba:ba≠D2:=fun q=>nD2.1 (q▸List.mem_of_getElem? NA);have nbb:bb≠D2:=fun q=>nD2.1 (q▸List.mem_of_getElem? hbb);w_on;refine bq (aG.of r8.lst) (NR NA) ?_;w_on;refine getL (aG.of (r8.row a ba NA)) (yt _ d b hbd) ?_;w_on;rw[<- Int.natCast_add];refine wW (r8.row a ba NA) (by rw[aX,gB];omega) ?_;rw[ia];have r9:=r8.add (v:=F b a) (n0:=b) NA;have s9:aq H (upd H8 ba (.lst (ax ((tab (fun n=>cA F x d a a n+eE b (fun b'=>cL F x d a b' a n)) d).set b (cA F x d a a b+eE b (fun b'=>cL F x d a b' a b)+F b a))))):=aq.put s8 (hbN ba (List.mem_of_getElem? NA));have p9:(upd H8 ba (.lst (ax ((tab (fun n=>cA F x d a a n+eE b (fun b'=>cL F x d a b' a n)) d).set b (cA F x d a a b+eE b (fun b'=>cL F x d a b' a b)+F b a))))) D2=some (.lst (ax (tab (fun t=>x ^ t) d))):=by rw[aE (Ne.symm nba)];exact p8
   generalize upd H8 ba (.lst (ax ((tab (fun n=>cA F x d a a n+eE b (fun b'=>cL F x d a b' a n)) d).set b (cA F x d a a b+eE b (fun b'=>cL F x d a b' a b)+F b a))))=H9 at s9 p9 r9 ⊢;w_on;refine Tq 1 (d - b) (by decide) (by omega) (fun R r=>by
     w_on;rw[show(d:Int) - (b:Int)+1=1+((d - b:Nat):Int)by omega];exact r)
    (fun t σ H'=>aq H H'/\H' D2=some (.lst (ax (tab (fun t=>x ^ t) d)))/\hJ H' D bs d (fun n k=>cA F x d a k n+eE b (fun b'=>cL F x d a b' k n)+c0 F a b k n+eE t (fun t=>cT F x a b t k n))/\∃v9,σ=[some (.ref z),some (.int (x:Int)),some (.int (d:Int)),some (.ref D),some (.ref D2),some (.int (a:Int)),some (.ref ra),some (.int (b:Int)),some (.int ((F b a:Nat):Int)),v9])
    ⟨s9,p9,r9.congr (fun k n _ _=>by rw[wt,Nat.add_zero];rfl),_,rfl⟩ ?_ ?_
   ·rintro t σ H10 ht ⟨WG,Xb,MS,v9,rfl⟩;w_on;have et:(1:Int)+(t:Int)=((t+1:Nat):Int):=by omega
    have ea:(a:Int)+1=((a+1:Nat):Int):=by omega
    have eb:(b:Int)+((t+1:Nat):Int)=((b+(t+1):Nat):Int):=by omega
    rw[et,ea];refine bq (aG.of MS.lst) (NR hbb) ?_;w_on;rw[eb];refine getL (aG.of (MS.row (a+1) bb hbb)) (yt _ d (b+(t+1)) (by omega)) ?_;w_on;refine⟨b+(t+1),t+1,rfl,by omega,by omega,?_⟩;w_on;have hc:=iz (n:=b+(t+1)) (k:=t+1) (by omega) (by omega);have hw:=aau hx (show t+1<=12 by omega);refine⟨.inr (by omega),?_⟩;refine bq (aG.of Xb) (by rw[du (by rw[gB];omega),rp _ _ _ (by omega)]) ?_;w_on;refine⟨.inr (by omega),?_⟩;rw[<- Int.natCast_mul,<- Int.natCast_mul,<- Int.natCast_add];refine wW (MS.row (a+1) bb hbb) (by rw[aX,gB];omega) ?_;rw[ia];have r11:=MS.add (v:=F b a*Kp291.choose (b+(t+1)) (t+1)*x ^ (t+1)) (n0:=b+(t+1)) hbb;refine⟨aq.put WG (hbN bb (List.mem_of_getElem? hbb)),by rw[aE (Ne.symm nbb)];exact Xb,r11.congr (fun k n _ _=>?_)⟩;rw[eL];unfold cT;omega
   rintro σ H10 ⟨WG,Xb,MS,v9,rfl⟩;refine⟨WG,Xb,MS.congr (fun k n _ _=>?_),_,_,_,rfl⟩;rw[eL];unfold cL;omega
  rintro σ H7 ⟨s7,p7,r7,v7,v8,v9,rfl⟩;rw[aX,gB]at r7;refine⟨s7,p7,r7.congr (fun k n _ _=>?_),_,_,_,_,_,rfl⟩;exact(eL a (fun a=>cK F x d a k n)).symm
 rintro σ H5 ⟨s5,p5,r5,v5,v6,v7,v8,v9,rfl⟩;w_on;rw[List.length_map]at r5;exact k D bs H5 s5 (r5.congr (fun k n hk hn=>Zz F x d as.length k n hn (by omega) (hF n hn))) W9
theorem bF.zero{K:Frag}{H:Hp}{a:Addr}(h:H a=some (.tup [.int 0,.int 1])):bF K H a 0:=⟨.inl (.inl h)⟩
theorem bF.one{K:Frag}{H:Hp}{a:Addr}(h:H a=some (.tup [.int 1,.int 1])):bF K H a 1:=⟨.inl (.inl h)⟩
theorem LS{l:List Nat}{n k:Nat}(h:l.length<k):Es k l n=0:=by
 unfold Es;rw[M7 l n k h];exact Rat.zero_mkRat _
theorem KW(t n:Nat):∀l:List Nat,(l.map fun w=>t ^ n - (t - w) ^ n).sum<=l.length*t ^ n
 |[]=>by simp
 |a::l=>by
  rw[List.map_cons,List.sum_cons,List.length_cons,Nat.succ_mul];have:=KW t n l;omega
theorem Dk{t:Nat}{l:List Nat}(hl:Lk t l)(h0:0<t){n:Nat}(hn:n<=100):Fits (qZ t l n):=by
 have ht:=hl.top;have h1:t ^ n<2 ^ 1800:=by
  have h1:t ^ n<=(2 ^ 7) ^ n:=Nat.pow_le_pow_left (by omega) n;rw[<- Nat.pow_mul]at h1;exact Nat.lt_of_le_of_lt h1 (Nat.pow_lt_pow_right (by decide) (by omega))
 have h2:(2:Nat) ^ 1800*6<2 ^ 1900:=by decide +kernel
 refine CS (fj h0 n) ?_ (by omega);rw[Int.natAbs_natCast];have h3:=KW t n l;have h4:l.length*t ^ n<=6*t ^ n:=Nat.mul_le_mul_right _ hl.jr;omega
theorem e8.QT{l:List Nat}(h:e8 l):Lk l.sum l:=⟨h.jr,Nat.le_refl _,h.kd⟩
theorem Xc(d:Nat):ax (tab (fun n=>J [] n 0) d)=V.int 1::List.replicate d (V.int 0):=by
 rw[<- RK]
 congr 1
 apply kv;intro n _;rw[Ln,Lh]
def Dl(K:Frag):Sp:=fun vs H Q _=>∃(a:Addr) (l:List Nat) (d:Nat),vs=[.ref a,.int d]/\aG K H a (ax l)/\e8 l/\d<=12/\∀z H',H z=none->aq H H'->H' z=some (.lst (ax (tab (J l d) l.length)))->Q (.ref z) H'
abbrev oR:Stmt:=top 120
theorem hX:aC ["weights","draws","rows","weight","by_length"] ["weights","draws"] (ay oR):=aJ
theorem Dm(T:gE mg)(F:bD K "rows_by_kinds" "rows_by_kinds" oR f fd)(rh:Cl P w K mg ae 2 "with_kind" g1 bH ["rows","weight","draws"] (FX K)):aM P w K mg ae bo 3 f fd ["weights","draws"] (Dl K):=by
 refine bG F hX fun _ _ _ _ H _ Q _ hr h=>?_;obtain⟨a,l,d,rfl,ha,hl,hd,k⟩:=h;have hf:=hl.jr;refine⟨_,(ag (pz 2 hX (aK (aa (aO lW (aK (aa ai af)) (aO qW (aK (aa ai af)) (pv 1))) af)))
  (ag (fQ PassesOwn.never rfl (fm (pv 0)) (qz 3 hX)
   (ah (pz 2 hX (ak rh hr (aa (pv 2) (aa (pv 3) (aa (pv 1) af)))))))
  (ah (az (lh rfl hX.nd (fm (pv 2)) (c7 (own:=[("by_length",4)]) (by rfl)) (fun _ _ _ _ _=>(qz 4 hX)) (fun _ _ _ _ _=>fq) (fun _ _ _ _ _=>(aD (rn (K:=K) rfl) (pv 4) (pv 1) (fun _ _=>rfl)))))))),?_⟩
 w_on;refine⟨by decide,fun p1 u9=>⟨by decide,fun p2 wx=>CV aj (by omega) fun p3 By=>?_⟩⟩;w_on;refine wV ((aq.new By) _ _ ((aq.new wx) _ _ aj)) aj (iQ (by simp;omega)) fun p4 Ae=>?_;w_on;refine⟨by decide,fun p5 Nq=>?_⟩;have s0:aq H (upd (upd (upd (upd (upd H p1 (.lst [.int 1])) p2 (.lst [.int 0])) p3 (.lst (List.replicate d (V.int 0)))) p4 (.lst ([V.int 1]++List.replicate d (V.int 0)))) p5 (.lst [.ref p4])):=
  (((aq.new u9).trans (aq.new wx)).trans ((aq.new By).trans (aq.new Ae))).trans (aq.new Nq)
 have h54:p5≠p4:=(bM Nq).1;refine forL (xs:=ax l) (fun R r=>by w_on;exact r) (s0.seq ha)
  (fun i σ H'=>aq H H'/\∃z as v3 v4,σ=[some (.ref a),some (.int (d:Int)),some (.ref z),v3,v4]/\as.length=i+1/\hJ H' z as d (J (l.take i)))
  ⟨s0,p5,[p4],_,_,rfl,rfl,⟨aj,by simp,by simpa using h54,fun k b e=>?_⟩⟩ (fun i σ H' _ ⟨s1,_⟩=>s1.seq ha) ?_ ?_
 ·have:k=0/\b=p4:=by
   match k,e with
   |0,e=>exact⟨rfl,(Option.some.inj e).symm⟩
  obtain⟨rfl,rfl⟩:=this;rw[aE (Ne.symm h54),aj,List.take_zero,Xc]
 ·rintro i v σ H' hv ⟨s1,z,as,v3,v4,rfl,hlen,hR⟩;obtain⟨x,hx,rfl⟩:=sg hv;have hi:i<l.length:=(List.getElem?_eq_some_iff.mp hx).1;w_on;refine⟨z,as,d,x,J (l.take i),rfl,hR,by omega,hd,hl.top x (List.mem_of_getElem? hx),fun n _=>M7 _ _ _ (by rw[List.length_take];omega),fun z' as' H2 s2 hR2 Zk=>?_⟩;w_on;refine⟨s1.trans s2,⟨as',by omega,hR2.congr (fun k n _ hn=>?_)⟩⟩;rw[fv hx,WS _ _ _ _ (by omega)]
 rintro σ H' ⟨s1,z,as,v3,v4,rfl,hlen,hR⟩;rw[aX]at hlen hR;rw[List.take_length]at hR;w_on;refine lcL (xs:=as.map V.ref) (fun R r=>by w_on;exact r) (aG.of hR.lst) (by rw[List.length_map];omega) (fun i=>some (V.int ((J l d i:Nat):Int))) (fun i v H3 Ry Rn hv s3 h1 h2=>?_) (fun D H3 hD s3 h3=>?_)
 ·obtain⟨b,hb,rfl⟩:=KU hv;w_on;refine bq (aG.of (s3 _ _ (hR.row i b hb))) (by rw[du (by rw[gB];omega),rp _ _ _ (Nat.le_refl _)]) ?_;exact h1 _ _ (aq.refl _) rfl
 rw[List.length_map,hlen,pK]at h3;exact k D H3 ((s1.free hD)) (s1.trans s3) h3
def yJ(K:Frag):Sp:=fun vs H Q _=>∃(a:Addr) (l:List Nat) (n x:Nat),vs=[.ref a,.int n,.int x]/\aG K H a (ax l)/\e8 l/\0<l.sum/\n<=12/\∀z H',aq H H'->bF K H' z (Es x l n)->Q (.ref z) H'
abbrev qr:Stmt:=top 121
theorem E6:aC ["weights","draws","kinds"] ["weights","draws","kinds"] (ay qr):=aJ
theorem E7(T:gE mg)(F:bD K "likely_kinds" "likely_kinds" qr f fd)(dy:Cl P w K mg ae 3 "rows_by_kinds" g1 bH ["weights","draws"] (Dl K))
  (aF:Cl P w K mg ae 2 "fraction" g2 cp ["above","below"] (gy K))(cC:Cl P w K mg ae 1 "power" g3 c4 ["base","exponent"] uE):aM P w K mg ae bo 4 f fd ["weights","draws","kinds"] (yJ K):=by
 refine bG F E6 fun _ _ _ _ H _ Q _ hr h=>?_;obtain⟨a,l,n,x,rfl,ha,hl,h0,hn,k⟩:=h;have hs:=hl.kd;refine⟨_,(ag (a9 (aP fR (pv 2) (aT a6 (by rfl) T.dZ boot_len (aa (pv 0) af)) (aV _))
   (ah (az (mW (aa ai (aa ai af)))))
   aI)
  (ah (az (ak aF hr (aa (aD aA (ak dy hr (aa (pv 0) (aa (pv 1) af))) (pv 2) (fun _ _=>rfl)) (aa (ak cC hr (aa (aT (fg rfl) (by rfl) T.gN boot_sum (aa (pv 0) af)) (aa (pv 1) af))) af)))))),?_⟩
 w_on;refine⟨_,.inl ha,?_⟩;rw[aX];by_cases h1:l.length<x
 ·rw[if_pos (by omega)];rw[LS h1]at k;exact⟨by decide,fun z hz=>k z _ (aq.new hz) (bF.zero aj)⟩
 rw[if_neg (by omega)];refine⟨a,l,n,rfl,ha,hl,hn,fun z H1 _ s1 hz=>?_⟩;w_on;refine bq (aG.of hz) (by rw[du (by rw[gB];omega),rp _ _ _ (by omega)]) ?_;w_on;refine kf (s1.seq ha) ⟨_,n,rfl,by omega,by omega,by omega,?_⟩;refine⟨_,l.sum ^ n,by rw[Int.natCast_pow],Nat.pow_pos h0,jj (md (by omega) (by omega)),fun p H' _ s2 h3=>?_⟩;exact k p H' (s1.trans s2) (bF.of h3)
def nA(K:Frag):Sp:=fun vs H Q _=>∃(a:Addr) (l:List Nat) (n:Nat),vs=[.ref a,.int n]/\aG K H a (ax l)/\e8 l/\0<l.sum/\n<=100/\∀z H',aq H H'->bF K H' z (ke l n)->Q (.ref z) H'
abbrev uT:Stmt:=top 122
theorem IF:aC ["weights","draws"] ["weights","draws"] (ay uT):=aJ
theorem IG(T:gE mg)(F:bD K "mean_kinds" "mean_kinds" uT f fd)(eD:Cl P w K mg ae 3 "mean_fresh" g1 bH ["total","lacking","draws"] (C3 K)):aM P w K mg ae bo 4 f fd ["weights","draws"] (nA K):=by
 refine bG F IF fun _ _ _ _ H _ Q _ hr h=>?_;obtain⟨a,l,n,rfl,ha,hl,h0,hn,k⟩:=h;refine⟨_,(ah (az (ak eD hr (aa (aT (fg rfl) (by rfl) T.gN boot_sum (aa (pv 0) af)) (aa (pv 0) (aa (pv 1) af)))))),?_⟩;w_on;refine kf ha ?_;w_on;exact⟨l.sum,a,l,n,rfl,ha,hl.QT,h0,by omega,k⟩
def FY(K:Frag):Sp:=fun vs H Q _=>∃(a:Addr) (l:List Nat) (n:Nat),vs=[.ref a,.int n]/\aG K H a (ax l)/\e8 l/\0<l.sum/\n<=100/\∀z H',aq H H'->bF K H' z (zR l n)->Q (.ref z) H'
abbrev wC:Stmt:=top 123
theorem J4:aC ["weights","draws"] ["weights","draws"] (ay wC):=aJ
theorem J5(T:gE mg)(F:bD K "mean_even" "mean_even" wC f fd)(cN:Cl P w K mg ae 4 "mean_kinds" g1 bH ["weights","draws"] (nA K)):aM P w K mg ae bo 5 f fd ["weights","draws"] (FY K):=by
 refine bG F J4 fun _ _ _ _ H _ Q _ hr h=>?_;obtain⟨a,l,n,rfl,ha,hl,h0,hn,k⟩:=h;refine⟨_,(ah (az (ak cN hr (aa (aO qW (aK (aa ai af)) (aT a6 (by rfl) T.dZ boot_len (aa (pv 0) af))) (aa (pv 1) af))))),?_⟩;w_on;refine⟨by decide,fun p hp=>⟨_,.inl ((aq.new hp).seq ha),?_⟩⟩;rw[aX];refine CV aj (by have:=hl.jr;omega) fun q hq=>?_;have s1:aq H (upd (upd H p (.lst [.int 1])) q (.lst (List.replicate l.length (V.int 1)))):=(aq.new hp).trans (aq.new hq);refine⟨q,List.replicate l.length 1,n,rfl,aG.of (by rw[aj,yq]),KC hl,by rw[zQ];exact FK h0,hn,fun z H2 s2 hz=>k z H2 (s1.trans s2) hz⟩
def Dn(K:Frag):Sp:=fun vs H Q _=>∃(a:Addr) (l:List Nat) (n:Nat),vs=[.ref a,.int n]/\aG K H a (ax l)/\e8 l/\0<l.sum/\n<=50/\∀z H',aq H H'->bF K H' z (HW l n)->Q (.ref z) H'
abbrev uU:Stmt:=top 124
theorem IH:aC ["weights","draws"] ["weights","draws"] (ay uU):=aJ
theorem II(T:gE mg)(F:bD K "mean_added" "mean_added" uU f fd)(cN:Cl P w K mg ae 4 "mean_kinds" g1 bH ["weights","draws"] (nA K))
  (da:Cl P w K mg ae 3 "difference" g2 cp ["greater","lesser"] (CN K)):aM P w K mg ae bo 5 f fd ["weights","draws"] (Dn K):=by
 refine bG F IH fun _ _ _ _ H _ Q _ hr h=>?_;obtain⟨a,l,n,rfl,ha,hl,h0,hn,k⟩:=h;refine⟨_,(ah (az (ak da hr (aa (ak cN hr (aa (pv 0) (aa (aO dh (pv 1) ai) af))) (aa (ak cN hr (aa (pv 0) (aa (pv 1) af))) af))))),?_⟩;w_on;refine⟨a,l,n+1,by rw[Int.natCast_add];rfl,ha,hl,h0,by omega,fun z H1 s1 hz=>?_⟩;w_on;refine⟨a,l,n,rfl,s1.seq ha,hl,h0,by omega,fun y H2 s2 hy=>?_⟩;refine⟨z,y,_,_,rfl,aq.rat s2 hz,hy,Dk hl.QT h0 (by omega),Dk hl.QT h0 (by omega),fun u H3 _ s3 h3=>?_⟩;exact k u H3 ((s1.trans s2).trans s3) (bF.of h3)
def Y1(o:Option Nat):V:=match o with
 |some n=>.int (n:Int)
 |none=>.e7
def KY(K:Frag):Sp:=fun vs H Q _=>∃(x:Addr) (l:List Nat) (a b:Nat),vs=[.ref x,.int a,.int b]/\aG K H x (ax l)/\e8 l/\a<=100/\b<=100/\∀H',aq H H'->Q (Y1 (j4 l a b)) H'
theorem Dq(S n:Nat):∀l:List Nat,(((l.length:Nat):Int)*((S ^ n:Nat):Int) - (((l.map fun w=>(S - w) ^ n).sum:Nat):Int))=(((l.map fun w=>S ^ n - (S - w) ^ n).sum:Nat):Int)
 |[]=>by simp
 |a::l=>by
  have ih:=Dq S n l;have h:(S - a) ^ n<=S ^ n:=Nat.pow_le_pow_left (Nat.sub_le _ _) n;rw[List.map_cons,List.map_cons,List.sum_cons,List.sum_cons,List.length_cons,Int.natCast_add,Int.natCast_add,Int.natCast_add,Int.natCast_sub h,<- ih,Int.add_mul];generalize ((S ^ n:Nat):Int)=p;generalize (((S - a) ^ n:Nat):Int)=q;generalize ((l.length:Nat):Int)*p=r;generalize (((l.map fun w=>(S - w) ^ n).sum:Nat):Int)=u;simp;omega
theorem find_none{p:Nat->Bool}{m:Nat}(h:∀k,k<m->p k=false):(List.range m).find? p=none:=by
 rw[List.find?_eq_none];intro k hk;rw[h k (List.mem_range.mp hk)];simp
theorem Dr(S i:Nat):∀l:List Nat,((l.map fun w=>(S - w) ^ i).zip l).filterMap (fun z=>some (V.int ((z.1*(S - z.2):Nat):Int)))=ax (l.map fun w=>(S - w) ^ (i+1))
 |[]=>rfl
 |a::l=>by
  rw[List.map_cons,List.zip_cons_cons,List.filterMap_cons,Dr S i l];show V.int (((S - a) ^ i*(S - a):Nat):Int)::_=V.int (((S - a) ^ (i+1):Nat):Int)::_;rw[Nat.pow_succ];rfl
abbrev sh:Stmt:=top 125
theorem eT:aC ["weights","above","below","total","every_row","rows_without","draws","kinds_in_rows","rows","weight"] ["weights","above","below"] (ay sh):=aJ
theorem Gr(T:gE mg)(N:eV mg)(F:bD K "least_draws" "least_draws" sh f fd):aM P w K mg ae bo 1 f fd ["weights","above","below"] (KY K):=by
 refine bG F eT fun _ _ _ _ H _ Q _ hr h=>?_;obtain⟨x,l,a,b,rfl,hx,hl,ha,hb,k⟩:=h;have hs:=hl.kd;have hf:=hl.jr;refine⟨_,(ag (pz 3 eT (aT (fg rfl) (by rfl) T.gN boot_sum (aa (pv 0) af)))
  (ag (pz 4 eT ai)
  (ag (pz 5 eT (aO qW (aK (aa ai af)) (aT a6 (by rfl) T.dZ boot_len (aa (pv 0) af))))
  (ag (fQ PassesOwn.never rfl (eK rfl T.gA (aa (aO dh (aU N.Iw) ai) af)) (qz 6 eT)
   (ag (pz 7 eT (aO dU (aO cM (aT a6 (by rfl) T.dZ boot_len (aa (pv 0) af)) (pv 4)) (aT (fg rfl) (by rfl) T.gN boot_sum (aa (pv 5) af))))
  (ag (a9 (aP OA (aO cM (pv 7) (pv 2)) (aO cM (pv 1) (pv 4)) (aV _))
   (ah (az (pv 6)))
   aI)
  (ag (j2 (i:=5) rfl eT.nd rfl rfl rfl (zN rfl T.Eu (aa (pv 5) (aa (pv 0) af))) (c7 (own:=[("rows",8),("weight",9)]) (by rfl)) (fun _ _ _ _ _=>(u7 (K:=K) (n:=2) rfl rfl (eJ (qz 8 eT) (eJ (qz 9 eT) lH)))) (fun _ _ _ _ _=>fq) (fun _ _ _ _ _=>(aO cM (pv 8) (aO dU (pv 3) (pv 9)))))
  (ah (pz 4 eT (aO cM (pv 4) (pv 3))))))))
  (ah (az ck)))))),?_⟩
 w_on;refine kf hx ?_;w_on;refine⟨by decide,fun p hp=>⟨_,.inl ((aq.new hp).seq hx),?_⟩⟩;rw[aX];refine CV aj (by omega) fun q hq=>?_;have s1:aq H (upd (upd H p (.lst [.int 1])) q (.lst (List.replicate l.length (V.int 1)))):=(aq.new hp).trans (aq.new hq);w_on;refine kY 400 (by decide) (fun R r=>by w_on;exact r)
  (fun i σ H'=>aq H H'/\(∀j,j<i->¬a*l.sum ^ j<=b*(l.map fun w=>l.sum ^ j - (l.sum - w) ^ j).sum)/\∃r v6 v7,σ=[some (.ref x),some (.int (a:Int)),some (.int (b:Int)),some (.int (l.sum:Nat)),some (.int ((l.sum ^ i:Nat):Int)),some (.ref r),v6,v7,none,none]/\H' r=some (.lst (ax (l.map fun w=>(l.sum - w) ^ i))))
  ⟨s1,fun j hj=>by omega,q,_,_,rfl,?_⟩ ?_ ?_
 ·rw[aj];have:(l.map fun w=>(l.sum - w) ^ 0)=List.replicate l.length 1:=by
   rw[List.eq_replicate_iff];refine⟨by simp,fun y hy=>?_⟩;obtain⟨w,_,rfl⟩:=List.mem_map.mp hy;exact Nat.pow_zero _
  rw[this,yq]
 ·rintro i σ H' hi ⟨s2,mQ,r,v6,v7,rfl,hr'⟩;w_on;refine⟨_,.inl (s2.seq hx),?_⟩;rw[aX];w_on;refine⟨.inl (by omega),kf (aG.of hr') ?_⟩;w_on;rw[Dq];refine⟨.inr (by omega),.inl (by omega),?_⟩;rw[<- Int.natCast_mul,<- Int.natCast_mul];by_cases h1:a*l.sum ^ i<=b*(l.map fun w=>l.sum ^ i - (l.sum - w) ^ i).sum
  ·rw[if_pos (by rw[Nat.mul_comm _ b];omega)];have e:j4 l a b=some i:=by
    unfold j4;exact tL hi (decide_eq_true h1) (fun j hj=>decide_eq_false (mQ j hj))
   have k:=k H' s2;rw[e]at k;exact k
  rw[if_neg (by rw[Nat.mul_comm _ b];omega)];w_on;refine KJ (l.map fun w=>(l.sum - w) ^ i) l (fun(n:Nat)=>V.int (n:Int)) (fun(n:Nat)=>V.int (n:Int)) (fun y z=>some (V.int ((y*(l.sum - z):Nat):Int))) (fun R r=>by w_on;exact r) (aG.of hr') (s2.seq hx) (by simp;omega) (by simp) (fun y z H5 Ry Rn hyz s5 h1 h2=>?_) (fun D H5 hD s5 h5=>?_)
  ·have hz:z<=l.sum:=yg (List.of_mem_zip hyz).2;w_on;refine⟨.inr (by omega),h1 _ _ (aq.refl _) ?_⟩;rw[Int.natCast_mul,Int.natCast_sub hz]
  rw[Dr]at h5;w_on;refine⟨.inr (by omega),s2.trans s5,fun j hj=>?_,?_⟩
  ·by_cases Lw:j=i
   ·rw[Lw];exact h1
   exact mQ j (by omega)
  refine⟨?_,h5⟩;rw[Nat.pow_succ,Int.natCast_mul]
 rintro σ H' ⟨s2,mQ,r,v6,v7,rfl,hr'⟩;w_on;have e:j4 l a b=none:=by
  unfold j4;exact find_none fun j hj=>decide_eq_false (mQ j hj)
 have k:=k H' s2;rw[e]at k;exact k
theorem KZ(l:List Nat)(a:Nat):lg (ax l) (some (a:Int)) none=ax (l.drop a):=by
 unfold lg;rw[HT.HC,HT.Sk,aX];unfold ax;rw[<- List.map_drop,<- List.map_take]
 congr 1
 by_cases h:a<=l.length
 ·rw[Nat.min_eq_left h,List.take_of_length_le (by rw[List.length_drop];exact Nat.le_refl _)]
 rw[Nat.min_eq_right (by omega),Nat.sub_self,List.take_zero,List.drop_eq_nil_of_le (by omega)]
theorem Ds(l:List Nat)(a b:Nat):lg (ax l) (some (a:Int)) (some (b:Int))=ax ((l.drop a).take (b - a)):=by
 unfold lg;rw[HT.HC,HT.HC,aX];unfold ax;rw[<- List.map_drop,<- List.map_take]
 congr 1
 by_cases h:a<=l.length
 ·rw[Nat.min_eq_left h];by_cases h2:b<=l.length
  ·rw[Nat.min_eq_left h2]
  rw[Nat.min_eq_right (by omega),List.take_of_length_le (by rw[List.length_drop];exact Nat.le_refl _),List.take_of_length_le (by rw[List.length_drop];omega)]
 have h1:l.drop (min a l.length)=[]:=List.drop_eq_nil_of_le (by omega);have h2:l.drop a=[]:=List.drop_eq_nil_of_le (by omega);rw[h1,h2,List.take_nil,List.take_nil]
theorem atK{l:List Nat}(i:Nat){j:Int}(e:j=(i:Int))(h:i<l.length):cW (ax l) j=some (V.int ((l.getD i 0:Nat):Int)):=by rw[e];exact du h
theorem pF{a d n:Nat}(ha:a<=20)(hd:d<=5)(hn:n<=8):rising a d n<2 ^ 60:=by
 have h1:n*d<=8*5:=Nat.mul_le_mul hn hd;have h2:=O2 (a:=a) (d:=d) (k:=n) (b:=60) (by omega);have h3:(60:Nat) ^ n<=60 ^ 8:=Nat.pow_le_pow_right (by decide) hn;have h4:(60:Nat) ^ 8<2 ^ 60:=by decide +kernel
 omega
theorem gb{n:Nat}(h:n<2 ^ 60):n<2 ^ 1900:=Nat.lt_trans h (Nat.pow_lt_pow_right (by decide) (by decide))
theorem sum2(u v:Nat):([u,v]:List Nat).sum=u+v:=by simp
def vj:Sp:=fun vs H Q _=>∃b d n:Nat,vs=[.int b,.int d,.int n]/\b<=1000/\d<=1000/\n<=1000/\Q (.int ((rising b d n:Nat):Int)) H
abbrev si:Stmt:=top 159
theorem l5:aC ["balls","more","draws","heavy","step"] ["balls","more","draws"] (ay si):=aJ
theorem Gs(T:gE mg)(F:bD K "heavy_draws" "heavy_draws" si f fd):aM P w K mg ae bo 1 f fd ["balls","more","draws"] vj:=by
 refine bG F l5 fun _ _ _ _ H _ Q _ hr h=>?_;obtain⟨b,d,n,rfl,hb,hd,hn,k⟩:=h;refine⟨_,(ag (pz 3 l5 ai)
  (ag (fQ PassesOwn.never rfl (eK rfl T.gA (aa (pv 2) af)) (qz 4 l5)
   (ah (pz 3 l5 (aO cM (pv 3) (aO dh (pv 0) (aO cM (pv 1) (pv 4)))))))
  (ah (az (pv 3))))),?_⟩
 w_on;refine kY n (by omega) (fun R r=>by w_on;exact r) (fun i σ H'=>H'=H/\∃v:Option V,σ=[some (.int (b:Int)),some (.int (d:Int)),some (.int (n:Int)),some (.int ((rising b d i:Nat):Int)),v]) ⟨rfl,_,rfl⟩ ?_ ?_
 ·rintro i σ H' hi ⟨rfl,v,rfl⟩;w_on;have h1:d*i<=1000*1000:=Nat.mul_le_mul hd (by omega);rw[<- Int.natCast_mul d i];refine⟨.inl (by omega),.inr (by omega),?_⟩;rw[mX,Nat.mul_comm i d];simp only[Int.natCast_mul,Int.natCast_add]
 rintro σ H' ⟨rfl,v,rfl⟩;w_on;exact k
structure Ub(d u v:Nat):Prop where
 d:d<=5
 u:u<=10
 v:v<=10
def E8(K:Frag):Sp:=fun vs H Q _=>∃(d u v a b:Nat) (x y:Addr),vs=[.int d,.ref x,.ref y]/\aG K H x (ax [u,v])/\aG K H y (ax [a,b])/\Ub d u v/\a<=8/\b<=8/\Q (.int ((rising u d a*rising v d b:Nat):Int)) H
abbrev wD:Stmt:=top 160
theorem J6:aC ["more","balls","times"] ["more","balls","times"] (ay wD):=aJ
theorem J7(F:bD K "heavy_row" "heavy_row" wD f fd)(cy:Cl P w K mg ae 1 "heavy_draws" g1 bH ["balls","more","draws"] vj):aM P w K mg ae bo 2 f fd ["more","balls","times"] (E8 K):=by
 refine bG F J6 fun _ _ _ _ H _ Q _ hr h=>?_;obtain⟨d,u,v,a,b,x,y,rfl,hx,hy,hU,ha,hb,k⟩:=h;have h1:=hU.d;have h2:=hU.u;have h3:=hU.v;refine⟨_,(ah (az (aO cM (ak cy hr (aa (aD aA (pv 1) ai (fun _ _=>rfl)) (aa (pv 0) (aa (aD aA (pv 2) ai (fun _ _=>rfl)) af)))) (ak cy hr (aa (aD aA (pv 1) ai (fun _ _=>rfl)) (aa (pv 0) (aa (aD aA (pv 2) ai (fun _ _=>rfl)) af))))))),?_⟩;w_on;refine bq hx (ng u v) ?_;w_on;refine bq hy (ng a b) ?_;w_on;refine⟨u,d,a,rfl,by omega,by omega,by omega,?_⟩;w_on;refine bq hx (nh u v) ?_;w_on;refine bq hy (nh a b) ?_;w_on;refine⟨v,d,b,rfl,by omega,by omega,by omega,?_⟩;w_on;have h4:=pF (a:=u) (d:=d) (n:=a) (by omega) h1 ha;refine⟨.inl (by omega),?_⟩;rw[<- Int.natCast_mul];exact k
def wF(K:Frag):Sp:=fun vs H Q _=>∃(d u v:Nat) (x y:Addr) (r:List Nat),vs=[.int d,.ref x,.ref y]/\aG K H x (ax [u,v])/\aG K H y (ax r)/\Ub d u v/\0<u+v/\r.length<=8/\∀z H',aq H H'->bF K H' z (CL d u v r)->Q (.ref z) H'
abbrev uV:Stmt:=top 161
theorem yK:aC ["more","balls","row","heavy"] ["more","balls","row"] (ay uV):=aJ
theorem IJ(T:gE mg)(F:bD K "likely_row" "likely_row" uV f fd)(iY:Cl P w K mg ae 2 "heavy_row" g1 bH ["more","balls","times"] (E8 K))
  (cy:Cl P w K mg ae 1 "heavy_draws" g2 cp ["balls","more","draws"] vj)(aF:Cl P w K mg ae 2 "fraction" g3 c4 ["above","below"] (gy K)):aM P w K mg ae bo 3 f fd ["more","balls","row"] (wF K):=by
 refine bG F yK fun _ _ _ _ H _ Q _ hr h=>?_;obtain⟨d,u,v,x,y,r,rfl,hx,hy,hU,h0,hl,k⟩:=h;have h1:=hU.d;have h2:=hU.u;have h3:=hU.v;have c0:r.count 0<=r.length:=List.count_le_length;have c1:r.count 1<=r.length:=List.count_le_length;refine⟨_,(ag (pz 3 yK (ak iY hr (aa (pv 0) (aa (pv 1) (aa (aK (aa (uA PySem.F.plainAttrs_list PySem.F.slot_list_count PySem.F.type_list_count KS (pv 2) (aa ai af)) (aa (uA PySem.F.plainAttrs_list PySem.F.slot_list_count PySem.F.type_list_count KS (pv 2) (aa ai af)) af))) af)))))
  (ah (az (ak aF hr (aa (pv 3) (aa (ak cy hr (aa (aT (fg rfl) (by rfl) T.gN boot_sum (aa (pv 1) af)) (aa (pv 0) (aa (aT a6 (by rfl) T.dZ boot_len (aa (pv 2) af)) af)))) af)))))),?_⟩
 w_on;refine⟨.inl ⟨rfl,_,hy⟩,y,r,0,rfl,rfl,hy,?_⟩;w_on;refine⟨.inl ⟨rfl,_,hy⟩,y,r,1,rfl,rfl,hy,?_⟩;w_on;refine⟨by decide,fun p hp=>?_⟩;have s1:aq H (upd H p (.lst [V.int ((r.count 0:Nat):Int),V.int ((r.count 1:Nat):Int)])):=aq.new hp;refine⟨d,u,v,r.count 0,r.count 1,x,p,rfl,s1.seq hx,aG.of aj,hU,by omega,by omega,?_⟩;w_on;refine kf (s1.seq hx) ?_;rw[sum2];w_on;refine⟨_,.inl (s1.seq hy),?_⟩;rw[aX];w_on;refine⟨u+v,d,r.length,rfl,by omega,by omega,by omega,?_⟩;w_on;refine⟨_,rising (u+v) d r.length,rfl,iS h0 _ _,jj (gb (pF (by omega) h1 hl)),fun z H2 _ s2 h4=>?_⟩;exact k z H2 (s1.trans s2) (bF.of h4)
theorem Dt{u v i:Nat}(h:i<2):cW (ax [u,v]) (i:Int)=some (V.int ((lM u v i:Nat):Int)):=by
 match i,h with
 |0,_=>rfl
 |1,_=>rfl
def Du(K:Frag):Sp:=fun vs H Q _=>∃(d u v i n:Nat) (x:Addr),vs=[.int d,.ref x,.int i,.int n]/\aG K H x (ax [u,v])/\Ub d u v/\i<2/\n<=8/\∀z H',H z=none->aq H H'->H' z=some (.lst (ax (tab (kX d u v i n) n)))->Q (.ref z) H'
theorem IK{d u v:Nat}(h:Ub d u v)(i:Nat):lM u v i<=10:=by
 unfold lM;split
 ·exact h.u
 exact h.v
abbrev oS:Stmt:=top 162
theorem kg:aC ["more","balls","colour","draws","turned","times"] ["more","balls","colour","draws"] (ay oS):=aJ
theorem Dv(T:gE mg)(F:bD K "rows_by_times" "rows_by_times" oS f fd)(iY:Cl P w K mg ae 2 "heavy_row" g1 bH ["more","balls","times"] (E8 K))
  (cv:Cl P w K mg ae 1 "choices" g2 cp ["many","few"] ku):aM P w K mg ae bo 3 f fd ["more","balls","colour","draws"] (Du K):=by
 refine bG F kg fun _ _ _ _ H _ Q _ hr h=>?_;obtain⟨d,u,v,i,n,x,rfl,hx,hU,hi,hn,k⟩:=h;refine⟨_,(ag (pz 4 kg (aK (aa (aD aA (pv 1) (pv 2) (fun _ _=>rfl)) (aa (aD aA (pv 1) (aO dU ai (pv 2)) (fun _ _=>rfl)) af))))
  (ah (az (lh rfl kg.nd (eK rfl T.gA (aa (aO dh (pv 3) ai) af)) (c7 (own:=[("times",5)]) (by rfl)) (fun _ _ _ _ _=>(qz 5 kg)) (fun _ _ _ _ _=>fq) (fun _ _ _ _ _=>(aO cM (ak cv hr (aa (pv 3) (aa (pv 5) af))) (ak iY hr (aa (pv 0) (aa (pv 4) (aa (aK (aa (pv 5) (aa (aO dU (pv 3) (pv 5)) af))) af)))))))))),?_⟩
 w_on;refine bq hx (Dt hi) ?_;w_on;rw[show(1:Int) - (i:Int)=((1 - i:Nat):Int)by omega];refine bq hx (Dt (by omega)) ?_;w_on;refine⟨by decide,fun p hp=>?_⟩;have s1:aq H (upd H p (.lst [V.int ((lM u v i:Nat):Int),V.int ((lM u v (1 - i):Nat):Int)])):=aq.new hp;refine Qr (n:=n+1) (fun R r=>by w_on;rw[show(n:Int)+1=((n+1:Nat):Int)by omega];exact r) (by omega) (fun k=>some (V.int ((kX d u v i n k:Nat):Int))) (fun j H3 Ry Rn hj s3 h1 h2=>?_) (fun D H3 hD s3 h3=>?_)
 ·w_on;refine⟨n,j,rfl,by omega,by omega,?_⟩;w_on;refine⟨by decide,fun q hq=>?_⟩;refine⟨d,lM u v i,lM u v (1 - i),j,n - j,p,q,rfl,aG.of ((aq.new hq) _ _ (s3 _ _ aj)),aG.of ?_,⟨hU.d,IK hU i,IK hU (1 - i)⟩,by omega,by omega,?_⟩
  ·rw[aj];show some (HO.lst [V.int (j:Int),V.int ((n:Int) - (j:Int))])=some (HO.lst [V.int (j:Int),V.int ((n - j:Nat):Int)]);rw[Int.natCast_sub (by omega)]
  have hc:=iz (n:=n) (k:=j) (by omega) (by omega);w_on;refine⟨.inl (by omega),h1 _ _ (aq.new hq) ?_⟩;rw[<- Int.natCast_mul];rfl
 rw[pK]at h3;exact k D H3 (s1.free hD) (s1.trans s3) h3
def BU(K:Frag):Sp:=fun vs H Q _=>∃(d u v i n m:Nat) (x:Addr),vs=[.int d,.ref x,.int i,.int n,.int m]/\aG K H x (ax [u,v])/\Ub d u v/\0<u+v/\i<2/\n<=8/\∀z H',aq H H'->bF K H' z (mY d u v i n m)->Q (.ref z) H'
abbrev qt:Stmt:=top 163
theorem vk:aC ["more","balls","colour","draws","times","rows"] ["more","balls","colour","draws","times"] (ay qt):=aJ
theorem E9(T:gE mg)(F:bD K "likely_times" "likely_times" qt f fd)(dz:Cl P w K mg ae 3 "rows_by_times" g1 bH ["more","balls","colour","draws"] (Du K))
  (cy:Cl P w K mg ae 1 "heavy_draws" g2 cp ["balls","more","draws"] vj)(aF:Cl P w K mg ae 2 "fraction" g3 c4 ["above","below"] (gy K)):aM P w K mg ae bo 4 f fd ["more","balls","colour","draws","times"] (BU K):=by
 refine bG F vk fun _ _ _ _ H _ Q _ hr h=>?_;obtain⟨d,u,v,i,n,m,x,rfl,hx,hU,h0,hi,hn,k⟩:=h;have h1:=hU.d;have h2:=hU.u;have h3:=hU.v;refine⟨_,(ag (a9 (aP fR (pv 4) (pv 3) (aV _))
   (ah (az (mW (aa ai (aa ai af)))))
   aI)
  (ag (pz 5 vk (ak dz hr (aa (pv 0) (aa (pv 1) (aa (pv 2) (aa (pv 3) af))))))
  (ah (az (ak aF hr (aa (aD aA (pv 5) (pv 4) (fun _ _=>rfl)) (aa (ak cy hr (aa (aT (fg rfl) (by rfl) T.gN boot_sum (aa (pv 1) af)) (aa (pv 0) (aa (pv 3) af)))) af))))))),?_⟩
 w_on;by_cases hm:n<m
 ·rw[if_pos (by omega)];have e:mY d u v i n m=0:=by
   unfold mY;rw[if_pos hm];exact Rat.zero_mkRat _
  rw[e]at k;exact⟨by decide,fun z hz=>k z _ (aq.new hz) (bF.zero aj)⟩
 rw[if_neg (by omega)];have e:mY d u v i n m=mkRat ((kX d u v i n m:Nat):Int) (rising (u+v) d n):=by
  unfold mY;rw[if_neg hm]
 rw[e]at k;refine⟨d,u,v,i,n,x,rfl,hx,hU,hi,hn,fun z H1 _ s1 hz=>?_⟩;w_on;refine bq (aG.of hz) (by rw[du (by rw[gB];omega),rp _ _ _ (by omega)]) ?_;w_on;refine kf (s1.seq hx) ?_;rw[sum2];w_on;refine⟨u+v,d,n,rfl,by omega,by omega,by omega,?_⟩;w_on;refine⟨_,rising (u+v) d n,rfl,iS h0 _ _,jj (gb (pF (by omega) h1 hn)),fun z H2 _ s2 h4=>?_⟩;exact k z H2 (s1.trans s2) (bF.of h4)
def RP(K:Frag):Sp:=fun vs H Q _=>∃(d u v n:Nat) (x:Addr),vs=[.int d,.ref x,.int n]/\aG K H x (ax [u,v])/\Ub d u v/\0<u+v/\n<=8/\∀z H',aq H H'->bF K H' z (Nf d u v n)->Q (.ref z) H'
abbrev kH:Stmt:=top 164
theorem ou:aC ["more","balls","draws","heavy"] ["more","balls","draws"] (ay kH):=aJ
theorem xE(T:gE mg)(F:bD K "likely_one_colour" "likely_one_colour" kH f fd)
  (cy:Cl P w K mg ae 1 "heavy_draws" g2 cp ["balls","more","draws"] vj)(aF:Cl P w K mg ae 2 "fraction" g3 c4 ["above","below"] (gy K)):aM P w K mg ae bo 3 f fd ["more","balls","draws"] (RP K):=by
 refine bG F ou fun _ _ _ _ H _ Q _ hr h=>?_;obtain⟨d,u,v,n,x,rfl,hx,hU,h0,hn,k⟩:=h;have h1:=hU.d;have h2:=hU.u;have h3:=hU.v;refine⟨_,(ag (a9 (aP iE (pv 2) ai (aV _))
   (ah (az (mW (aa ai (aa ai af)))))
   aI)
  (ag (pz 3 ou (aO dh (ak cy hr (aa (aD aA (pv 1) ai (fun _ _=>rfl)) (aa (pv 0) (aa (pv 2) af)))) (ak cy hr (aa (aD aA (pv 1) ai (fun _ _=>rfl)) (aa (pv 0) (aa (pv 2) af))))))
  (ah (az (ak aF hr (aa (pv 3) (aa (ak cy hr (aa (aT (fg rfl) (by rfl) T.gN boot_sum (aa (pv 1) af)) (aa (pv 0) (aa (pv 2) af)))) af))))))),?_⟩
 w_on;refine⟨dv _ _,?_⟩;unfold Nf at k;by_cases hm:n=0
 ·rw[if_pos hm]at k;rw[if_pos (by omega)];exact⟨by decide,fun z hz=>k z _ (aq.new hz) (bF.one aj)⟩
 rw[if_neg hm]at k;rw[if_neg (by omega)];refine bq hx (ng u v) ?_;w_on;refine⟨u,d,n,rfl,by omega,by omega,by omega,?_⟩;w_on;refine bq hx (nh u v) ?_;w_on;refine⟨v,d,n,rfl,by omega,by omega,by omega,?_⟩;w_on;refine kf hx ?_;rw[sum2];w_on;refine⟨u+v,d,n,rfl,by omega,by omega,by omega,?_⟩;w_on;refine⟨_,rising (u+v) d n,rfl,iS h0 _ _,jj (gb (pF (by omega) h1 hn)),fun z H2 _ s2 h4=>?_⟩;rw[<- Int.natCast_add]at h4;exact k z H2 s2 (bF.of h4)
def NS(K:Frag):Sp:=fun vs H Q _=>∃(u v i n:Nat) (x:Addr),vs=[.ref x,.int i,.int n]/\aG K H x (ax [u,v])/\u<=10/\v<=10/\0<u+v/\i<2/\n<=1000/\∀z H',aq H H'->bF K H' z (mkRat ((n*lM u v i:Nat):Int) (u+v))->Q (.ref z) H'
abbrev uW:Stmt:=top 165
theorem IL:aC ["balls","colour","draws"] ["balls","colour","draws"] (ay uW):=aJ
theorem IM(T:gE mg)(F:bD K "mean_times" "mean_times" uW f fd)(aF:Cl P w K mg ae 2 "fraction" g3 c4 ["above","below"] (gy K)):aM P w K mg ae bo 3 f fd ["balls","colour","draws"] (NS K):=by
 refine bG F IL fun _ _ _ _ H _ Q _ hr h=>?_;obtain⟨u,v,i,n,x,rfl,hx,hu,hv,h0,hi,hn,k⟩:=h;refine⟨_,(ah (az (ak aF hr (aa (aO cM (pv 2) (aD aA (pv 0) (pv 1) (fun _ _=>rfl))) (aa (aT (fg rfl) (by rfl) T.gN boot_sum (aa (pv 0) af)) af))))),?_⟩;w_on;refine bq hx (Dt hi) ?_;w_on;refine⟨.inl (by omega),kf hx ?_⟩;rw[sum2,<- Int.natCast_mul];w_on;refine⟨_,u+v,rfl,h0,jj (gb (by omega)),fun z H2 _ s2 h4=>?_⟩;exact k z H2 s2 (bF.of h4)
def NT(K:Frag):Sp:=fun vs H Q _=>∃(d u v i n:Nat) (x:Addr),vs=[.int d,.ref x,.int i,.int n]/\aG K H x (ax [u,v])/\Ub d u v/\0<u+v/\i<2/\n<=1000/\∀z H',aq H H'->bF K H' z (mkRat ((lM u v i*(u+v+d*n):Nat):Int) (u+v))->Q (.ref z) H'
abbrev uX:Stmt:=top 166
theorem IP:aC ["more","balls","colour","draws"] ["more","balls","colour","draws"] (ay uX):=aJ
theorem IQ(T:gE mg)(F:bD K "mean_balls" "mean_balls" uX f fd)(aF:Cl P w K mg ae 2 "fraction" g3 c4 ["above","below"] (gy K)):aM P w K mg ae bo 3 f fd ["more","balls","colour","draws"] (NT K):=by
 refine bG F IP fun _ _ _ _ H _ Q _ hr h=>?_;obtain⟨d,u,v,i,n,x,rfl,hx,hU,h0,hi,hn,k⟩:=h;have h1:=hU.d;have h2:=hU.u;have h3:=hU.v;have hb:=IK hU i;refine⟨_,(ah (az (ak aF hr (aa (aO cM (aD aA (pv 1) (pv 2) (fun _ _=>rfl)) (aO dh (aT (fg rfl) (by rfl) T.gN boot_sum (aa (pv 1) af)) (aO cM (pv 0) (pv 3)))) (aa (aT (fg rfl) (by rfl) T.gN boot_sum (aa (pv 1) af)) af))))),?_⟩;w_on;refine bq hx (Dt hi) ?_;w_on;refine kf hx ?_;rw[sum2];w_on;refine⟨.inl (by omega),.inl (by omega),kf hx ?_⟩;rw[sum2,<- Int.natCast_mul d n,<- Int.natCast_add (u+v),<- Int.natCast_mul];w_on;refine⟨_,u+v,rfl,h0,jj (gb (by omega)),fun z H2 _ s2 h4=>?_⟩;exact k z H2 s2 (bF.of h4)
noncomputable def yL(g u v:Nat):Option Int:=if 5<g∨10<u∨10<v then some (-22)else if u+v=0 then some (-6)else none
theorem vm{g u v:Nat}{e:Int}{body:List Int}(h:yL g u v=some e):gF g u v body=[e]:=by
 unfold yL at h;unfold gF;by_cases h1:5<g∨10<u∨10<v
 ·rw[if_pos h1]at h ⊢;rw[<- Option.some.inj h]
 rw[if_neg h1]at h ⊢;by_cases h2:u+v=0
 ·rw[if_pos h2]at h ⊢;rw[<- Option.some.inj h]
 rw[if_neg h2]at h;cases h
theorem oT{g u v:Nat}(h:yL g u v=none):Ub g u v/\0<u+v/\∀body,gF g u v body=body:=by
 unfold yL at h;unfold gF;by_cases h1:5<g∨10<u∨10<v
 ·rw[if_pos h1]at h;cases h
 rw[if_neg h1]at h;by_cases h2:u+v=0
 ·rw[if_pos h2]at h;cases h
 exact⟨⟨by omega,by omega,by omega⟩,by omega,fun body=>by rw[if_neg h1,if_neg h2]⟩
noncomputable def IS(g u v:Nat)(ks:List Nat):Option Int:=match yL g u v with
 |some e=>some e
 |none=>if ¬(∀k∈ks,k<2)then some (-2)else none
noncomputable def Fb(g u v i n most:Nat):Option Int:=match IS g u v [i]with
 |some e=>some e
 |none=>if most<n then some (-22)else none
noncomputable def rj(g u v i n most:Nat)(body:List Int):List Int:=gF g u v (if ¬i<2 then[-2]else if most<n then[-22]else body)
theorem vn{g u v i n most:Nat}{e:Int}{body:List Int}(h:Fb g u v i n most=some e):rj g u v i n most body=[e]:=by
 unfold Fb IS at h;unfold rj;cases h1:yL g u v with
 |some e'=>
  rw[h1]at h;cases h;exact vm h1
 |none=>
  rw[h1]at h;rw[(oT h1).2.2];simp only[List.mem_singleton,forall_eq]at h;by_cases h2:i<2
  ·rw[if_neg (fun q=>q h2)]at h;rw[if_neg (fun q=>q h2)];simp only[]at h;by_cases h3:most<n
   ·rw[if_pos h3]at h ⊢;rw[<- Option.some.inj h]
   rw[if_neg h3]at h;cases h
  rw[if_pos h2]at h ⊢;simp only[]at h;rw[<- Option.some.inj h]
theorem vo{g u v i n most:Nat}(h:Fb g u v i n most=none):Ub g u v/\0<u+v/\i<2/\n<=most/\∀body,rj g u v i n most body=body:=by
 unfold Fb IS at h;unfold rj;cases h1:yL g u v with
 |some e'=>
  rw[h1]at h;cases h
 |none=>
  rw[h1]at h;obtain⟨b1,b2,b3⟩:=oT h1;simp only[List.mem_singleton,forall_eq]at h;by_cases h2:i<2
  ·rw[if_neg (fun q=>q h2)]at h;simp only[]at h;by_cases h3:most<n
   ·rw[if_pos h3]at h;cases h
   exact⟨b1,b2,h2,by omega,fun body=>by rw[b3,if_neg (fun q=>q h2),if_neg h3]⟩
  rw[if_pos h2]at h;cases h
noncomputable def jm(K:Frag)(n:Nat)(f:List Nat->List Int):Sp:=fun vs H Q _=>∃(g:Addr) (args:List Nat),vs=[.ref g]/\aG K H g (ax args)/\args.length=n/\∀z H',H z=none->aq H H'->H' z=some (.lst (c9 (f args)))->Q (.ref z) H'
noncomputable def IT:Sp:=fun vs H Q _=>∃n:Nat,vs=[.int n]/\Q (.bl (decide (n<2))) H
noncomputable abbrev wG:Stmt:=top 174
theorem J8:aC ["number"] ["number"] (ay wG):=aJ
theorem J9(N:eV mg)(F:bD K "is_colour" "is_colour" wG f fd):aM P w K mg ae bo 1 f fd ["number"] IT:=by
 refine bG F J8 fun _ _ _ _ H _ Q _ hr h=>?_;obtain⟨n,rfl,k⟩:=h;refine⟨_,(ah (az (rE xW (pv 0) (aU N.QD) (aV _)))),?_⟩;w_on;rw[decide_eq_decide.mpr (show((n:Int)<2)↔n<2 by omega)];exact k
noncomputable def Dx(K:Frag):Sp:=fun vs H Q _=>∃(a:Addr) (g u v:Nat) (rest:List Nat),vs=[.ref a]/\aG K H a (ax (g::u::v::rest))/\ot (yL g u v) H Q
noncomputable abbrev sj:Stmt:=top 175
theorem Gu:aC ["given"] ["given"] (ay sj):=aJ
theorem Gv(N:eV mg)(F:bD K "refused_urn" "refused_urn" sj f fd):aM P w K mg ae bo 1 f fd iD (Dx K):=by
 refine bG F Gu fun _ _ _ _ H _ Q _ hr h=>?_;obtain⟨a,g,u,v,rest,rfl,hg,k⟩:=h;unfold ot yL at k;have i0:cW (ax (g::u::v::rest)) 0=some (V.int (g:Int)):=atK 0 rfl (by simp);have i1:cW (ax (g::u::v::rest)) 1=some (V.int (u:Int)):=atK 1 rfl (by simp);have i2:cW (ax (g::u::v::rest)) 2=some (V.int (v:Int)):=atK 2 rfl (by simp);refine⟨_,(ag (a9 (PW.pt (pW (aP fR (aD aA (pv 0) ai (fun _ _=>rfl)) (aU N.LG) (aV _)) (pW (aP fR (aD aA (pv 0) ai (fun _ _=>rfl)) (aU N.AZ) (aV _)) (mS (aP fR (aD aA (pv 0) ai (fun _ _=>rfl)) (aU N.AZ) (aV _))))))
   (ah (az (aK (aa (aU N.cx) af))))
   aI)
  (ag (a9 (aP iE (aO dh (aD aA (pv 0) ai (fun _ _=>rfl)) (aD aA (pv 0) ai (fun _ _=>rfl))) ai (aV _))
   (ah (az (aK (aa (aU N.NF) af))))
   aI)
  (ah (az ck)))),?_⟩
 w_on;refine bq hg i0 ?_;w_on;have no:5<g∨10<u∨10<v->∀z,H z=none->Q (.ref z) (upd H z (.lst [.int (-22)])):=fun q z hz=>by
  rw[if_pos q]at k;exact k.1 _ rfl z _ hz (aq.new hz) aj
 by_cases h1:5<g
 ·rw[if_pos (by omega)];w_on;exact⟨by decide,no (.inl h1)⟩
 rw[if_neg (by omega)];refine bq hg i1 ?_;w_on;by_cases h2:10<u
 ·rw[if_pos (by omega)];w_on;exact⟨by decide,no (.inr (.inl h2))⟩
 rw[if_neg (by omega)];refine bq hg i2 ?_;w_on;by_cases h3:10<v
 ·rw[if_pos (by omega)];exact⟨by decide,no (.inr (.inr h3))⟩
 rw[if_neg (by omega)];rw[if_neg (by omega)]at k;refine bq hg i1 ?_;w_on;refine bq hg i2 ?_;w_on;refine⟨dv _ _,?_⟩;by_cases h4:u+v=0
 ·rw[if_pos h4]at k;rw[if_pos (by omega)];exact⟨by decide,fun z hz=>k.1 _ rfl z _ hz (aq.new hz) aj⟩
 rw[if_neg h4]at k;rw[if_neg (by omega)];exact k.2 rfl H (aq.refl _)
noncomputable def LU(K:Frag):Sp:=fun vs H Q _=>∃(a c:Addr) (g u v:Nat) (rest ks:List Nat),vs=[.ref a,.ref c]/\aG K H a (ax (g::u::v::rest))/\aG K H c (ax ks)/\ks.length<=1000/\ot (IS g u v ks) H Q
noncomputable abbrev mr:Stmt:=top 176
theorem jv:aC ["given","colours","refused","colour"] ["given","colours"] (ay mr):=aJ
theorem Am(T:gE mg)(N:eV mg)(F:bD K "refused_colours" "refused_colours" mr f fd)(cS:Cl P w K mg ae 1 "refused_urn" g1 bH iD (Dx K))(iZ:Cl P w K mg ae 1 "is_colour" g2 cp ["number"] IT):
  aM P w K mg ae bo 2 f fd ["given","colours"] (LU K):=by
 refine bG F jv fun _ _ _ _ H _ Q _ hr h=>?_;obtain⟨a,c,g,u,v,rest,ks,rfl,hg,hc,hl,k⟩:=h;unfold ot IS at k;refine⟨_,(ag (pz 2 jv (ak cS hr (aa (pv 0) af)))
  (ag (a9 (aP cZ (pv 2) ck (aV _))
   (ah (az (pv 2)))
   aI)
  (ag (a9 (fN (eU (aT (G7 rfl) (by rfl) T.Ls boot_all (aa (lh rfl jv.nd (fm (pv 1)) (c7 (own:=[("colour",3)]) (by rfl)) (fun _ _ _ _ _=>(qz 3 jv)) (fun _ _ _ _ _=>fq) (fun _ _ _ _ _=>(ak iZ hr (aa (pv 3) af)))) af))))
   (ah (az (aK (aa (aU N.f9) af))))
   aI)
  (ah (az ck))))),?_⟩
 w_on;refine⟨a,g,u,v,rest,rfl,hg,fun e he z H1 hz s1 h1=>?_,fun he H1 s1=>?_⟩
 ·rw[he]at k;w_on;exact k.1 _ rfl z H1 hz s1 h1
 rw[he]at k;w_on;refine yi ks (fun(n:Nat)=>V.int (n:Int)) (fun(n:Nat)=>some (V.bl (decide (n<2)))) (fun R r=>by w_on;exact r) (s1.seq hc) (by omega) (fun x H3 Ry Rn hx s3 h1 h2=>?_) (fun D H3 hD s3 h3=>?_)
 ·w_on;exact⟨x,rfl,h1 _ _ (aq.refl _) rfl⟩
 w_on;rw[QP]at h3;refine⟨D,_,rfl,aG.of h3,?_⟩;rw[yz];w_on;by_cases h2:∀x∈ks,x<2
 ·rw[if_neg (fun q=>q h2)]at k;rw[if_neg (by rw[decide_eq_true h2];simp)];exact k.2 rfl H3 (s1.trans s3)
 rw[if_pos h2]at k;rw[if_pos (by rw[decide_eq_false h2];rfl)];exact⟨by decide,fun z hz=>k.1 _ rfl z _ ((s1.trans s3).free hz) ((s1.trans s3).trans (aq.new hz)) aj⟩
noncomputable def vp(K:Frag):Sp:=fun vs H Q _=>∃(a:Addr) (g u v i n most:Nat) (rest:List Nat),vs=[.ref a,.int most]/\aG K H a (ax (g::u::v::i::n::rest))/\ot (Fb g u v i n most) H Q
noncomputable abbrev iI:Stmt:=top 177
theorem kh:aC ["given","most","refused"] ["given","most"] (ay iI):=aJ
theorem rk(N:eV mg)(F:bD K "refused_draws_of_colour" "refused_draws_of_colour" iI f fd)(eQ:Cl P w K mg ae 2 "refused_colours" g1 bH ["given","colours"] (LU K)):
  aM P w K mg ae bo 3 f fd ["given","most"] (vp K):=by
 refine bG F kh fun _ _ _ _ H _ Q _ hr h=>?_;obtain⟨a,g,u,v,i,n,most,rest,rfl,hg,k⟩:=h;unfold ot Fb at k;have i4:cW (ax (g::u::v::i::n::rest)) 4=some (V.int (n:Int)):=atK 4 rfl (by simp);have ec:lg (ax (g::u::v::i::n::rest)) (some 3) (some 4)=ax [i]:=Ds _ 3 4;refine⟨_,(ag (pz 2 kh (ak eQ hr (aa (pv 0) (aa (fF gI (pv 0) (dB ai) (dB ai)) af))))
  (ag (a9 (aP cZ (pv 2) ck (aV _))
   (ah (az (pv 2)))
   aI)
  (ag (a9 (aP fR (aD aA (pv 0) ai (fun _ _=>rfl)) (pv 1) (aV _))
   (ah (az (aK (aa (aU N.cx) af))))
   aI)
  (ah (az ck))))),?_⟩
 w_on;refine⟨a,_,rfl,hg,fun q hq=>?_⟩;rw[ec];have s0:aq H (upd H q (.lst (ax [i]))):=aq.new hq;refine⟨a,q,g,u,v,i::n::rest,[i],rfl,s0.seq hg,aG.of aj,by simp,fun e he z H1 hz s1 h1=>?_,fun he H1 s1=>?_⟩
 ·rw[he]at k;w_on;exact k.1 _ rfl z H1 (s0.free hz) (s0.trans s1) h1
 rw[he]at k;have s2:=s0.trans s1;w_on;refine bq (s2.seq hg) i4 ?_;w_on;by_cases h2:most<n
 ·rw[if_pos h2]at k;rw[if_pos (by omega)];exact⟨by decide,fun z hz=>k.1 _ rfl z _ (s2.free hz) (s2.trans (aq.new hz)) aj⟩
 rw[if_neg h2]at k;rw[if_neg (by omega)];exact k.2 rfl H1 s2
noncomputable def vq(g u v:Nat)(cs:List Nat):List Int:=gF g u v (if ¬(∀c∈cs,c<2)then[-2]else cH (CL g u v cs))
noncomputable def LV(K:Frag):Sp:=fun vs H Q _=>∃(a:Addr) (g u v:Nat) (cs:List Nat),vs=[.ref a]/\aG K H a (ax (g::u::v::cs))/\cs.length<=8/\∀z H',H z=none->aq H H'->H' z=some (.lst (c9 (vq g u v cs)))->Q (.ref z) H'
noncomputable abbrev jO:Stmt:=top 178
theorem jA:aC ["given","colours","refused"] ["given"] (ay jO):=aJ
theorem vt(F:bD K "answer_next_colours" "answer_next_colours" jO f fd)(eQ:Cl P w K mg ae 2 "refused_colours" g1 bH ["given","colours"] (LU K))(iB:Cl P w K mg ae 3 "likely_row" g2 cp ["more","balls","row"] (wF K))
  (aB:Cl P w K mg ae 1 "told_fraction" g3 c4 ["pair"] (gz K)):aM P w K mg ae bo 4 f fd iD (LV K):=by
 refine bG F jA fun _ _ _ _ H _ Q _ hr h=>?_;obtain⟨a,g,u,v,cs,rfl,hg,hl,k⟩:=h;have i0:cW (ax (g::u::v::cs)) 0=some (V.int (g:Int)):=atK 0 rfl (by simp);have e3:lg (ax (g::u::v::cs)) (some 3) none=ax cs:=KZ _ 3;have e13:lg (ax (g::u::v::cs)) (some 1) (some 3)=ax [u,v]:=Ds _ 1 3;refine⟨_,(ag (pz 1 jA (fF gI (pv 0) (dB ai) ya))
  (ag (pz 2 jA (ak eQ hr (aa (pv 0) (aa (pv 1) af))))
  (ag (a9 (aP cZ (pv 2) ck (aV _))
   (ah (az (pv 2)))
   aI)
  (ah (az (ak aB hr (aa (ak iB hr (aa (aD aA (pv 0) ai (fun _ _=>rfl)) (aa (fF gI (pv 0) (dB ai) (dB ai)) (aa (pv 1) af)))) af))))))),?_⟩
 w_on;refine⟨a,_,rfl,hg,fun q hq=>?_⟩;rw[e3];have s0:aq H (upd H q (.lst (ax cs))):=aq.new hq;have q0:(upd H q (.lst (ax cs))) q=some (.lst (ax cs)):=aj;generalize upd H q (.lst (ax cs))=H0 at s0 q0 ⊢;w_on;unfold vq at k;refine⟨a,q,g,u,v,cs,cs,rfl,s0.seq hg,aG.of q0,by omega,fun e he z H1 hz s1 h1=>?_,fun he H1 s1=>?_⟩
 ·unfold IS at he;w_on;refine k z H1 (s0.free hz) (s0.trans s1) ?_;rw[h1];cases h2:yL g u v with
  |some e'=>
   rw[h2]at he;cases he;rw[vm h2];rfl
  |none=>
   rw[h2]at he;rw[(oT h2).2.2];by_cases h3:¬(∀c∈cs,c<2)
   ·simp only[if_pos h3]at he;cases he;rw[if_pos h3];rfl
   simp only[if_neg h3]at he;cases he
 unfold IS at he;cases h2:yL g u v with
 |some e'=>
  rw[h2]at he;cases he
 |none=>
  rw[h2]at he;obtain⟨b1,b2,b3⟩:=oT h2;have h3:¬ ¬(∀c∈cs,c<2):=fun h3=>by simp only[if_pos h3]at he;cases he
  rw[b3,if_neg h3]at k;have s2:=s0.trans s1;w_on;refine bq (s2.seq hg) i0 ?_;w_on;refine⟨a,_,rfl,s2.seq hg,fun p hp=>?_⟩;rw[e13];have s3:aq H1 (upd H1 p (.lst (ax [u,v]))):=aq.new hp;w_on;refine⟨g,u,v,p,q,cs,rfl,aG.of aj,aG.of (s3 _ _ (s1 _ _ q0)),b1,b2,hl,fun z1 H4 s4 gC=>?_⟩;exact⟨z1,_,rfl,gC,fun z2 H5 hz2 s5 h5=>k z2 H5 (((s2.trans s3).trans s4).free hz2) (((s2.trans s3).trans s4).trans s5) h5⟩
theorem Tt{k:Nat}(h:aM P w K mg ae bo k f fd iD (LV K)):aM P w K mg ae bo k f fd iD (jm K 4 fun l=>UU (l.getD 0 0) (l.getD 1 0) (l.getD 2 0) (l.getD 3 0)):=h.imp fun vs H Q E q=>by
 obtain⟨a,args,rfl,hg,hn,k⟩:=q;obtain⟨g,u,v,i,rfl⟩:=iF hn;refine⟨a,g,u,v,[i],rfl,hg,by simp,fun z H' h1 h2 h3=>k z H' h1 h2 ?_⟩;rw[h3];have e:vq g u v [i]=UU g u v i:=by
  unfold vq UU;simp only[List.mem_singleton,forall_eq]
 rw[e];rfl
theorem Tu{k:Nat}(h:aM P w K mg ae bo k f fd iD (LV K)):aM P w K mg ae bo k f fd iD (jm K 5 fun l=>UW (l.getD 0 0) (l.getD 1 0) (l.getD 2 0) (l.getD 3 0) (l.getD 4 0)):=h.imp fun vs H Q E q=>by
 obtain⟨a,args,rfl,hg,hn,k⟩:=q;obtain⟨g,u,v,i,j,rfl⟩:=j9 hn;refine⟨a,g,u,v,[i,j],rfl,hg,by simp,fun z H' h1 h2 h3=>k z H' h1 h2 ?_⟩;rw[h3];have e:vq g u v [i,j]=UW g u v i j:=by
  unfold vq UW;simp
 rw[e];rfl
noncomputable def f46(l:List Nat):List Int:=a46 (l.getD 0 0) (l.getD 1 0) (l.getD 2 0) (l.getD 3 0) (l.drop 4)
noncomputable abbrev oU:Stmt:=top 179
theorem hZ:aC ["given","refused","draws","row","colour"] ["given"] (ay oU):=aJ
theorem Dy(T:gE mg)(N:eV mg)(F:bD K "answer_urnrow" "answer_urnrow" oU f fd)(cS:Cl P w K mg ae 1 "refused_urn" g1 bH iD (Dx K))(iZ:Cl P w K mg ae 1 "is_colour" g2 cp ["number"] IT)
  (iB:Cl P w K mg ae 3 "likely_row" g3 c4 ["more","balls","row"] (wF K))(aB:Cl P w K mg ae 1 "told_fraction" g4 gG ["pair"] (gz K)):aM P w K mg ae bo 4 f fd iD (jm K 10 f46):=by
 refine bG F hZ fun _ _ _ _ H _ Q _ hr h=>?_;obtain⟨ad,args,rfl,hg,hn,k⟩:=h;obtain⟨g,u,v,n,r1,r2,r3,r4,r5,r6,rfl⟩:=Lp hn;have ek:f46 [g,u,v,n,r1,r2,r3,r4,r5,r6]=gF g u v (if 6<n∨¬(∀i∈[r1,r2,r3,r4,r5,r6].take n,i<2)then[-22]else cH (CL g u v ([r1,r2,r3,r4,r5,r6].take n))):=rfl;rw[ek]at k;refine⟨_,(ag (pz 1 hZ (ak cS hr (aa (pv 0) af)))
  (ag (a9 (aP cZ (pv 1) ck (aV _))
   (ah (az (pv 1)))
   aI)
  (ag (pz 2 hZ (aD aA (pv 0) ai (fun _ _=>rfl)))
  (ag (pz 3 hZ (fF gI (pv 0) (dB ai) (dB (aO dh ai (pv 2)))))
  (ag (a9 (PW.pt (pW (aP fR (pv 2) (aU N.NI) (aV _)) (mS (fN (eU (aT (G7 rfl) (by rfl) T.Ls boot_all (aa (lh rfl hZ.nd (fm (pv 3)) (c7 (own:=[("colour",4)]) (by rfl)) (fun _ _ _ _ _=>(qz 4 hZ)) (fun _ _ _ _ _=>fq) (fun _ _ _ _ _=>(ak iZ hr (aa (pv 4) af)))) af)))))))
   (ah (az (aK (aa (aU N.cx) af))))
   aI)
  (ah (az (ak aB hr (aa (ak iB hr (aa (aD aA (pv 0) ai (fun _ _=>rfl)) (aa (fF gI (pv 0) (dB ai) (dB ai)) (aa (pv 3) af)))) af))))))))),?_⟩
 w_on;refine⟨ad,g,u,v,_,rfl,hg,fun e he z H1 hz s1 h1=>?_,fun he H1 s1=>?_⟩
 ·rw[vm he]at k;w_on;exact k z H1 hz s1 h1
 obtain⟨b1,b2,b3⟩:=oT he;rw[b3]at k;have hg1:=s1.seq hg;w_on;refine bq hg1 (show cW _ _=some (V.int (n:Int))from rfl) ?_;w_on;refine⟨ad,_,rfl,hg1,fun q hq=>?_⟩;have ec:lg (ax [g,u,v,n,r1,r2,r3,r4,r5,r6]) (some 4) (some (4+(n:Int)))=ax ([r1,r2,r3,r4,r5,r6].take n):=by
  rw[show(4:Int)+(n:Int)=((4+n:Nat):Int)by omega];have:=Ds [g,u,v,n,r1,r2,r3,r4,r5,r6] 4 (4+n);rw[show 4+n - 4=n by omega]at this;exact this
 rw[ec];have s2:aq H1 (upd H1 q (.lst (ax ([r1,r2,r3,r4,r5,r6].take n)))):=aq.new hq;have q2:(upd H1 q (.lst (ax ([r1,r2,r3,r4,r5,r6].take n)))) q=some (.lst (ax ([r1,r2,r3,r4,r5,r6].take n))):=aj;have hlen:([r1,r2,r3,r4,r5,r6].take n).length<=6:=by rw[List.length_take];simp;omega
 generalize [r1,r2,r3,r4,r5,r6].take n=row at s2 q2 k hlen ⊢;generalize upd H1 q (.lst (ax row))=H2 at s2 q2 ⊢;have s12:=s1.trans s2;w_on;by_cases h1:6<n
 ·rw[if_pos (.inl h1)]at k;rw[if_pos (by omega)];w_on;exact⟨by decide,fun z hz=>k z _ (s12.free hz) (s12.trans (aq.new hz)) aj⟩
 rw[if_neg (by omega)];refine yi row (fun(n:Nat)=>V.int (n:Int)) (fun(n:Nat)=>some (V.bl (decide (n<2)))) (fun R r=>by w_on;exact r) (aG.of q2) (by omega) (fun x H3 Ry Rn hx s3 h1 h2=>?_) (fun D H3 hD s3 h3=>?_)
 ·w_on;exact⟨x,rfl,h1 _ _ (aq.refl _) rfl⟩
 w_on;rw[QP]at h3;refine⟨D,_,rfl,aG.of h3,?_⟩;rw[yz];w_on;have uY:=s12.trans s3;by_cases h2:∀x∈row,x<2
 ·rw[if_neg (fun q=>q.elim h1 (fun r=>r h2))]at k;rw[if_neg (by rw[decide_eq_true h2];simp)];refine bq (uY.seq hg) (show cW _ _=some (V.int (g:Int))from rfl) ?_;w_on;refine⟨ad,_,rfl,uY.seq hg,fun p hp=>?_⟩;rw[show lg (ax [g,u,v,n,r1,r2,r3,r4,r5,r6]) (some 1) (some 3)=ax [u,v]from rfl];have s4:aq H3 (upd H3 p (.lst (ax [u,v]))):=aq.new hp;w_on;refine⟨g,u,v,p,q,row,rfl,aG.of aj,aG.of (s4 _ _ (s3 _ _ q2)),b1,b2,by omega,fun z1 H5 s5 gC=>?_⟩;exact⟨z1,_,rfl,gC,fun z2 H6 hz2 s6 h6=>k z2 H6 (((uY.trans s4).trans s5).free hz2) (((uY.trans s4).trans s5).trans s6) h6⟩
 rw[if_pos (.inr h2)]at k;rw[if_pos (by rw[decide_eq_false h2];rfl)];exact⟨by decide,fun z hz=>k z _ (uY.free hz) (uY.trans (aq.new hz)) aj⟩
noncomputable def f47(l:List Nat):List Int:=a47 (l.getD 0 0) (l.getD 1 0) (l.getD 2 0) (l.getD 3 0) (l.getD 4 0)
noncomputable abbrev ly:Stmt:=top 180
theorem i7:aC ["given","refused","times","draws"] ["given"] (ay ly):=aJ
theorem yM(N:eV mg)(F:bD K "answer_urncounts" "answer_urncounts" ly f fd)(cS:Cl P w K mg ae 1 "refused_urn" g1 bH iD (Dx K))
  (gq:Cl P w K mg ae 4 "likely_times" g3 c4 ["more","balls","colour","draws","times"] (BU K))(aB:Cl P w K mg ae 1 "told_fraction" g4 gG ["pair"] (gz K)):aM P w K mg ae bo 5 f fd iD (jm K 7 f47):=by
 refine bG F i7 fun _ _ _ _ H _ Q _ hr h=>?_;obtain⟨ad,args,rfl,hg,hn,k⟩:=h;obtain⟨g,u,v,a,b,c,d,rfl⟩:=O4 hn;have ek:f47 [g,u,v,a,b,c,d]=gF g u v (if 8<a+b then[-22]else cH (mY g u v 0 (a+b) a)):=rfl;rw[ek]at k;refine⟨_,(ag (pz 1 i7 (ak cS hr (aa (pv 0) af)))
  (ag (a9 (aP cZ (pv 1) ck (aV _))
   (ah (az (pv 1)))
   aI)
  (ag (pz 2 i7 (aD aA (pv 0) ai (fun _ _=>rfl)))
  (ag (pz 3 i7 (aO dh (pv 2) (aD aA (pv 0) ai (fun _ _=>rfl))))
  (ag (a9 (aP fR (pv 3) (aU N.fI) (aV _))
   (ah (az (aK (aa (aU N.cx) af))))
   aI)
  (ah (az (ak aB hr (aa (ak gq hr (aa (aD aA (pv 0) ai (fun _ _=>rfl)) (aa (fF gI (pv 0) (dB ai) (dB ai)) (aa ai (aa (pv 3) (aa (pv 2) af)))))) af))))))))),?_⟩
 w_on;refine⟨ad,g,u,v,_,rfl,hg,fun e he z H1 hz s1 h1=>?_,fun he H1 s1=>?_⟩
 ·rw[vm he]at k;w_on;exact k z H1 hz s1 h1
 obtain⟨b1,b2,b3⟩:=oT he;rw[b3]at k;have hg1:=s1.seq hg;w_on;refine bq hg1 (show cW _ _=some (V.int (a:Int))from rfl) ?_;w_on;refine bq hg1 (show cW _ _=some (V.int (b:Int))from rfl) ?_;w_on;rw[<- Int.natCast_add];by_cases h1:8<a+b
 ·rw[if_pos h1]at k;rw[if_pos (by omega)];exact⟨by decide,fun z hz=>k z _ (s1.free hz) (s1.trans (aq.new hz)) aj⟩
 rw[if_neg h1]at k;rw[if_neg (by omega)];refine bq hg1 (show cW _ _=some (V.int (g:Int))from rfl) ?_;w_on;refine⟨ad,_,rfl,hg1,fun p hp=>?_⟩;rw[show lg (ax [g,u,v,a,b,c,d]) (some 1) (some 3)=ax [u,v]from rfl];have s4:aq H1 (upd H1 p (.lst (ax [u,v]))):=aq.new hp;w_on;refine⟨g,u,v,0,a+b,a,p,rfl,aG.of aj,b1,b2,by decide,by omega,fun z1 H5 s5 gC=>?_⟩;exact⟨z1,_,rfl,gC,fun z2 H6 hz2 s6 h6=>k z2 H6 (((s1.trans s4).trans s5).free hz2) (((s1.trans s4).trans s5).trans s6) h6⟩
noncomputable def f48(l:List Nat):List Int:=a48 (l.getD 0 0) (l.getD 1 0) (l.getD 2 0) (l.getD 3 0) (l.getD 4 0) (l.getD 5 0)
noncomputable abbrev nE:Stmt:=top 181
theorem sk:aC ["given","refused"] ["given"] (ay nE):=aJ
theorem BV(T:gE mg)(N:eV mg)(F:bD K "answer_urnjust" "answer_urnjust" nE f fd)(aW:Cl P w K mg ae 3 "refused_draws_of_colour" g1 bH ["given","most"] (vp K))
  (gq:Cl P w K mg ae 4 "likely_times" g2 cp ["more","balls","colour","draws","times"] (BU K))
  (aB:Cl P w K mg ae 1 "told_fraction" g3 c4 ["pair"] (gz K)):aM P w K mg ae bo 5 f fd iD (jm K 6 f48):=by
 refine bG F sk fun _ _ _ _ H _ Q _ hr h=>?_;obtain⟨ad,args,rfl,hg,hn,k⟩:=h;obtain⟨g,u,v,i,n,m,rfl⟩:=O3 hn;have ek:f48 [g,u,v,i,n,m]=rj g u v i n 8 (cH (mY g u v i n m)):=rfl;rw[ek]at k;refine⟨_,(ag (pz 1 sk (ak aW hr (aa (pv 0) (aa (aU N.fI) af))))
  (ag (a9 (aP cZ (pv 1) ck (aV _))
   (ah (az (pv 1)))
   aI)
  (ah (az (ak aB hr (aa (ak gq hr (aa (aD aA (pv 0) ai (fun _ _=>rfl)) (aa (fF gI (pv 0) (dB ai) (dB ai)) (aa (aD aA (pv 0) ai (fun _ _=>rfl)) (aa (aD aA (pv 0) ai (fun _ _=>rfl)) (aa (aD aA (pv 0) ai (fun _ _=>rfl)) af)))))) af)))))),?_⟩
 w_on;refine⟨ad,g,u,v,i,n,8,_,rfl,hg,fun e he z H1 hz s1 h1=>?_,fun he H1 s1=>?_⟩
 ·rw[vn he]at k;w_on;exact k z H1 hz s1 h1
 obtain⟨b1,b2,b3,b4,b5⟩:=vo he;rw[b5]at k;have hg1:=s1.seq hg;w_on;refine bq hg1 (show cW _ _=some (V.int (g:Int))from rfl) ?_;w_on;refine⟨ad,_,rfl,hg1,fun p hp=>?_⟩;rw[show lg (ax [g,u,v,i,n,m]) (some 1) (some 3)=ax [u,v]from rfl];have s4:aq H1 (upd H1 p (.lst (ax [u,v]))):=aq.new hp;have p4:(upd H1 p (.lst (ax [u,v]))) p=some (.lst (ax [u,v])):=aj;generalize upd H1 p (.lst (ax [u,v]))=H4 at s4 p4 ⊢;have BW:=s1.trans s4;w_on;refine bq (s4.seq hg1) (show cW _ _=some (V.int (i:Int))from rfl) ?_;w_on;refine bq (s4.seq hg1) (show cW _ _=some (V.int (n:Int))from rfl) ?_;w_on;refine bq (s4.seq hg1) (show cW _ _=some (V.int (m:Int))from rfl) ?_;w_on;refine⟨g,u,v,i,n,m,p,rfl,aG.of p4,b1,b2,b3,b4,fun z1 H5 s5 gC=>?_⟩;exact⟨z1,_,rfl,gC,fun z2 H6 hz2 s6 h6=>k z2 H6 ((BW.trans s5).free hz2) ((BW.trans s5).trans s6) h6⟩
noncomputable def f49(l:List Nat):List Int:=a49 (l.getD 0 0) (l.getD 1 0) (l.getD 2 0) (l.getD 3 0) (l.getD 4 0)
noncomputable abbrev oV:Stmt:=top 182
theorem nF:aC ["given","refused","rows"] ["given"] (ay oV):=aJ
theorem Dz(T:gE mg)(N:eV mg)(F:bD K "answer_urnall" "answer_urnall" oV f fd)(aW:Cl P w K mg ae 3 "refused_draws_of_colour" g1 bH ["given","most"] (vp K))
  (dz:Cl P w K mg ae 3 "rows_by_times" g2 cp ["more","balls","colour","draws"] (Du K)):aM P w K mg ae bo 4 f fd iD (jm K 5 f49):=by
 refine bG F nF fun _ _ _ _ H _ Q _ hr h=>?_;obtain⟨ad,args,rfl,hg,hn,k⟩:=h;obtain⟨g,u,v,i,n,rfl⟩:=j9 hn;have ek:f49 [g,u,v,i,n]=rj g u v i n 8 (((n+1:Nat):Int)::((List.range (n+1)).map (kX g u v i n)).map fun(x:Nat)=>(x:Int)):=rfl;rw[ek]at k;refine⟨_,(ag (pz 1 nF (ak aW hr (aa (pv 0) (aa (aU N.fI) af))))
  (ag (a9 (aP cZ (pv 1) ck (aV _))
   (ah (az (pv 1)))
   aI)
  (ag (pz 2 nF (ak dz hr (aa (aD aA (pv 0) ai (fun _ _=>rfl)) (aa (fF gI (pv 0) (dB ai) (dB ai)) (aa (aD aA (pv 0) ai (fun _ _=>rfl)) (aa (aD aA (pv 0) ai (fun _ _=>rfl)) af))))))
  (ah (az (aO lW (aK (aa (aT a6 (by rfl) T.dZ boot_len (aa (pv 2) af)) af)) (pv 2))))))),?_⟩
 w_on;refine⟨ad,g,u,v,i,n,8,_,rfl,hg,fun e he z H1 hz s1 h1=>?_,fun he H1 s1=>?_⟩
 ·rw[vn he]at k;w_on;exact k z H1 hz s1 h1
 obtain⟨b1,b2,b3,b4,b5⟩:=vo he;rw[b5]at k;have hg1:=s1.seq hg;w_on;refine bq hg1 (show cW _ _=some (V.int (g:Int))from rfl) ?_;w_on;refine⟨ad,_,rfl,hg1,fun p hp=>?_⟩;rw[show lg (ax [g,u,v,i,n]) (some 1) (some 3)=ax [u,v]from rfl];have s4:aq H1 (upd H1 p (.lst (ax [u,v]))):=aq.new hp;have p4:(upd H1 p (.lst (ax [u,v]))) p=some (.lst (ax [u,v])):=aj;generalize upd H1 p (.lst (ax [u,v]))=H4 at s4 p4 ⊢;have BW:=s1.trans s4;w_on;refine bq (s4.seq hg1) (show cW _ _=some (V.int (i:Int))from rfl) ?_;w_on;refine bq (s4.seq hg1) (show cW _ _=some (V.int (n:Int))from rfl) ?_;w_on;refine⟨g,u,v,i,n,p,rfl,aG.of p4,b1,b3,b4,fun z1 H5 _ s5 gC=>?_⟩;w_on;refine⟨_,.inl (aG.of gC),by decide,fun z hz=>?_⟩;refine wV aj ((aq.new hz) _ _ gC) (iQ (by rw[aX,gB];simp;omega)) fun z2 hz2=>?_;have s6:=(BW.trans s5).trans (aq.new (o:=.lst [V.int ((ax (tab (kX g u v i n) n)).length:Nat)]) hz);refine k z2 _ (s6.free hz2) (s6.trans (aq.new hz2)) ?_;rw[aj,aX,gB];simp[c9,ax,tab]
noncomputable def f51(l:List Nat):List Int:=a51 (l.getD 0 0) (l.getD 1 0) (l.getD 2 0) (l.getD 3 0) (l.getD 4 0)
noncomputable abbrev nG:Stmt:=top 183
theorem sm:aC ["given","refused"] ["given"] (ay nG):=aJ
theorem BX(T:gE mg)(N:eV mg)(F:bD K "answer_urnmean" "answer_urnmean" nG f fd)(aW:Cl P w K mg ae 3 "refused_draws_of_colour" g1 bH ["given","most"] (vp K))
  (pG:Cl P w K mg ae 3 "mean_times" g2 cp ["balls","colour","draws"] (NS K))
  (aB:Cl P w K mg ae 1 "told_fraction" g3 c4 ["pair"] (gz K)):aM P w K mg ae bo 4 f fd iD (jm K 5 f51):=by
 refine bG F sm fun _ _ _ _ H _ Q _ hr h=>?_;obtain⟨ad,args,rfl,hg,hn,k⟩:=h;obtain⟨g,u,v,i,n,rfl⟩:=j9 hn;have ek:f51 [g,u,v,i,n]=rj g u v i n 1000 (cH (mkRat ((n*lM u v i:Nat):Int) (u+v))):=rfl;rw[ek]at k;refine⟨_,(ag (pz 1 sm (ak aW hr (aa (pv 0) (aa (aU N.tU) af))))
  (ag (a9 (aP cZ (pv 1) ck (aV _))
   (ah (az (pv 1)))
   aI)
  (ah (az (ak aB hr (aa (ak pG hr (aa (fF gI (pv 0) (dB ai) (dB ai)) (aa (aD aA (pv 0) ai (fun _ _=>rfl)) (aa (aD aA (pv 0) ai (fun _ _=>rfl)) af)))) af)))))),?_⟩
 w_on;refine⟨ad,g,u,v,i,n,1000,_,rfl,hg,fun e he z H1 hz s1 h1=>?_,fun he H1 s1=>?_⟩
 ·rw[vn he]at k;w_on;exact k z H1 hz s1 h1
 obtain⟨b1,b2,b3,b4,b5⟩:=vo he;rw[b5]at k;have hg1:=s1.seq hg;w_on;refine⟨ad,_,rfl,hg1,fun p hp=>?_⟩;rw[show lg (ax [g,u,v,i,n]) (some 1) (some 3)=ax [u,v]from rfl];have s4:aq H1 (upd H1 p (.lst (ax [u,v]))):=aq.new hp;have p4:(upd H1 p (.lst (ax [u,v]))) p=some (.lst (ax [u,v])):=aj;generalize upd H1 p (.lst (ax [u,v]))=H4 at s4 p4 ⊢;have BW:=s1.trans s4;w_on;refine bq (s4.seq hg1) (show cW _ _=some (V.int (i:Int))from rfl) ?_;w_on;refine bq (s4.seq hg1) (show cW _ _=some (V.int (n:Int))from rfl) ?_;w_on;refine⟨u,v,i,n,p,rfl,aG.of p4,b1.u,b1.v,b2,b3,b4,fun z1 H5 s5 gC=>?_⟩;exact⟨z1,_,rfl,gC,fun z2 H6 hz2 s6 h6=>k z2 H6 ((BW.trans s5).free hz2) ((BW.trans s5).trans s6) h6⟩
noncomputable def f52(l:List Nat):List Int:=a52 (l.getD 0 0) (l.getD 1 0) (l.getD 2 0) (l.getD 3 0) (l.getD 4 0)
noncomputable abbrev nH:Stmt:=top 184
theorem so:aC ["given","refused"] ["given"] (ay nH):=aJ
theorem BY(T:gE mg)(N:eV mg)(F:bD K "answer_urnthen" "answer_urnthen" nH f fd)(aW:Cl P w K mg ae 3 "refused_draws_of_colour" g1 bH ["given","most"] (vp K))
  (pH:Cl P w K mg ae 3 "mean_balls" g2 cp ["more","balls","colour","draws"] (NT K))
  (aB:Cl P w K mg ae 1 "told_fraction" g3 c4 ["pair"] (gz K)):aM P w K mg ae bo 4 f fd iD (jm K 5 f52):=by
 refine bG F so fun _ _ _ _ H _ Q _ hr h=>?_;obtain⟨ad,args,rfl,hg,hn,k⟩:=h;obtain⟨g,u,v,i,n,rfl⟩:=j9 hn;have ek:f52 [g,u,v,i,n]=rj g u v i n 1000 (cH (mkRat ((lM u v i*(u+v+g*n):Nat):Int) (u+v))):=rfl;rw[ek]at k;refine⟨_,(ag (pz 1 so (ak aW hr (aa (pv 0) (aa (aU N.tU) af))))
  (ag (a9 (aP cZ (pv 1) ck (aV _))
   (ah (az (pv 1)))
   aI)
  (ah (az (ak aB hr (aa (ak pH hr (aa (aD aA (pv 0) ai (fun _ _=>rfl)) (aa (fF gI (pv 0) (dB ai) (dB ai)) (aa (aD aA (pv 0) ai (fun _ _=>rfl)) (aa (aD aA (pv 0) ai (fun _ _=>rfl)) af))))) af)))))),?_⟩
 w_on;refine⟨ad,g,u,v,i,n,1000,_,rfl,hg,fun e he z H1 hz s1 h1=>?_,fun he H1 s1=>?_⟩
 ·rw[vn he]at k;w_on;exact k z H1 hz s1 h1
 obtain⟨b1,b2,b3,b4,b5⟩:=vo he;rw[b5]at k;have hg1:=s1.seq hg;w_on;refine bq hg1 (show cW _ _=some (V.int (g:Int))from rfl) ?_;w_on;refine⟨ad,_,rfl,hg1,fun p hp=>?_⟩;rw[show lg (ax [g,u,v,i,n]) (some 1) (some 3)=ax [u,v]from rfl];have s4:aq H1 (upd H1 p (.lst (ax [u,v]))):=aq.new hp;have p4:(upd H1 p (.lst (ax [u,v]))) p=some (.lst (ax [u,v])):=aj;generalize upd H1 p (.lst (ax [u,v]))=H4 at s4 p4 ⊢;have BW:=s1.trans s4;w_on;refine bq (s4.seq hg1) (show cW _ _=some (V.int (i:Int))from rfl) ?_;w_on;refine bq (s4.seq hg1) (show cW _ _=some (V.int (n:Int))from rfl) ?_;w_on;refine⟨g,u,v,i,n,p,rfl,aG.of p4,b1,b2,b3,b4,fun z1 H5 s5 gC=>?_⟩;exact⟨z1,_,rfl,gC,fun z2 H6 hz2 s6 h6=>k z2 H6 ((BW.trans s5).free hz2) ((BW.trans s5).trans s6) h6⟩
noncomputable def f53(l:List Nat):List Int:=a53 (l.getD 0 0) (l.getD 1 0) (l.getD 2 0) (l.getD 3 0) (l.getD 4 0)
noncomputable abbrev jP:Stmt:=top 185
theorem mM:aC ["given","refused"] ["given"] (ay jP):=aJ
theorem vv(T:gE mg)(N:eV mg)(F:bD K "answer_urnlikeliest" "answer_urnlikeliest" jP f fd)(aW:Cl P w K mg ae 3 "refused_draws_of_colour" g1 bH ["given","most"] (vp K))
  (dz:Cl P w K mg ae 3 "rows_by_times" g2 cp ["more","balls","colour","draws"] (Du K))
  (cw:Cl P w K mg ae 1 "first_greatest" g3 c4 ["numbers"] (vi K)):aM P w K mg ae bo 4 f fd iD (jm K 5 f53):=by
 refine bG F mM fun _ _ _ _ H _ Q _ hr h=>?_;obtain⟨ad,args,rfl,hg,hn,k⟩:=h;obtain⟨g,u,v,i,n,rfl⟩:=j9 hn;have ek:f53 [g,u,v,i,n]=rj g u v i n 8 ([((cI (kX g u v i n) n:Nat):Int)]):=rfl;rw[ek]at k;refine⟨_,(ag (pz 1 mM (ak aW hr (aa (pv 0) (aa (aU N.fI) af))))
  (ag (a9 (aP cZ (pv 1) ck (aV _))
   (ah (az (pv 1)))
   aI)
  (ah (az (aK (aa (ak cw hr (aa (ak dz hr (aa (aD aA (pv 0) ai (fun _ _=>rfl)) (aa (fF gI (pv 0) (dB ai) (dB ai)) (aa (aD aA (pv 0) ai (fun _ _=>rfl)) (aa (aD aA (pv 0) ai (fun _ _=>rfl)) af))))) af)) af)))))),?_⟩
 w_on;refine⟨ad,g,u,v,i,n,8,_,rfl,hg,fun e he z H1 hz s1 h1=>?_,fun he H1 s1=>?_⟩
 ·rw[vn he]at k;w_on;exact k z H1 hz s1 h1
 obtain⟨b1,b2,b3,b4,b5⟩:=vo he;rw[b5]at k;have hg1:=s1.seq hg;w_on;refine bq hg1 (show cW _ _=some (V.int (g:Int))from rfl) ?_;w_on;refine⟨ad,_,rfl,hg1,fun p hp=>?_⟩;rw[show lg (ax [g,u,v,i,n]) (some 1) (some 3)=ax [u,v]from rfl];have s4:aq H1 (upd H1 p (.lst (ax [u,v]))):=aq.new hp;have p4:(upd H1 p (.lst (ax [u,v]))) p=some (.lst (ax [u,v])):=aj;generalize upd H1 p (.lst (ax [u,v]))=H4 at s4 p4 ⊢;have BW:=s1.trans s4;w_on;refine bq (s4.seq hg1) (show cW _ _=some (V.int (i:Int))from rfl) ?_;w_on;refine bq (s4.seq hg1) (show cW _ _=some (V.int (n:Int))from rfl) ?_;w_on;refine⟨g,u,v,i,n,p,rfl,aG.of p4,b1,b3,b4,fun z1 H5 _ s5 gC=>?_⟩;w_on;refine⟨z1,_,_,rfl,aG.of gC,?_⟩;have s6:=BW.trans s5;exact⟨by decide,fun z hz=>k z _ (s6.free hz) (s6.trans (aq.new hz)) aj⟩
noncomputable def f54(l:List Nat):List Int:=a54 (l.getD 0 0) (l.getD 1 0) (l.getD 2 0) (l.getD 3 0)
noncomputable abbrev oW:Stmt:=top 186
theorem t4:aC ["given","refused"] ["given"] (ay oW):=aJ
theorem DA(N:eV mg)(F:bD K "answer_urnone" "answer_urnone" oW f fd)(cS:Cl P w K mg ae 1 "refused_urn" g1 bH iD (Dx K))
  (i8:Cl P w K mg ae 3 "likely_one_colour" g3 c4 ["more","balls","draws"] (RP K))(aB:Cl P w K mg ae 1 "told_fraction" g4 gG ["pair"] (gz K)):aM P w K mg ae bo 4 f fd iD (jm K 4 f54):=by
 refine bG F t4 fun _ _ _ _ H _ Q _ hr h=>?_;obtain⟨ad,args,rfl,hg,hn,k⟩:=h;obtain⟨g,u,v,n,rfl⟩:=iF hn;have ek:f54 [g,u,v,n]=gF g u v (if 8<n then[-22]else cH (Nf g u v n)):=rfl;rw[ek]at k;refine⟨_,(ag (pz 1 t4 (ak cS hr (aa (pv 0) af)))
  (ag (a9 (aP cZ (pv 1) ck (aV _))
   (ah (az (pv 1)))
   aI)
  (ag (a9 (aP fR (aD aA (pv 0) ai (fun _ _=>rfl)) (aU N.fI) (aV _))
   (ah (az (aK (aa (aU N.cx) af))))
   aI)
  (ah (az (ak aB hr (aa (ak i8 hr (aa (aD aA (pv 0) ai (fun _ _=>rfl)) (aa (fF gI (pv 0) (dB ai) (dB ai)) (aa (aD aA (pv 0) ai (fun _ _=>rfl)) af)))) af))))))),?_⟩
 w_on;refine⟨ad,g,u,v,_,rfl,hg,fun e he z H1 hz s1 h1=>?_,fun he H1 s1=>?_⟩
 ·rw[vm he]at k;w_on;exact k z H1 hz s1 h1
 obtain⟨b1,b2,b3⟩:=oT he;rw[b3]at k;have hg1:=s1.seq hg;w_on;refine bq hg1 (show cW _ _=some (V.int (n:Int))from rfl) ?_;w_on;by_cases h1:8<n
 ·rw[if_pos h1]at k;rw[if_pos (by omega)];exact⟨by decide,fun z hz=>k z _ (s1.free hz) (s1.trans (aq.new hz)) aj⟩
 rw[if_neg h1]at k;rw[if_neg (by omega)];refine bq hg1 (show cW _ _=some (V.int (g:Int))from rfl) ?_;w_on;refine⟨ad,_,rfl,hg1,fun p hp=>?_⟩;rw[show lg (ax [g,u,v,n]) (some 1) (some 3)=ax [u,v]from rfl];have s4:aq H1 (upd H1 p (.lst (ax [u,v]))):=aq.new hp;w_on;refine bq (s4.seq hg1) (show cW _ _=some (V.int (n:Int))from rfl) ?_;w_on;refine⟨g,u,v,n,p,rfl,aG.of aj,b1,b2,by omega,fun z1 H5 s5 gC=>?_⟩;exact⟨z1,_,rfl,gC,fun z2 H6 hz2 s6 h6=>k z2 H6 (((s1.trans s4).trans s5).free hz2) (((s1.trans s4).trans s5).trans s6) h6⟩
theorem QU{m r n k:Nat}(hm:m<=24)(hr:r<=m)(hk:k<=n)(hn:n<=24):ip m r n k<2 ^ 44:=by
 have h1:=iz (n:=r) (k:=k) (by omega) (by omega);have h2:=iz (n:=m - r) (k:=n - k) (by omega) (by omega);unfold ip;exact Nat.lt_of_lt_of_le (Nat.mul_lt_mul'' h1 h2) (by decide +kernel)
theorem LW{m r n:Nat}(k:Nat)(hm:m<=24)(hr:r<=m)(hn:n<=24):mZ m r n k<2 ^ 60:=by
 have h:=Bu (((List.range (n+1)).map (ip m r n)).drop k) (2 ^ 44) fun w hw=>by
  have hw:=List.mem_of_mem_drop hw;obtain⟨j,hj,rfl⟩:=List.mem_map.mp hw;rw[List.mem_range]at hj;exact Nat.le_of_lt (QU hm hr (by omega) hn)
 have hl:(((List.range (n+1)).map (ip m r n)).drop k).length<=25:=by
  rw[List.length_drop,List.length_map,List.length_range];omega
 unfold mZ;have h2:2 ^ 44*(((List.range (n+1)).map (ip m r n)).drop k).length<=2 ^ 44*25:=Nat.mul_le_mul_left _ hl;omega
theorem LX{m r n:Nat}(k:Nat)(hm:m<=24)(hr:r<=m)(hn:n<=m):Fits (zT m r n k):=by
 refine CS (Nat.ne_of_gt (jC hm hn)) ?_ (gb ?_)
 ·rw[Int.natAbs_natCast];exact gb (LW k hm hr (by omega))
 have:=iz (n:=m) (k:=n) hm (by omega);omega
def DB:Sp:=fun vs H Q _=>∃m r n k:Nat,vs=[.int m,.int r,.int n,.int k]/\m<=24/\r<=m/\n<=24/\k<=n/\Q (.int ((ip m r n k:Nat):Int)) H
abbrev wH:Stmt:=top 65
theorem Ka:aC ["things","red","drawn","drawn_red"] ["things","red","drawn","drawn_red"] (ay wH):=aJ
theorem Kb(F:bD K "sets_with" "sets_with" wH f fd)(cv:Cl P w K mg ae 1 "choices" g1 bH ["many","few"] ku):aM P w K mg ae bo 2 f fd ["things","red","drawn","drawn_red"] DB:=by
 refine bG F Ka fun _ _ _ _ H _ Q _ hr h=>?_;obtain⟨m,r,n,k,rfl,hm,Fc,hn,hk,q⟩:=h;refine⟨_,(ah (az (aO cM (ak cv hr (aa (pv 1) (aa (pv 3) af))) (ak cv hr (aa (aO dU (pv 0) (pv 1)) (aa (aO dU (pv 2) (pv 3)) af)))))),?_⟩;w_on;refine⟨r,k,rfl,by omega,by omega,?_⟩;w_on;refine⟨m - r,n - k,by rw[Int.natCast_sub Fc,Int.natCast_sub hk],by omega,by omega,?_⟩;w_on;have h1:=iz (n:=r) (k:=k) (by omega) (by omega);refine⟨.inl (by omega),?_⟩;rw[<- Int.natCast_mul];exact q
def DC(K:Frag):Sp:=fun vs H Q _=>∃m r n:Nat,vs=[.int m,.int r,.int n]/\m<=24/\r<=m/\n<=24/\∀z H',H z=none->aq H H'->H' z=some (.lst (ax (tab (ip m r n) n)))->Q (.ref z) H'
abbrev sq:Stmt:=top 66
theorem qu:aC ["things","red","drawn","drawn_red"] ["things","red","drawn"] (ay sq):=aJ
theorem Gw(T:gE mg)(F:bD K "sets_by_red" "sets_by_red" sq f fd)(fA:Cl P w K mg ae 2 "sets_with" g1 bH ["things","red","drawn","drawn_red"] DB):aM P w K mg ae bo 3 f fd ["things","red","drawn"] (DC K):=by
 refine bG F qu fun _ _ _ _ H _ Q _ hr h=>?_;obtain⟨m,r,n,rfl,hm,Fc,hn,k⟩:=h;refine⟨_,(ah (az (lh rfl qu.nd (eK rfl T.gA (aa (aO dh (pv 2) ai) af)) (c7 (own:=[("drawn_red",3)]) (by rfl)) (fun _ _ _ _ _=>(qz 3 qu)) (fun _ _ _ _ _=>fq) (fun _ _ _ _ _=>(ak fA hr (aa (pv 0) (aa (pv 1) (aa (pv 2) (aa (pv 3) af))))))))),?_⟩;w_on;refine Qr (n:=n+1) (fun R r=>by w_on;rw[show(n:Int)+1=((n+1:Nat):Int)by omega];exact r) (by omega) (fun j=>some (V.int ((ip m r n j:Nat):Int))) (fun j H3 Ry Rn hj s3 h1 h2=>?_) (fun D H3 hD s3 h3=>?_)
 ·w_on;exact⟨m,r,n,j,rfl,hm,Fc,hn,by omega,h1 _ _ (aq.refl _) rfl⟩
 rw[pK]at h3;exact k D H3 hD s3 h3
def IU(K:Frag):Sp:=fun vs H Q _=>∃m r n x:Nat,vs=[.int m,.int r,.int n,.int x]/\m<=24/\r<=m/\n<=m/\∀z H',aq H H'->bF K H' z (px m r n x)->Q (.ref z) H'
abbrev sr:Stmt:=top 67
theorem Gx:aC ["things","red","drawn","drawn_red"] ["things","red","drawn","drawn_red"] (ay sr):=aJ
theorem Gy(F:bD K "likely_just" "likely_just" sr f fd)(fA:Cl P w K mg ae 2 "sets_with" g1 bH ["things","red","drawn","drawn_red"] DB)(cv:Cl P w K mg ae 1 "choices" g2 cp ["many","few"] ku)
  (aF:Cl P w K mg ae 2 "fraction" g3 c4 ["above","below"] (gy K)):aM P w K mg ae bo 3 f fd ["things","red","drawn","drawn_red"] (IU K):=by
 refine bG F Gx fun _ _ _ _ H _ Q _ hr h=>?_;obtain⟨m,r,n,x,rfl,hm,Fc,hn,k⟩:=h;refine⟨_,(ag (a9 (aP fR (pv 3) (pv 2) (aV _))
   (ah (az (mW (aa ai (aa ai af)))))
   aI)
  (ah (az (ak aF hr (aa (ak fA hr (aa (pv 0) (aa (pv 1) (aa (pv 2) (aa (pv 3) af))))) (aa (ak cv hr (aa (pv 0) (aa (pv 2) af))) af)))))),?_⟩
 w_on;by_cases h1:n<x
 ·rw[if_pos (by omega)];have e:px m r n x=0:=by
   unfold px;rw[if_pos h1];exact Rat.zero_mkRat _
  rw[e]at k;exact⟨by decide,fun z hz=>k z _ (aq.new hz) (bF.zero aj)⟩
 rw[if_neg (by omega)];have e:px m r n x=mkRat ((ip m r n x:Nat):Int) (Kp291.choose m n):=by
  unfold px;rw[if_neg h1]
 rw[e]at k;refine⟨m,r,n,x,rfl,hm,Fc,by omega,by omega,?_⟩;w_on;refine⟨m,n,rfl,by omega,by omega,?_⟩;w_on;have hc:=iz (n:=m) (k:=n) hm (by omega);refine⟨_,Kp291.choose m n,rfl,jC hm hn,jj (gb (by omega)),fun z H2 _ s2 h4=>?_⟩;exact k z H2 s2 (bF.of h4)
def Fd(K:Frag):Sp:=fun vs H Q _=>∃m r n x:Nat,vs=[.int m,.int r,.int n,.int x]/\m<=24/\r<=m/\n<=m/\∀z H',aq H H'->bF K H' z (zT m r n x)->Q (.ref z) H'
abbrev mv:Stmt:=top 68
theorem An:aC ["things","red","drawn","least_red"] ["things","red","drawn","least_red"] (ay mv):=aJ
theorem Ao(T:gE mg)(F:bD K "likely_at_least" "likely_at_least" mv f fd)(eh:Cl P w K mg ae 3 "sets_by_red" g1 bH ["things","red","drawn"] (DC K))(cv:Cl P w K mg ae 1 "choices" g2 cp ["many","few"] ku)
  (aF:Cl P w K mg ae 2 "fraction" g3 c4 ["above","below"] (gy K)):aM P w K mg ae bo 4 f fd ["things","red","drawn","least_red"] (Fd K):=by
 refine bG F An fun _ _ _ _ H _ Q _ hr h=>?_;obtain⟨m,r,n,x,rfl,hm,Fc,hn,k⟩:=h;refine⟨_,(ah (az (ak aF hr (aa (aT (fg rfl) (by rfl) T.gN boot_sum (aa (fF gI (ak eh hr (aa (pv 0) (aa (pv 1) (aa (pv 2) af)))) (dB (pv 3)) ya) af)) (aa (ak cv hr (aa (pv 0) (aa (pv 2) af))) af))))),?_⟩;w_on;refine⟨m,r,n,rfl,hm,Fc,by omega,fun z H1 _ s1 hz=>?_⟩;w_on;refine⟨z,_,rfl,aG.of hz,fun q hq=>?_⟩;rw[KZ];w_on;refine kf (aG.of aj) ?_;w_on;refine⟨m,n,rfl,by omega,by omega,?_⟩;w_on;have hc:=iz (n:=m) (k:=n) hm (by omega);refine⟨_,Kp291.choose m n,rfl,jC hm hn,jj (gb (by omega)),fun z H2 _ s2 h4=>?_⟩;exact k z H2 ((s1.trans (aq.new hq)).trans s2) (bF.of h4)
def NU(K:Frag):Sp:=fun vs H Q _=>∃m r n:Nat,vs=[.int m,.int r,.int n]/\0<m/\m<=24/\r<=m/\n<=m/\∀z H',aq H H'->bF K H' z (mkRat ((n*r:Nat):Int) m)->Q (.ref z) H'
abbrev yN:Stmt:=top 69
theorem LY:aC ["things","red","drawn"] ["things","red","drawn"] (ay yN):=aJ
theorem LZ(F:bD K "mean_red" "mean_red" yN f fd)(aF:Cl P w K mg ae 2 "fraction" g3 c4 ["above","below"] (gy K)):aM P w K mg ae bo 3 f fd ["things","red","drawn"] (NU K):=by
 refine bG F LY fun _ _ _ _ H _ Q _ hr h=>?_;obtain⟨m,r,n,rfl,h0,hm,Fc,hn,k⟩:=h;refine⟨_,(ah (az (ak aF hr (aa (aO cM (pv 2) (pv 1)) (aa (pv 0) af))))),?_⟩;w_on;rw[<- Int.natCast_mul];refine⟨.inl (by omega),_,m,rfl,h0,jj (gb (by omega)),fun z H2 _ s2 h4=>?_⟩;exact k z H2 s2 (bF.of h4)
def K0(K:Frag):Sp:=fun vs H Q _=>∃m r n:Nat,vs=[.int m,.int r,.int n]/\2<=m/\m<=24/\r<=m/\n<=m/\∀z H',aq H H'->bF K H' z (mkRat ((n*r*(m - r)*(m - n):Nat):Int) (m*m*(m - 1)))->Q (.ref z) H'
abbrev uZ:Stmt:=top 70
theorem yO:aC ["things","red","drawn","above"] ["things","red","drawn"] (ay uZ):=aJ
theorem IV(F:bD K "red_spread" "red_spread" uZ f fd)(aF:Cl P w K mg ae 2 "fraction" g3 c4 ["above","below"] (gy K)):aM P w K mg ae bo 3 f fd ["things","red","drawn"] (K0 K):=by
 refine bG F yO fun _ _ _ _ H _ Q _ hr h=>?_;obtain⟨m,r,n,rfl,h0,hm,Fc,hn,k⟩:=h;refine⟨_,(ag (pz 3 yO (aO cM (aO cM (aO cM (pv 2) (pv 1)) (aO dU (pv 0) (pv 1))) (aO dU (pv 0) (pv 2))))
  (ah (az (ak aF hr (aa (pv 3) (aa (aO cM (aO cM (pv 0) (pv 0)) (aO dU (pv 0) ai)) af)))))),?_⟩
 w_on;refine⟨.inl (by omega),.inr (by omega),.inr (by omega),.inl (by omega),.inr (by omega),?_⟩;refine⟨((n*r*(m - r)*(m - n):Nat):Int),m*m*(m - 1),?_,Nat.mul_pos (Nat.mul_pos (by omega) (by omega)) (by omega),jj (gb ?_),fun z H2 _ s2 h4=>?_⟩
 ·simp only[Int.natCast_mul,Int.natCast_sub Fc,Int.natCast_sub hn,Int.natCast_sub (show 1<=m by omega)];rfl
 ·exact Nat.lt_of_le_of_lt (Nat.mul_le_mul (Nat.mul_le_mul hm hm) (show m - 1<=24 by omega)) (by decide +kernel)
 exact k z H2 s2 (bF.of h4)
def VD(K:Frag):Sp:=fun vs H Q _=>∃m r x n:Nat,vs=[.int m,.int r,.int x,.int n]/\m<=24/\r<=m/\1<=x/\x<=r/\1<=n/\n<=m/\∀z H',aq H H'->bF K H' z (RH m r x n)->Q (.ref z) H'
abbrev oX:Stmt:=top 71
theorem t5:aC ["things","red","place","draw","ways"] ["things","red","place","draw"] (ay oX):=aJ
theorem DD(F:bD K "likely_kth_at" "likely_kth_at" oX f fd)(cv:Cl P w K mg ae 1 "choices" g2 cp ["many","few"] ku)
  (aF:Cl P w K mg ae 2 "fraction" g3 c4 ["above","below"] (gy K)):aM P w K mg ae bo 3 f fd ["things","red","place","draw"] (VD K):=by
 refine bG F t5 fun _ _ _ _ H _ Q _ hr h=>?_;obtain⟨m,r,x,n,rfl,hm,Fc,h1,h2,h3,h4,k⟩:=h;refine⟨_,(ag (pz 4 t5 (aO cM (ak cv hr (aa (aO dU (pv 3) ai) (aa (aO dU (pv 2) ai) af))) (ak cv hr (aa (aO dU (pv 0) (pv 3)) (aa (aO dU (pv 1) (pv 2)) af)))))
  (ah (az (ak aF hr (aa (pv 4) (aa (ak cv hr (aa (pv 0) (aa (pv 1) af))) af)))))),?_⟩
 w_on;refine⟨n - 1,x - 1,by rw[Int.natCast_sub h3,Int.natCast_sub h1];rfl,by omega,by omega,?_⟩;w_on;refine⟨m - n,r - x,by rw[Int.natCast_sub h4,Int.natCast_sub h2],by omega,by omega,?_⟩;w_on;have hc1:=iz (n:=n - 1) (k:=x - 1) (by omega) (by omega);rw[<- Int.natCast_mul];refine⟨.inl (by omega),m,r,rfl,by omega,by omega,?_⟩;w_on;have hc:=iz (n:=m) (k:=r) hm (by omega);refine⟨_,Kp291.choose m r,rfl,jC hm Fc,jj (gb (by omega)),fun z H2 _ s2 h4=>?_⟩;exact k z H2 s2 (bF.of h4)
def RQ(K:Frag):Sp:=fun vs H Q _=>∃m r x:Nat,vs=[.int m,.int r,.int x]/\m<=24/\r<=m/\x<=r/\∀z H',aq H H'->bF K H' z (mkRat ((x*(m+1):Nat):Int) (r+1))->Q (.ref z) H'
abbrev yP:Stmt:=top 72
theorem L0:aC ["things","red","place"] ["things","red","place"] (ay yP):=aJ
theorem L1(F:bD K "mean_kth" "mean_kth" yP f fd)(aF:Cl P w K mg ae 2 "fraction" g3 c4 ["above","below"] (gy K)):aM P w K mg ae bo 3 f fd ["things","red","place"] (RQ K):=by
 refine bG F L0 fun _ _ _ _ H _ Q _ hr h=>?_;obtain⟨m,r,x,rfl,hm,Fc,hx,k⟩:=h;refine⟨_,(ah (az (ak aF hr (aa (aO cM (pv 2) (aO dh (pv 0) ai)) (aa (aO dh (pv 1) ai) af))))),?_⟩;w_on;refine⟨.inl (by omega),((x*(m+1):Nat):Int),r+1,?_,by omega,jj (gb (by omega)),fun z H2 _ s2 h4=>?_⟩
 ·simp only[Int.natCast_mul,Int.natCast_add];rfl
 exact k z H2 s2 (bF.of h4)
def NV:Sp:=fun vs H Q _=>∃m n x:Nat,vs=[.int m,.int n,.int x]/\m<=24/\n<=m/\x<=n/\∀H',aq H H'->Q (.int ((cI (fun r=>ip m r n x) m:Nat):Int)) H'
abbrev oY:Stmt:=top 73
theorem nJ:aC ["things","drawn","drawn_red","red"] ["things","drawn","drawn_red"] (ay oY):=aJ
theorem DE(T:gE mg)(F:bD K "likeliest_red" "likeliest_red" oY f fd)(fA:Cl P w K mg ae 2 "sets_with" g1 bH ["things","red","drawn","drawn_red"] DB)(cw:Cl P w K mg ae 1 "first_greatest" g2 cp ["numbers"] (vi K)):
  aM P w K mg ae bo 3 f fd ["things","drawn","drawn_red"] NV:=by
 refine bG F nJ fun _ _ _ _ H _ Q _ hr h=>?_;obtain⟨m,n,x,rfl,hm,hn,hx,k⟩:=h;refine⟨_,(ah (az (ak cw hr (aa (lh rfl nJ.nd (eK rfl T.gA (aa (aO dh (pv 0) ai) af)) (c7 (own:=[("red",3)]) (by rfl)) (fun _ _ _ _ _=>(qz 3 nJ)) (fun _ _ _ _ _=>fq) (fun _ _ _ _ _=>(ak fA hr (aa (pv 0) (aa (pv 3) (aa (pv 1) (aa (pv 2) af))))))) af)))),?_⟩;w_on;refine Qr (n:=m+1) (fun R r=>by w_on;rw[show(m:Int)+1=((m+1:Nat):Int)by omega];exact r) (by omega) (fun j=>some (V.int ((ip m j n x:Nat):Int))) (fun j H3 Ry Rn hj s3 h1 h2=>?_) (fun D H3 hD s3 h3=>?_)
 ·w_on;exact⟨m,j,n,x,rfl,hm,by omega,by omega,hx,h1 _ _ (aq.refl _) rfl⟩
 rw[pK (fun j=>ip m j n x)]at h3;w_on;exact⟨D,_,m,rfl,aG.of h3,k H3 s3⟩
noncomputable def su(m r:Nat):Option Int:=if m=0∨24<m∨m<r then some (-22)else none
theorem zX{m r:Nat}{e:Int}{body:List Int}(h:su m r=some e):gx m r body=[e]:=by
 unfold su at h;unfold gx;by_cases h1:m=0∨24<m∨m<r
 ·rw[if_pos h1]at h ⊢;rw[<- Option.some.inj h]
 rw[if_neg h1]at h;cases h
structure Bb(m r:Nat):Prop where
 pos:0<m
 top:m<=24
 red:r<=m
theorem rB{m r:Nat}(h:su m r=none):Bb m r/\∀body,gx m r body=body:=by
 unfold su at h;unfold gx;by_cases h1:m=0∨24<m∨m<r
 ·rw[if_pos h1]at h;cases h
 exact⟨⟨by omega,by omega,by omega⟩,fun body=>by rw[if_neg h1]⟩
noncomputable def u0(m r n:Nat):Option Int:=match su m r with
 |some _=>some (-22)
 |none=>if m<n then some (-22)else none
noncomputable def k5(m r n:Nat)(body:List Int):List Int:=gx m r (if m<n then[-22]else body)
theorem QV{m r:Nat}{e:Int}(h:su m r=some e):e= -22:=by
 unfold su at h;by_cases h1:m=0∨24<m∨m<r
 ·rw[if_pos h1]at h;exact(Option.some.inj h).symm
 rw[if_neg h1]at h;cases h
theorem mN{m r n:Nat}{e:Int}{body:List Int}(h:u0 m r n=some e):k5 m r n body=[e]:=by
 unfold u0 at h;unfold k5;cases h1:su m r with
 |some e'=>
  rw[h1]at h;cases h;rw[zX h1,QV h1]
 |none=>
  rw[h1]at h;rw[(rB h1).2];by_cases h2:m<n
  ·simp only[if_pos h2]at h;rw[if_pos h2,<- Option.some.inj h]
  simp only[if_neg h2]at h;cases h
theorem kI{m r n:Nat}(h:u0 m r n=none):Bb m r/\n<=m/\∀body,k5 m r n body=body:=by
 unfold u0 at h;unfold k5;cases h1:su m r with
 |some e'=>
  rw[h1]at h;cases h
 |none=>
  rw[h1]at h;obtain⟨b1,b2⟩:=rB h1;by_cases h2:m<n
  ·simp only[if_pos h2]at h;cases h
  exact⟨b1,by omega,fun body=>by rw[b2,if_neg h2]⟩
noncomputable def Fe(m r k:Nat):Option Int:=match su m r with
 |some e=>some e
 |none=>if k=0∨r<k then some (-33)else none
noncomputable def zY(m r k:Nat)(body:List Int):List Int:=gx m r (if k=0∨r<k then[-33]else body)
theorem K1{m r k:Nat}{e:Int}{body:List Int}(h:Fe m r k=some e):zY m r k body=[e]:=by
 unfold Fe at h;unfold zY;cases h1:su m r with
 |some e'=>
  rw[h1]at h;cases h;exact zX h1
 |none=>
  rw[h1]at h;rw[(rB h1).2];by_cases h2:k=0∨r<k
  ·simp only[if_pos h2]at h;rw[if_pos h2,<- Option.some.inj h]
  simp only[if_neg h2]at h;cases h
theorem K2{m r k:Nat}(h:Fe m r k=none):Bb m r/\1<=k/\k<=r/\∀body,zY m r k body=body:=by
 unfold Fe at h;unfold zY;cases h1:su m r with
 |some e'=>
  rw[h1]at h;cases h
 |none=>
  rw[h1]at h;obtain⟨b1,b2⟩:=rB h1;by_cases h2:k=0∨r<k
  ·simp only[if_pos h2]at h;cases h
  exact⟨b1,by omega,by omega,fun body=>by rw[b2,if_neg h2]⟩
noncomputable def DF(K:Frag):Sp:=fun vs H Q _=>∃(a:Addr) (m r:Nat) (rest:List Nat),vs=[.ref a]/\aG K H a (ax (m::r::rest))/\ot (su m r) H Q
noncomputable abbrev sv:Stmt:=top 77
theorem Gz:aC ["given"] ["given"] (ay sv):=aJ
theorem GA(N:eV mg)(F:bD K "refused_box" "refused_box" sv f fd):aM P w K mg ae bo 1 f fd iD (DF K):=by
 refine bG F Gz fun _ _ _ _ H _ Q _ hr h=>?_;obtain⟨a,m,r,rest,rfl,hg,k⟩:=h;unfold ot su at k;have i0:cW (ax (m::r::rest)) 0=some (V.int (m:Int)):=atK 0 rfl (by simp);have i1:cW (ax (m::r::rest)) 1=some (V.int (r:Int)):=atK 1 rfl (by simp);have no:m=0∨24<m∨m<r->∀z,H z=none->Q (.ref z) (upd H z (.lst [.int (-22)])):=fun q z hz=>by
  rw[if_pos q]at k;exact k.1 _ rfl z _ hz (aq.new hz) aj
 refine⟨_,(ag (a9 (PW.pt (pW (fN (zM uz uz ai (aD aA (pv 0) ai (fun _ _=>rfl)) (aU N.Iu))) (mS (aP fR (aD aA (pv 0) ai (fun _ _=>rfl)) (aD aA (pv 0) ai (fun _ _=>rfl)) (aV _)))))
   (ah (az (aK (aa (aU N.cx) af))))
   aI)
  (ah (az ck))),?_⟩
 w_on;refine bq hg i0 ?_;w_on;by_cases h1:1<=m
 ·rw[if_pos (by omega)];w_on;by_cases h2:m<=24
  ·rw[if_neg (by simp;omega)];refine bq hg i1 ?_;w_on;refine bq hg i0 ?_;w_on;by_cases h3:m<r
   ·rw[if_pos (by omega)];exact⟨by decide,no (.inr (.inr h3))⟩
   rw[if_neg (by omega)];rw[if_neg (by omega)]at k;exact k.2 rfl H (aq.refl _)
  rw[if_pos (by simp;omega)];w_on;exact⟨by decide,no (.inr (.inl (by omega)))⟩
 rw[if_neg (by omega)];w_on;exact⟨by decide,no (.inl (by omega))⟩
noncomputable def vw(K:Frag):Sp:=fun vs H Q _=>∃(a:Addr) (m r n:Nat) (rest:List Nat),vs=[.ref a]/\aG K H a (ax (m::r::n::rest))/\ot (u0 m r n) H Q
noncomputable abbrev oZ:Stmt:=top 78
theorem DG:aC ["given"] ["given"] (ay oZ):=aJ
theorem DH(N:eV mg)(F:bD K "refused_drawn" "refused_drawn" oZ f fd)(cU:Cl P w K mg ae 1 "refused_box" g1 bH iD (DF K)):aM P w K mg ae bo 2 f fd iD (vw K):=by
 refine bG F DG fun _ _ _ _ H _ Q _ hr h=>?_;obtain⟨a,m,r,n,rest,rfl,hg,k⟩:=h;unfold ot u0 at k;have i0:cW (ax (m::r::n::rest)) 0=some (V.int (m:Int)):=atK 0 rfl (by simp);have i2:cW (ax (m::r::n::rest)) 2=some (V.int (n:Int)):=atK 2 rfl (by simp);refine⟨_,(ag (a9 (PW.pt (pW (aP cZ (ak cU hr (aa (pv 0) af)) ck (aV _)) (mS (aP fR (aD aA (pv 0) ai (fun _ _=>rfl)) (aD aA (pv 0) ai (fun _ _=>rfl)) (aV _)))))
   (ah (az (aK (aa (aU N.cx) af))))
   aI)
  (ah (az ck))),?_⟩
 w_on;refine⟨a,m,r,n::rest,rfl,hg,fun e he z H1 hz s1 h1=>?_,fun he H1 s1=>?_⟩
 ·rw[he]at k;w_on;exact⟨by decide,fun z2 hz2=>k.1 _ rfl z2 _ (s1.free hz2) (s1.trans (aq.new hz2)) aj⟩
 rw[he]at k;w_on;refine bq (s1.seq hg) i2 ?_;w_on;refine bq (s1.seq hg) i0 ?_;w_on;by_cases h2:m<n
 ·simp only[if_pos h2]at k;rw[if_pos (by omega)];exact⟨by decide,fun z2 hz2=>k.1 _ rfl z2 _ (s1.free hz2) (s1.trans (aq.new hz2)) aj⟩
 simp only[if_neg h2]at k;rw[if_neg (by omega)];exact k.2 trivial H1 s1
noncomputable def IW(K:Frag):Sp:=fun vs H Q _=>∃(a:Addr) (m r n:Nat) (rest:List Nat),vs=[.ref a]/\aG K H a (ax (m::r::n::rest))/\ot (Fe m r n) H Q
noncomputable abbrev sx:Stmt:=top 79
theorem w9:aC ["given","refused"] ["given"] (ay sx):=aJ
theorem GB(N:eV mg)(F:bD K "refused_kth" "refused_kth" sx f fd)(cU:Cl P w K mg ae 1 "refused_box" g1 bH iD (DF K)):aM P w K mg ae bo 2 f fd iD (IW K):=by
 refine bG F w9 fun _ _ _ _ H _ Q _ hr h=>?_;obtain⟨a,m,r,n,rest,rfl,hg,k⟩:=h;unfold ot Fe at k;have i1:cW (ax (m::r::n::rest)) 1=some (V.int (r:Int)):=atK 1 rfl (by simp);have i2:cW (ax (m::r::n::rest)) 2=some (V.int (n:Int)):=atK 2 rfl (by simp);refine⟨_,(ag (pz 1 w9 (ak cU hr (aa (pv 0) af)))
  (ag (a9 (aP cZ (pv 1) ck (aV _))
   (ah (az (pv 1)))
   aI)
  (ag (a9 (PW.pt (pW (aP iE (aD aA (pv 0) ai (fun _ _=>rfl)) ai (aV _)) (mS (aP fR (aD aA (pv 0) ai (fun _ _=>rfl)) (aD aA (pv 0) ai (fun _ _=>rfl)) (aV _)))))
   (ah (az (aK (aa (aU N.yw) af))))
   aI)
  (ah (az ck))))),?_⟩
 w_on;refine⟨a,m,r,n::rest,rfl,hg,fun e he z H1 hz s1 h1=>?_,fun he H1 s1=>?_⟩
 ·rw[he]at k;w_on;exact k.1 _ rfl z H1 hz s1 h1
 rw[he]at k;have no:n=0∨r<n->∀z,H1 z=none->Q (.ref z) (upd H1 z (.lst [.int (-33)])):=fun q z hz=>by
  simp only[if_pos q]at k;exact k.1 _ rfl z _ (s1.free hz) (s1.trans (aq.new hz)) aj
 w_on;refine bq (s1.seq hg) i2 ?_;w_on;refine⟨dv _ _,?_⟩;by_cases h1:n=0
 ·rw[if_pos (by omega)];w_on;exact⟨by decide,no (.inl h1)⟩
 rw[if_neg (by omega)];refine bq (s1.seq hg) i2 ?_;w_on;refine bq (s1.seq hg) i1 ?_;w_on;by_cases h2:r<n
 ·rw[if_pos (by omega)];exact⟨by decide,no (.inr h2)⟩
 rw[if_neg (by omega)];simp only[if_neg (show ¬(n=0∨r<n)by omega)]at k;exact k.2 trivial H1 s1
noncomputable def Tv(K:Frag)(IC:Nat->Prop)(val:Nat->Nat->Nat->Rat):Sp:=fun vs H Q _=>∃m r n:Nat,vs=[.int m,.int r,.int n]/\Bb m r/\n<=m/\IC m/\∀z H',aq H H'->bF K H' z (val m r n)->Q (.ref z) H'
noncomputable def mw(P:Program)(w:World)(K:Frag)(mg:Str->Option Value)(ae:Heap):Sp:=fun vs H Q _=>∃(a f:Addr) (m r n:Nat) (rest:List Nat) (IC:Nat->Prop) (val:Nat->Nat->Nat->Rat) (Lv:Hp->Prop),vs=[.ref a,.ref f]/\aG K H a (ax (m::r::n::rest))/\Lv H/\(∀H',aq H H'->Lv H')/\
 Hand P w K mg ae 6 f (fun vs H Q E=>Lv H/\Tv K IC val vs H Q E)/\(Bb m r->n<=m->IC m)/\∀z H',H z=none->aq H H'->H' z=some (.lst (c9 (k5 m r n (cH (val m r n)))))->Q (.ref z) H'
noncomputable abbrev mx:Stmt:=top 80
theorem qF:aC ["given","found","refused"] ["given","found"] (ay mx):=aJ
theorem Ap(F:bD K "answer_of_drawn" "answer_of_drawn" mx f fd)(bJ:Cl P w K mg ae 2 "refused_drawn" g1 bH iD (vw K))
  (aB:Cl P w K mg ae 1 "told_fraction" g2 cp ["pair"] (gz K)):aM P w K mg ae bo 7 f fd ["given","found"] (mw P w K mg ae):=by
 refine bG F qF fun _ _ _ _ H _ Q _ hr h=>?_;obtain⟨a,fh,m,r,n,rest,IC,val,Lv,rfl,hg,hLv,hLs,hand,VB,k⟩:=h;have i0:cW (ax (m::r::n::rest)) 0=some (V.int (m:Int)):=atK 0 rfl (by simp);have i1:cW (ax (m::r::n::rest)) 1=some (V.int (r:Int)):=atK 1 rfl (by simp);have i2:cW (ax (m::r::n::rest)) 2=some (V.int (n:Int)):=atK 2 rfl (by simp);refine⟨_,(ag (pz 2 qF (ak bJ hr (aa (pv 0) af)))
  (ag (a9 (aP cZ (pv 2) ck (aV _))
   (ah (az (pv 2)))
   aI)
  (ah (az (ak aB hr (aa (vd 1 (aa (aD aA (pv 0) ai (fun _ _=>rfl)) (aa (aD aA (pv 0) ai (fun _ _=>rfl)) (aa (aD aA (pv 0) ai (fun _ _=>rfl)) af)))) af)))))),?_⟩
 w_on;refine⟨a,m,r,n,rest,rfl,hg,fun e he z H1 hz s1 h1=>?_,fun he H1 s1=>?_⟩
 ·rw[mN he]at k;w_on;exact k z H1 hz s1 h1
 obtain⟨b1,b2,b3⟩:=kI he;rw[b3]at k;w_on;refine⟨_,rfl,fh,_,rfl,hand.Gn hr,?_⟩;w_on;refine bq (s1.seq hg) i0 ?_;w_on;refine bq (s1.seq hg) i1 ?_;w_on;refine bq (s1.seq hg) i2 ?_;w_on;refine⟨hLs _ s1,m,r,n,rfl,b1,b2,VB b1 b2,fun z1 H2 s2 gC=>?_⟩;exact⟨z1,_,rfl,gC,fun z2 H3 hz2 s3 h3=>k z2 H3 ((s1.trans s2).free hz2) ((s1.trans s2).trans s3) h3⟩
noncomputable def f56(l:List Nat):List Int:=a56 (l.getD 0 0) (l.getD 1 0) (l.getD 2 0)
noncomputable abbrev o5:Stmt:=top 82
theorem nL:aC ["given","refused","sets"] ["given"] (ay o5):=aJ
theorem DI(T:gE mg)(F:bD K "answer_boxall" "answer_boxall" o5 f fd)(bJ:Cl P w K mg ae 2 "refused_drawn" g1 bH iD (vw K))
  (eh:Cl P w K mg ae 3 "sets_by_red" g2 cp ["things","red","drawn"] (DC K)):aM P w K mg ae bo 4 f fd iD (jm K 3 f56):=by
 refine bG F nL fun _ _ _ _ H _ Q _ hr h=>?_;obtain⟨ad,args,rfl,hg,hn,k⟩:=h;obtain⟨m,r,n,rfl⟩:=iq hn;have ek:f56 [m,r,n]=k5 m r n (((n+1:Nat):Int)::((List.range (n+1)).map (ip m r n)).map fun(x:Nat)=>(x:Int)):=rfl;rw[ek]at k;refine⟨_,(ag (pz 1 nL (ak bJ hr (aa (pv 0) af)))
  (ag (a9 (aP cZ (pv 1) ck (aV _))
   (ah (az (pv 1)))
   aI)
  (ag (pz 2 nL (ak eh hr (aa (aD aA (pv 0) ai (fun _ _=>rfl)) (aa (aD aA (pv 0) ai (fun _ _=>rfl)) (aa (aD aA (pv 0) ai (fun _ _=>rfl)) af)))))
  (ah (az (aO lW (aK (aa (aT a6 (by rfl) T.dZ boot_len (aa (pv 2) af)) af)) (pv 2))))))),?_⟩
 w_on;refine⟨ad,m,r,n,[],rfl,hg,fun e he z H1 hz s1 h1=>?_,fun he H1 s1=>?_⟩
 ·rw[mN he]at k;w_on;exact k z H1 hz s1 h1
 obtain⟨b1,b2,b3⟩:=kI he;rw[b3]at k;have hg1:=s1.seq hg;have ht:=b1.top;w_on;refine bq hg1 (show cW _ _=some (V.int (m:Int))from rfl) ?_;w_on;refine bq hg1 (show cW _ _=some (V.int (r:Int))from rfl) ?_;w_on;refine bq hg1 (show cW _ _=some (V.int (n:Int))from rfl) ?_;w_on;refine⟨m,r,n,rfl,b1.top,b1.red,by omega,fun z1 H5 _ s5 gC=>?_⟩;w_on;refine⟨_,.inl (aG.of gC),by decide,fun z hz=>?_⟩;refine wV aj ((aq.new hz) _ _ gC) (iQ (by rw[aX,gB];simp;omega)) fun z2 hz2=>?_;have s6:=(s1.trans s5).trans (aq.new (o:=.lst [V.int ((ax (tab (ip m r n) n)).length:Nat)]) hz);refine k z2 _ (s6.free hz2) (s6.trans (aq.new hz2)) ?_;rw[aj,aX,gB];simp[c9,ax,tab]
noncomputable def f57(l:List Nat):List Int:=a57 (l.getD 0 0) (l.getD 1 0) (l.getD 2 0)
noncomputable abbrev jQ:Stmt:=top 83
theorem mO:aC ["given","refused"] ["given"] (ay jQ):=aJ
theorem vx(T:gE mg)(F:bD K "answer_boxlikeliest" "answer_boxlikeliest" jQ f fd)(bJ:Cl P w K mg ae 2 "refused_drawn" g1 bH iD (vw K))
  (eh:Cl P w K mg ae 3 "sets_by_red" g2 cp ["things","red","drawn"] (DC K))
  (cw:Cl P w K mg ae 1 "first_greatest" g3 c4 ["numbers"] (vi K)):aM P w K mg ae bo 4 f fd iD (jm K 3 f57):=by
 refine bG F mO fun _ _ _ _ H _ Q _ hr h=>?_;obtain⟨ad,args,rfl,hg,hn,k⟩:=h;obtain⟨m,r,n,rfl⟩:=iq hn;have ek:f57 [m,r,n]=k5 m r n ([((cI (ip m r n) n:Nat):Int)]):=rfl;rw[ek]at k;refine⟨_,(ag (pz 1 mO (ak bJ hr (aa (pv 0) af)))
  (ag (a9 (aP cZ (pv 1) ck (aV _))
   (ah (az (pv 1)))
   aI)
  (ah (az (aK (aa (ak cw hr (aa (ak eh hr (aa (aD aA (pv 0) ai (fun _ _=>rfl)) (aa (aD aA (pv 0) ai (fun _ _=>rfl)) (aa (aD aA (pv 0) ai (fun _ _=>rfl)) af)))) af)) af)))))),?_⟩
 w_on;refine⟨ad,m,r,n,[],rfl,hg,fun e he z H1 hz s1 h1=>?_,fun he H1 s1=>?_⟩
 ·rw[mN he]at k;w_on;exact k z H1 hz s1 h1
 obtain⟨b1,b2,b3⟩:=kI he;rw[b3]at k;have hg1:=s1.seq hg;have ht:=b1.top;w_on;refine bq hg1 (show cW _ _=some (V.int (m:Int))from rfl) ?_;w_on;refine bq hg1 (show cW _ _=some (V.int (r:Int))from rfl) ?_;w_on;refine bq hg1 (show cW _ _=some (V.int (n:Int))from rfl) ?_;w_on;refine⟨m,r,n,rfl,b1.top,b1.red,by omega,fun z1 H5 _ s5 gC=>?_⟩;w_on;refine⟨z1,_,_,rfl,aG.of gC,?_⟩;have s6:=s1.trans s5;exact⟨by decide,fun z hz=>k z _ (s6.free hz) (s6.trans (aq.new hz)) aj⟩
noncomputable def f58(l:List Nat):List Int:=a58 (l.getD 0 0) (l.getD 1 0) (l.getD 2 0)
noncomputable abbrev nM:Stmt:=top 84
theorem BZ:aC ["given"] ["given"] (ay nM):=aJ
theorem B0(F:bD K "answer_boxmean" "answer_boxmean" nM f fd)(bE:Cl P w K mg ae 7 "answer_of_drawn" g1 bH ["given","found"] (mw P w K mg ae))
  (pL:Cl P w K mg ae 3 "mean_red" g2 cp ["things","red","drawn"] (NU K)):aM P w K mg ae bo 8 f fd iD (jm K 3 f58):=by
 refine bG F BZ fun _ _ _ _ H vs Q E hr h=>?_;obtain⟨ad,args,rfl,hg,hn,k⟩:=h;obtain⟨m,r,n,rfl⟩:=iq hn;refine⟨_,(ah (az (ak bE hr (aa (pv 0) (aa (eG pL.kq) af))))),?_⟩;w_on;refine⟨ad,g2,m,r,n,[],(fun _=>True),(fun m r n=>mkRat ((n*r:Nat):Int) m),(fun _=>True),rfl,hg,trivial,fun _ _=>trivial,(pL.hand.imp ?_).mono (by decide),fun _ _=>trivial,fun z H1 hz s1 h1=>k z H1 hz s1 h1⟩;rintro vs H Q E ⟨_,m,r,n,h1,h2,h3,_,h4⟩;exact⟨m,r,n,h1,h2.pos,h2.top,h2.red,h3,h4⟩
noncomputable def f59(l:List Nat):List Int:=a59 (l.getD 0 0) (l.getD 1 0) (l.getD 2 0)
noncomputable abbrev lz:Stmt:=top 85
theorem yQ:aC ["given"] ["given"] (ay lz):=aJ
theorem yR(N:eV mg)(F:bD K "answer_boxspread" "answer_boxspread" lz f fd)(bE:Cl P w K mg ae 7 "answer_of_drawn" g1 bH ["given","found"] (mw P w K mg ae))
  (lP:Cl P w K mg ae 3 "red_spread" g2 cp ["things","red","drawn"] (K0 K))(bJ:Cl P w K mg ae 2 "refused_drawn" g3 c4 iD (vw K)):aM P w K mg ae bo 8 f fd iD (jm K 3 f59):=by
 refine bG F yQ fun _ _ _ _ H vs Q E hr h=>?_;obtain⟨ad,args,rfl,hg,hn,k⟩:=h;obtain⟨m,r,n,rfl⟩:=iq hn;have ek:f59 [m,r,n]=k5 m r n (if m<2 then[-6]else cH (mkRat ((n*r*(m - r)*(m - n):Nat):Int) (m*m*(m - 1)))):=rfl;rw[ek]at k;refine⟨_,(ag (a9 (PW.pt (La (aP G4 (ak bJ hr (aa (pv 0) af)) ck (aV _)) (Hm (aP xW (aD aA (pv 0) ai (fun _ _=>rfl)) ai (aV _)))))
   (ah (az (aK (aa (aU N.Gh) af))))
   aI)
  (ah (az (ak bE hr (aa (pv 0) (aa (eG lP.kq) af)))))),?_⟩
 w_on;have go:∀H1,aq H H1->(u0 m r n=none->2<=m)->mw P w K mg ae [.ref ad,.ref g2] H1 (fun v H'=>Q v H') (fun _ _ _=>False):=fun H1 s1 h2=>by
  refine⟨ad,g2,m,r,n,[],(fun m=>2<=m),(fun m r n=>mkRat ((n*r*(m - r)*(m - n):Nat):Int) (m*m*(m - 1))),(fun _=>True),rfl,s1.seq hg,trivial,fun _ _=>trivial,(lP.hand.imp ?_).mono (by decide),fun b1 b2=>?_,fun z H2 hz s2 h3=>k z H2 (s1.free hz) (s1.trans s2) ?_⟩
  ·rintro vs H Q E ⟨_,m,r,n,h1,h2,h3,h5,h4⟩;exact⟨m,r,n,h1,h5,h2.top,h2.red,h3,h4⟩
  ·cases e:u0 m r n with
   |none=>exact h2 e
   |some e'=>
    unfold u0 su at e;rw[if_neg (by have:=b1.pos;have:=b1.top;have:=b1.red;omega)]at e;simp only[if_neg (show ¬m<n by omega)]at e;cases e
  rw[h3];cases e:u0 m r n with
  |none=>
   have h4:=h2 e;rw[(kI e).2.2,(kI e).2.2,if_neg (by omega)]
  |some e'=>rw[mN e,mN e]
 refine⟨ad,m,r,n,[],rfl,hg,fun e he z H1 hz s1 h1=>?_,fun he H1 s1=>?_⟩
 ·w_on;exact go H1 s1 (fun q=>by rw[he]at q;cases q)
 w_on;refine bq (s1.seq hg) (show cW _ _=some (V.int (m:Int))from rfl) ?_;w_on;by_cases h2:m<2
 ·rw[(kI he).2.2,if_pos h2]at k;rw[if_pos (by omega)];exact⟨by decide,fun z hz=>k z _ (s1.free hz) (s1.trans (aq.new hz)) aj⟩
 rw[if_neg (by omega)];w_on;exact go H1 s1 fun _=>by omega
noncomputable def f61(l:List Nat):List Int:=a61 (l.getD 0 0) (l.getD 1 0) (l.getD 2 0) (l.getD 3 0) (l.getD 4 0)
theorem Tw{a c u b:Nat}(hb:b≠0):(¬(mkRat (u:Int) b).num*(c:Int)<(a:Int)*((mkRat (u:Int) b).den:Nat))↔a*b<=c*u:=by
 have e:=Rat.mkRat_self (mkRat (u:Int) b);have hd:(mkRat (u:Int) b).den≠0:=(mkRat (u:Int) b).den_nz;have key:(mkRat (u:Int) b).num*(b:Int)=(u:Int)*((mkRat (u:Int) b).den:Nat):=(Rat.mkRat_eq_iff hd hb).mp e;generalize (mkRat (u:Int) b).num=p at*;generalize (mkRat (u:Int) b).den=q at*;have hq:(0:Int)<(q:Nat):=by omega
 have hbp:(0:Int)<(b:Nat):=by omega
 rw[Int.not_lt];constructor
 ·intro h;have h1:(a:Int)*(q:Int)*(b:Int)<=p*(c:Int)*(b:Int):=Int.mul_le_mul_of_nonneg_right h (by omega);have e1:p*(c:Int)*(b:Int)=(c:Int)*(u:Int)*(q:Int):=by grind
  have e2:(a:Int)*(q:Int)*(b:Int)=(a:Int)*(b:Int)*(q:Int):=by grind
  rw[e1,e2]at h1;have h2:=Int.le_of_mul_le_mul_right h1 hq;have e3:(a:Int)*(b:Int)=((a*b:Nat):Int):=by rw[Int.natCast_mul]
  have e4:(c:Int)*(u:Int)=((c*u:Nat):Int):=by rw[Int.natCast_mul]
  rw[e3,e4]at h2;omega
 intro h;have h0:((a*b:Nat):Int)<=((c*u:Nat):Int):=by omega
 rw[Int.natCast_mul,Int.natCast_mul]at h0;have h1:(a:Int)*(b:Int)*(q:Int)<=(c:Int)*(u:Int)*(q:Int):=Int.mul_le_mul_of_nonneg_right h0 (by omega);have e1:(c:Int)*(u:Int)*(q:Int)=p*(c:Int)*(b:Int):=by grind
 have e2:(a:Int)*(b:Int)*(q:Int)=(a:Int)*(q:Int)*(b:Int):=by grind
 rw[e1,e2]at h1;exact Int.le_of_mul_le_mul_right h1 hbp
theorem RR{n:Nat}(h:n<2 ^ 60):Sm (n:Int):=jj (gb h)
noncomputable abbrev lA:Stmt:=top 87
theorem i9:aC ["given","refused","likely","drawn"] ["given"] (ay lA):=aJ
theorem yS(T:gE mg)(N:eV mg)(F:bD K "answer_boxneeded" "answer_boxneeded" lA f fd)(cU:Cl P w K mg ae 1 "refused_box" g1 bH iD (DF K))
  (fe:Cl P w K mg ae 1 "is_less" g2 cp ["one","other"] (CO K))(eR:Cl P w K mg ae 4 "likely_at_least" g3 c4 ["things","red","drawn","least_red"] (Fd K)):aM P w K mg ae bo 5 f fd iD (jm K 5 f61):=by
 refine bG F i9 fun _ _ _ _ H _ Q _ hr h=>?_;obtain⟨ad,args,rfl,hg,hn,k⟩:=h;obtain⟨m,r,x,a,c,rfl⟩:=j9 hn;have ek:f61 [m,r,x,a,c]=gx m r (if ¬(1<=c/\c<=1000)∨c<a then[-22]else match m3 m r x a c with
  |some n=>[(n:Int)]
  |none=>[-33]):=rfl
 rw[ek]at k;refine⟨_,(ag (pz 1 i9 (ak cU hr (aa (pv 0) af)))
  (ag (a9 (aP cZ (pv 1) ck (aV _))
   (ah (az (pv 1)))
   aI)
  (ag (pz 2 i9 (mW (aa (aD aA (pv 0) ai (fun _ _=>rfl)) (aa (aD aA (pv 0) ai (fun _ _=>rfl)) af))))
  (ag (a9 (PW.pt (pW (fN (zM uz uz ai (aD gX (pv 2) ai (fun _ _=>rfl)) (aU N.ve))) (mS (aP fR (aD gX (pv 2) ai (fun _ _=>rfl)) (aD gX (pv 2) ai (fun _ _=>rfl)) (aV _)))))
   (ah (az (aK (aa (aU N.cx) af))))
   aI)
  (ag (fQ PassesOwn.never rfl (eK rfl T.gA (aa (aO dh (aD aA (pv 0) ai (fun _ _=>rfl)) ai) af)) (qz 3 i9)
   (ah (a9 (fN (eU (ak fe hr (aa (ak eR hr (aa (aD aA (pv 0) ai (fun _ _=>rfl)) (aa (aD aA (pv 0) ai (fun _ _=>rfl)) (aa (pv 3) (aa (aD aA (pv 0) ai (fun _ _=>rfl)) af))))) (aa (pv 2) af)))))
   (ah (az (aK (aa (pv 3) af))))
   aI)))
  (ah (az (aK (aa (aU N.NH) af))))))))),?_⟩
 w_on;refine⟨ad,m,r,_,rfl,hg,fun e he z H1 hz s1 h1=>?_,fun he H1 s1=>?_⟩
 ·rw[zX he]at k;w_on;exact k z H1 hz s1 h1
 obtain⟨b1,b2⟩:=rB he;rw[b2]at k;have ht:=b1.top;have hg1:=s1.seq hg;w_on;refine bq hg1 (show cW _ _=some (V.int (a:Int))from rfl) ?_;w_on;refine bq hg1 (show cW _ _=some (V.int (c:Int))from rfl) ?_;w_on;refine⟨by decide,fun p hp=>?_⟩;have s2:aq H1 (upd H1 p (.tup [V.int (a:Int),V.int (c:Int)])):=aq.new hp;have p2:(upd H1 p (.tup [V.int (a:Int),V.int (c:Int)])) p=some (.tup [V.int (a:Int),V.int (c:Int)]):=aj;generalize upd H1 p (.tup [V.int (a:Int),V.int (c:Int)])=H2 at s2 p2 ⊢;have s12:=s1.trans s2;have no:¬(1<=c/\c<=1000)∨c<a->∀z,H2 z=none->Q (.ref z) (upd H2 z (.lst [.int (-22)])):=fun q z hz=>by
  rw[if_pos q]at k;exact k z _ (s12.free hz) (s12.trans (aq.new hz)) aj
 w_on;refine xB (ik.of p2) (show cW _ _=some (V.int (c:Int))from rfl) ?_;w_on;have fin:1<=c->c<=1000->a<=c->True:=fun _ _ _=>trivial;by_cases h1:1<=c
 case neg=>
  rw[if_neg (by omega)];w_on;exact⟨by decide,no (.inl fun q=>h1 q.1)⟩
 rw[if_pos (by omega)];w_on;by_cases h2:c<=1000
 case neg=>
  rw[if_pos (by simp;omega)];w_on;exact⟨by decide,no (.inl fun q=>h2 q.2)⟩
 rw[if_neg (by simp;omega)];refine xB (ik.of p2) (show cW _ _=some (V.int (a:Int))from rfl) ?_;w_on;refine xB (ik.of p2) (show cW _ _=some (V.int (c:Int))from rfl) ?_;w_on;by_cases h3:c<a
 case pos=>
  rw[if_pos (by omega)];exact⟨by decide,no (.inr h3)⟩
 rw[if_neg (by omega)];rw[if_neg (by omega)]at k;refine kY (m+1) (by omega) (fun R r=>by
   w_on;refine bq (s12.seq hg) (show cW _ _=some (V.int (m:Int))from rfl) ?_;w_on;rw[show(m:Int)+1=((m+1:Nat):Int)by omega];exact r)
  (fun i σ H'=>aq H2 H'/\(∀j,j<i->¬a*Kp291.choose m j<=c*mZ m r j x)/\∃v1 v3,σ=[some (.ref ad),v1,some (.ref p),v3]) ⟨aq.refl _,fun j hj=>by omega,_,_,rfl⟩ ?_ ?_
 ·rintro i σ H3 hi ⟨s3,mQ,v1,v3,rfl⟩;have uY:=s12.trans s3;w_on;refine bq (uY.seq hg) (show cW _ _=some (V.int (m:Int))from rfl) ?_;w_on;refine bq (uY.seq hg) (show cW _ _=some (V.int (r:Int))from rfl) ?_;w_on;refine bq (uY.seq hg) (show cW _ _=some (V.int (x:Int))from rfl) ?_;w_on;refine⟨m,r,i,x,rfl,b1.top,b1.red,by omega,fun z1 H4 s4 gC=>?_⟩;w_on;have hfit:=LX (m:=m) (r:=r) (n:=i) x b1.top b1.red (by omega);refine⟨z1,p,_,_,_,_,rfl,gC.tup,ik.of (s4 _ _ (s3 _ _ p2)),hfit.U0,hfit.Ql,RR (by omega),RR (by omega),?_⟩;w_on;have key:(¬(zT m r i x).num*(c:Int)<(a:Int)*((zT m r i x).den:Nat))↔a*Kp291.choose m i<=c*mZ m r i x:=Tw (Nat.ne_of_gt (jC b1.top (by omega)));have BW:=uY.trans s4;by_cases h4:a*Kp291.choose m i<=c*mZ m r i x
  ·rw[if_pos (by rw[decide_eq_false (key.mpr h4)];rfl)];have e:m3 m r x a c=some i:=by
    unfold m3;exact tL (by omega) (decide_eq_true h4) (fun j hj=>decide_eq_false (mQ j hj))
   rw[e]at k;exact⟨by decide,fun z hz=>k z _ (BW.free hz) (BW.trans (aq.new hz)) aj⟩
  rw[if_neg (by rw[decide_eq_true (Classical.byContradiction fun q=>h4 (key.mp q))];simp)];refine⟨s3.trans s4,fun j hj=>?_⟩;by_cases Lw:j=i
  ·rw[Lw];exact h4
  exact mQ j (by omega)
 rintro σ H3 ⟨s3,mQ,v1,v3,rfl⟩;have uY:=s12.trans s3;w_on;have e:m3 m r x a c=none:=by
  unfold m3;exact find_none fun j hj=>decide_eq_false (mQ j hj)
 rw[e]at k;exact⟨by decide,fun z hz=>k z _ (uY.free hz) (uY.trans (aq.new hz)) aj⟩
noncomputable def f62(l:List Nat):List Int:=a62 (l.getD 0 0) (l.getD 1 0) (l.getD 2 0) (l.getD 3 0)
noncomputable abbrev mB:Stmt:=top 88
theorem qG:aC ["given","refused"] ["given"] (ay mB):=aJ
theorem Aq(N:eV mg)(F:bD K "answer_boxkthat" "answer_boxkthat" mB f fd)(gQ:Cl P w K mg ae 2 "refused_kth" g1 bH iD (IW K))
  (k7:Cl P w K mg ae 3 "likely_kth_at" g2 cp ["things","red","place","draw"] (VD K))(aB:Cl P w K mg ae 1 "told_fraction" g3 c4 ["pair"] (gz K)):aM P w K mg ae bo 4 f fd iD (jm K 4 f62):=by
 refine bG F qG fun _ _ _ _ H _ Q _ hr h=>?_;obtain⟨ad,args,rfl,hg,hn,k⟩:=h;obtain⟨m,r,x,n,rfl⟩:=iF hn;have ek:f62 [m,r,x,n]=zY m r x (if ¬(1<=n/\n<=m)then[-22]else cH (RH m r x n)):=rfl;rw[ek]at k;refine⟨_,(ag (pz 1 qG (ak gQ hr (aa (pv 0) af)))
  (ag (a9 (aP cZ (pv 1) ck (aV _))
   (ah (az (pv 1)))
   aI)
  (ag (a9 (fN (zM uz uz ai (aD aA (pv 0) ai (fun _ _=>rfl)) (aD aA (pv 0) ai (fun _ _=>rfl))))
   (ah (az (aK (aa (aU N.cx) af))))
   aI)
  (ah (az (ak aB hr (aa (ak k7 hr (aa (aD aA (pv 0) ai (fun _ _=>rfl)) (aa (aD aA (pv 0) ai (fun _ _=>rfl)) (aa (aD aA (pv 0) ai (fun _ _=>rfl)) (aa (aD aA (pv 0) ai (fun _ _=>rfl)) af))))) af))))))),?_⟩
 w_on;refine⟨ad,m,r,x,[n],rfl,hg,fun e he z H1 hz s1 h1=>?_,fun he H1 s1=>?_⟩
 ·rw[K1 he]at k;w_on;exact k z H1 hz s1 h1
 obtain⟨b1,b2,b3,b4⟩:=K2 he;rw[b4]at k;have hg1:=s1.seq hg;have no:¬(1<=n/\n<=m)->∀z,H1 z=none->Q (.ref z) (upd H1 z (.lst [.int (-22)])):=fun q z hz=>by
  rw[if_pos q]at k;exact k z _ (s1.free hz) (s1.trans (aq.new hz)) aj
 w_on;refine bq hg1 (show cW _ _=some (V.int (n:Int))from rfl) ?_;w_on;by_cases h1:1<=n
 case neg=>
  rw[if_neg (by omega)];w_on;exact⟨by decide,no fun q=>h1 q.1⟩
 rw[if_pos (by omega)];refine bq hg1 (show cW _ _=some (V.int (m:Int))from rfl) ?_;w_on;by_cases h2:n<=m
 case neg=>
  rw[if_pos (by simp;omega)];exact⟨by decide,no fun q=>h2 q.2⟩
 rw[if_neg (by simp;omega)];rw[if_neg (fun q=>q ⟨h1,h2⟩)]at k;refine bq hg1 (show cW _ _=some (V.int (m:Int))from rfl) ?_;w_on;refine bq hg1 (show cW _ _=some (V.int (r:Int))from rfl) ?_;w_on;refine bq hg1 (show cW _ _=some (V.int (x:Int))from rfl) ?_;w_on;refine bq hg1 (show cW _ _=some (V.int (n:Int))from rfl) ?_;w_on;refine⟨m,r,x,n,rfl,b1.top,b1.red,b2,b3,h1,h2,fun z1 H2 s2 gC=>?_⟩;exact⟨z1,_,rfl,gC,fun z2 H3 hz2 s3 h3=>k z2 H3 ((s1.trans s2).free hz2) ((s1.trans s2).trans s3) h3⟩
noncomputable def f63(l:List Nat):List Int:=a63 (l.getD 0 0) (l.getD 1 0) (l.getD 2 0)
noncomputable abbrev kJ:Stmt:=top 89
theorem ow:aC ["given","refused"] ["given"] (ay kJ):=aJ
theorem xF(F:bD K "answer_boxkthmean" "answer_boxkthmean" kJ f fd)(gQ:Cl P w K mg ae 2 "refused_kth" g1 bH iD (IW K))
  (t6:Cl P w K mg ae 3 "mean_kth" g2 cp ["things","red","place"] (RQ K))(aB:Cl P w K mg ae 1 "told_fraction" g3 c4 ["pair"] (gz K)):aM P w K mg ae bo 4 f fd iD (jm K 3 f63):=by
 refine bG F ow fun _ _ _ _ H _ Q _ hr h=>?_;obtain⟨ad,args,rfl,hg,hn,k⟩:=h;obtain⟨m,r,x,rfl⟩:=iq hn;have ek:f63 [m,r,x]=zY m r x (cH (mkRat ((x*(m+1):Nat):Int) (r+1))):=rfl;rw[ek]at k;refine⟨_,(ag (pz 1 ow (ak gQ hr (aa (pv 0) af)))
  (ag (a9 (aP cZ (pv 1) ck (aV _))
   (ah (az (pv 1)))
   aI)
  (ah (az (ak aB hr (aa (ak t6 hr (aa (aD aA (pv 0) ai (fun _ _=>rfl)) (aa (aD aA (pv 0) ai (fun _ _=>rfl)) (aa (aD aA (pv 0) ai (fun _ _=>rfl)) af)))) af)))))),?_⟩
 w_on;refine⟨ad,m,r,x,[],rfl,hg,fun e he z H1 hz s1 h1=>?_,fun he H1 s1=>?_⟩
 ·rw[K1 he]at k;w_on;exact k z H1 hz s1 h1
 obtain⟨b1,b2,b3,b4⟩:=K2 he;rw[b4]at k;have hg1:=s1.seq hg;w_on;refine bq hg1 (show cW _ _=some (V.int (m:Int))from rfl) ?_;w_on;refine bq hg1 (show cW _ _=some (V.int (r:Int))from rfl) ?_;w_on;refine bq hg1 (show cW _ _=some (V.int (x:Int))from rfl) ?_;w_on;refine⟨m,r,x,rfl,b1.top,b1.red,b3,fun z1 H2 s2 gC=>?_⟩;exact⟨z1,_,rfl,gC,fun z2 H3 hz2 s3 h3=>k z2 H3 ((s1.trans s2).free hz2) ((s1.trans s2).trans s3) h3⟩
noncomputable def f65(l:List Nat):List Int:=a65 (l.getD 0 0) (l.getD 1 0) (l.getD 2 0) (l.getD 3 0)
noncomputable abbrev mC:Stmt:=top 91
theorem qH:aC ["given","refused"] ["given"] (ay mC):=aJ
theorem Ar(N:eV mg)(F:bD K "answer_boxguess" "answer_boxguess" mC f fd)(bJ:Cl P w K mg ae 2 "refused_drawn" g1 bH iD (vw K))
  (k8:Cl P w K mg ae 3 "likeliest_red" g2 cp ["things","drawn","drawn_red"] NV):aM P w K mg ae bo 4 f fd iD (jm K 4 f65):=by
 refine bG F qH fun _ _ _ _ H _ Q _ hr h=>?_;obtain⟨ad,args,rfl,hg,hn,k⟩:=h;obtain⟨m,r,n,x,rfl⟩:=iF hn;have ek:f65 [m,r,n,x]=k5 m r n (if n<x then[-22]else[((cI (fun r=>ip m r n x) m:Nat):Int)]):=rfl;rw[ek]at k;refine⟨_,(ag (pz 1 qH (ak bJ hr (aa (pv 0) af)))
  (ag (a9 (aP cZ (pv 1) ck (aV _))
   (ah (az (pv 1)))
   aI)
  (ag (a9 (aP fR (aD aA (pv 0) ai (fun _ _=>rfl)) (aD aA (pv 0) ai (fun _ _=>rfl)) (aV _))
   (ah (az (aK (aa (aU N.cx) af))))
   aI)
  (ah (az (aK (aa (ak k8 hr (aa (aD aA (pv 0) ai (fun _ _=>rfl)) (aa (aD aA (pv 0) ai (fun _ _=>rfl)) (aa (aD aA (pv 0) ai (fun _ _=>rfl)) af)))) af))))))),?_⟩
 w_on;refine⟨ad,m,r,n,[x],rfl,hg,fun e he z H1 hz s1 h1=>?_,fun he H1 s1=>?_⟩
 ·rw[mN he]at k;w_on;exact k z H1 hz s1 h1
 obtain⟨b1,b2,b3⟩:=kI he;rw[b3]at k;have hg1:=s1.seq hg;w_on;refine bq hg1 (show cW _ _=some (V.int (x:Int))from rfl) ?_;w_on;refine bq hg1 (show cW _ _=some (V.int (n:Int))from rfl) ?_;w_on;by_cases h1:n<x
 ·rw[if_pos h1]at k;rw[if_pos (by omega)];exact⟨by decide,fun z hz=>k z _ (s1.free hz) (s1.trans (aq.new hz)) aj⟩
 rw[if_neg h1]at k;rw[if_neg (by omega)];refine bq hg1 (show cW _ _=some (V.int (m:Int))from rfl) ?_;w_on;refine bq hg1 (show cW _ _=some (V.int (n:Int))from rfl) ?_;w_on;refine bq hg1 (show cW _ _=some (V.int (x:Int))from rfl) ?_;w_on;refine⟨m,n,x,rfl,b1.top,b2,by omega,fun H2 s2=>?_⟩;w_on;have s12:=s1.trans s2;exact⟨by decide,fun z hz=>k z _ (s12.free hz) (s12.trans (aq.new hz)) aj⟩
noncomputable def f66(l:List Nat):List Int:=a66 (l.getD 0 0) (l.getD 1 0) (l.getD 2 0)
noncomputable abbrev kK:Stmt:=top 92
theorem ox:aC ["given","refused"] ["given"] (ay kK):=aJ
theorem xG(N:eV mg)(F:bD K "answer_boxcertain" "answer_boxcertain" kK f fd)(cU:Cl P w K mg ae 1 "refused_box" g1 bH iD (DF K)):aM P w K mg ae bo 2 f fd iD (jm K 3 f66):=by
 refine bG F ox fun _ _ _ _ H _ Q _ hr h=>?_;obtain⟨ad,args,rfl,hg,hn,k⟩:=h;obtain⟨m,r,x,rfl⟩:=iq hn;have ek:f66 [m,r,x]=gx m r (if r<x then[-33]else if x=0 then[0]else[((m - r+x:Nat):Int)]):=rfl;rw[ek]at k;refine⟨_,(ag (pz 1 ox (ak cU hr (aa (pv 0) af)))
  (ag (a9 (aP cZ (pv 1) ck (aV _))
   (ah (az (pv 1)))
   aI)
  (ag (a9 (aP fR (aD aA (pv 0) ai (fun _ _=>rfl)) (aD aA (pv 0) ai (fun _ _=>rfl)) (aV _))
   (ah (az (aK (aa (aU N.yw) af))))
   aI)
  (ag (a9 (aP iE (aD aA (pv 0) ai (fun _ _=>rfl)) ai (aV _))
   (ah (az (aK (aa ai af))))
   aI)
  (ah (az (aK (aa (aO dh (aO dU (aD aA (pv 0) ai (fun _ _=>rfl)) (aD aA (pv 0) ai (fun _ _=>rfl))) (aD aA (pv 0) ai (fun _ _=>rfl))) af)))))))),?_⟩
 w_on;refine⟨ad,m,r,_,rfl,hg,fun e he z H1 hz s1 h1=>?_,fun he H1 s1=>?_⟩
 ·rw[zX he]at k;w_on;exact k z H1 hz s1 h1
 obtain⟨b1,b2⟩:=rB he;have ab3:=b1.red;rw[b2]at k;have hg1:=s1.seq hg;w_on;refine bq hg1 (show cW _ _=some (V.int (x:Int))from rfl) ?_;w_on;refine bq hg1 (show cW _ _=some (V.int (r:Int))from rfl) ?_;w_on;by_cases h1:r<x
 ·rw[if_pos h1]at k;rw[if_pos (by omega)];exact⟨by decide,fun z hz=>k z _ (s1.free hz) (s1.trans (aq.new hz)) aj⟩
 rw[if_neg h1]at k;rw[if_neg (by omega)];refine bq hg1 (show cW _ _=some (V.int (x:Int))from rfl) ?_;w_on;refine⟨dv _ _,?_⟩;by_cases h2:x=0
 ·rw[if_pos h2]at k;rw[if_pos (by omega)];exact⟨by decide,fun z hz=>k z _ (s1.free hz) (s1.trans (aq.new hz)) aj⟩
 rw[if_neg h2]at k;rw[if_neg (by omega)];refine bq hg1 (show cW _ _=some (V.int (m:Int))from rfl) ?_;w_on;refine bq hg1 (show cW _ _=some (V.int (r:Int))from rfl) ?_;w_on;refine bq hg1 (show cW _ _=some (V.int (x:Int))from rfl) ?_;w_on;have e:(m:Int) - (r:Int)+(x:Int)=((m - r+x:Nat):Int):=by omega
 rw[e];exact⟨by decide,fun z hz=>k z _ (s1.free hz) (s1.trans (aq.new hz)) aj⟩
abbrev lB:Stmt:=top 132
theorem yT:aC ["album","given"] ["album","given"] (ay lB):=aJ
theorem yU(N:eV mg)(F:bD K "answer_meankinds" "answer_meankinds" lB f fd)(aH:Cl P w K mg ae 7 "answer_of_draws" g1 bH ["album","draws","most","found"] (ib P w K mg ae C))
  (cN:Cl P w K mg ae 4 "mean_kinds" g2 cp ["weights","draws"] (nA K)):aM P w K mg ae bo 8 f fd ef (cQ K C 1 (gk 12 ke)):=by
 refine bG F yT fun _ A _ _ H vs Q E hr h=>?_;obtain⟨A,t,g,args,rfl,ha,hg,fJ,hn,k⟩:=h;obtain⟨n,rfl⟩:=list1 hn;refine⟨_,(ah (az (ak aH hr (aa (pv 0) (aa (aD aA (pv 1) ai (fun _ _=>rfl)) (aa (aU N.cq) (aa (eG cN.kq) af))))))),?_⟩;w_on;refine bq hg (jU n) ?_;w_on;refine⟨A,t,n,12,g2,(fun _=>True),ke,(fun _=>True),rfl,ha,trivial,fun _ _=>trivial,(cN.hand.imp ?_).mono (by decide),by decide,fun _ _=>trivial,fun z H1 hz s1 h1=>?_⟩
 ·rintro vs H Q E ⟨_,a,l,n,h1,h2,h3,h4,h5,_,h6⟩;exact⟨a,l,n,h1,h2,h3,h4,by omega,h6⟩
 exact a8 ha k rfl s1 hz h1
abbrev sy:Stmt:=top 133
theorem GC:aC ["album","given"] ["album","given"] (ay sy):=aJ
theorem GD(N:eV mg)(F:bD K "answer_adds" "answer_adds" sy f fd)(aH:Cl P w K mg ae 7 "answer_of_draws" g1 bH ["album","draws","most","found"] (ib P w K mg ae C))
  (lQ:Cl P w K mg ae 5 "mean_added" g2 cp ["weights","draws"] (Dn K)):aM P w K mg ae bo 8 f fd ef (cQ K C 1 (gk 12 HW)):=by
 refine bG F GC fun _ A _ _ H vs Q E hr h=>?_;obtain⟨A,t,g,args,rfl,ha,hg,fJ,hn,k⟩:=h;obtain⟨n,rfl⟩:=list1 hn;refine⟨_,(ah (az (ak aH hr (aa (pv 0) (aa (aD aA (pv 1) ai (fun _ _=>rfl)) (aa (aU N.cq) (aa (eG lQ.kq) af))))))),?_⟩;w_on;refine bq hg (jU n) ?_;w_on;refine⟨A,t,n,12,g2,(fun _=>True),HW,(fun _=>True),rfl,ha,trivial,fun _ _=>trivial,(lQ.hand.imp ?_).mono (by decide),by decide,fun _ _=>trivial,fun z H1 hz s1 h1=>?_⟩
 ·rintro vs H Q E ⟨_,a,l,n,h1,h2,h3,h4,h5,_,h6⟩;exact⟨a,l,n,h1,h2,h3,h4,by omega,h6⟩
 exact a8 ha k rfl s1 hz h1
abbrev lC:Stmt:=top 136
theorem yV:aC ["album","given"] ["album","given"] (ay lC):=aJ
theorem yW(N:eV mg)(F:bD K "answer_evenkinds" "answer_evenkinds" lC f fd)(aH:Cl P w K mg ae 7 "answer_of_draws" g1 bH ["album","draws","most","found"] (ib P w K mg ae C))
  (nN:Cl P w K mg ae 5 "mean_even" g2 cp ["weights","draws"] (FY K)):aM P w K mg ae bo 8 f fd ef (cQ K C 1 (gk 12 zR)):=by
 refine bG F yV fun _ A _ _ H vs Q E hr h=>?_;obtain⟨A,t,g,args,rfl,ha,hg,fJ,hn,k⟩:=h;obtain⟨n,rfl⟩:=list1 hn;refine⟨_,(ah (az (ak aH hr (aa (pv 0) (aa (aD aA (pv 1) ai (fun _ _=>rfl)) (aa (aU N.cq) (aa (eG nN.kq) af))))))),?_⟩;w_on;refine bq hg (jU n) ?_;w_on;refine⟨A,t,n,12,g2,(fun _=>True),zR,(fun _=>True),rfl,ha,trivial,fun _ _=>trivial,(nN.hand.imp ?_).mono (by decide),by decide,fun _ _=>trivial,fun z H1 hz s1 h1=>?_⟩
 ·rintro vs H Q E ⟨_,a,l,n,h1,h2,h3,h4,h5,_,h6⟩;exact⟨a,l,n,h1,h2,h3,h4,by omega,h6⟩
 exact a8 ha k rfl s1 hz h1
theorem QW(n m:Nat):(if((m:Int)<(n:Int))then(m:Int)else(n:Int))=((min n m:Nat):Int):=by
 by_cases h:(m:Int)<(n:Int)
 ·rw[if_pos h];omega
 rw[if_neg h];omega
def f35(t:Table)(args:List Nat):Table×List Int:=(t,Nc t.kinds (args.getD 0 0))
theorem Tz{l:List Nat}{n:Nat}{e:Int}(h:sf l n 12=some e):Nc l n=[e]:=by
 unfold sf at h;unfold Nc;by_cases h1:l.length=0
 ·rw[if_pos h1]at h ⊢;rw[<- Option.some.inj h]
 rw[if_neg h1]at h ⊢;by_cases h2:12<n
 ·rw[if_pos h2]at h ⊢;rw[<- Option.some.inj h]
 rw[if_neg h2]at h;cases h
theorem TB{l:List Nat}{n:Nat}(h:sf l n 12=none):Nc l n=((l.length+1:Nat):Int)::(tab (J l n) l.length).map fun(x:Nat)=>(x:Int):=by
 obtain⟨h1,h2⟩:=oN h;unfold Nc;rw[if_neg h1,if_neg (by omega)];rfl
abbrev kL:Stmt:=top 131
theorem kc:aC ["album","given","refused","rows"] ["album","given"] (ay kL):=aJ
theorem xH(X:gm K mg C)(N:eV mg)(F:bD K "answer_allnumbers" "answer_allnumbers" kL f fd)(cz:Cl P w K mg ae 1 "refused_draws" g1 bH ["album","draws","most"] (Df C))
  (dy:Cl P w K mg ae 3 "rows_by_kinds" g2 cp ["weights","draws"] (Dl K)):aM P w K mg ae bo 4 f fd ef (cQ K C 1 f35):=by
 have T:=X.blt;refine bG F kc fun _ A _ _ H _ Q _ hr h=>?_;obtain⟨A,t,g,args,rfl,ha,hg,fJ,hn,k⟩:=h;obtain⟨n,rfl⟩:=list1 hn;have ek:f35 t [n]=(t,Nc t.kinds n):=rfl;rw[ek]at k;have hf:=ha.ok.jr;refine⟨_,(ag (pz 2 kc (ak cz hr (aa (pv 0) (aa (aD aA (pv 1) ai (fun _ _=>rfl)) (aa (aU N.cq) af)))))
  (ag (a9 (aP cZ (pv 2) ck (aV _))
   (ah (az (pv 2)))
   aI)
  (ag (pz 3 kc (ak dy hr (aa (bg (pv 0) rfl) (aa (aD aA (pv 1) ai (fun _ _=>rfl)) af))))
  (ah (az (aO lW (aK (aa (aT a6 (by rfl) T.dZ boot_len (aa (pv 3) af)) af)) (pv 3))))))),?_⟩
 w_on;refine bq hg (jU n) ?_;w_on;refine⟨A,true,t,n,12,rfl,ha,fun e he z H1 hz s1 h1=>?_,fun he H1 s1=>?_⟩
 ·rw[Tz he]at k;w_on;exact a8 ha k rfl s1 hz h1
 rw[TB he]at k;obtain⟨h0,VE⟩:=oN he;have ha1:=ha.same s1;w_on;refine fW X ha1 ?_;w_on;refine bq (s1.seq hg) (jU n) ?_;w_on;refine⟨A.aw,t.kinds,n,rfl,aG.of ha1.fY,ha.ok,VE,fun z1 H2 _ s2 h2=>?_⟩;w_on;refine⟨_,.inl (aG.of h2),by decide,fun z hz=>?_⟩;refine wV aj ((aq.new hz) _ _ h2) (iQ (by rw[aX,gB];simp;omega)) fun z2 hz2=>?_;have s3:=(s1.trans s2).trans (aq.new (o:=.lst [V.int ((ax (tab (J t.kinds n) t.kinds.length)).length:Nat)]) hz);refine a8 ha k rfl (s3.trans (aq.new hz2)) (s3.free hz2) ?_;rw[aj,aX,gB];simp[c9,ax]
def f38(t:Table)(args:List Nat):Table×List Int:=(t,OZ t.kinds (args.getD 0 0))
theorem TC{l:List Nat}{n:Nat}{e:Int}(h:sf l n 12=some e):OZ l n=[e]:=by
 unfold sf at h;unfold OZ;by_cases h1:l.length=0
 ·rw[if_pos h1]at h ⊢;rw[<- Option.some.inj h]
 rw[if_neg h1]at h ⊢;by_cases h2:12<n
 ·rw[if_pos h2]at h ⊢;rw[<- Option.some.inj h]
 rw[if_neg h2]at h;cases h
abbrev lE:Stmt:=top 134
theorem pM:aC ["album","given","refused"] ["album","given"] (ay lE):=aJ
theorem yX(X:gm K mg C)(N:eV mg)(F:bD K "answer_likeliest" "answer_likeliest" lE f fd)(cz:Cl P w K mg ae 1 "refused_draws" g1 bH ["album","draws","most"] (Df C))
  (dy:Cl P w K mg ae 3 "rows_by_kinds" g2 cp ["weights","draws"] (Dl K))(cw:Cl P w K mg ae 1 "first_greatest" g3 c4 ["numbers"] (vi K)):aM P w K mg ae bo 4 f fd ef (cQ K C 1 f38):=by
 have T:=X.blt;refine bG F pM fun _ A _ _ H _ Q _ hr h=>?_;obtain⟨A,t,g,args,rfl,ha,hg,fJ,hn,k⟩:=h;obtain⟨n,rfl⟩:=list1 hn;have ek:f38 t [n]=(t,OZ t.kinds n):=rfl;rw[ek]at k;refine⟨_,(ag (pz 2 pM (ak cz hr (aa (pv 0) (aa (aD aA (pv 1) ai (fun _ _=>rfl)) (aa (aU N.cq) af)))))
  (ag (a9 (aP cZ (pv 2) ck (aV _))
   (ah (az (pv 2)))
   aI)
  (ah (az (aK (aa (ak cw hr (aa (ak dy hr (aa (bg (pv 0) rfl) (aa (aD aA (pv 1) ai (fun _ _=>rfl)) af))) af)) af)))))),?_⟩
 w_on;refine bq hg (jU n) ?_;w_on;refine⟨A,true,t,n,12,rfl,ha,fun e he z H1 hz s1 h1=>?_,fun he H1 s1=>?_⟩
 ·rw[TC he]at k;w_on;exact a8 ha k rfl s1 hz h1
 obtain⟨h0,VE⟩:=oN he;unfold OZ at k;rw[if_neg h0,if_neg (by omega)]at k;have ha1:=ha.same s1;w_on;refine fW X ha1 ?_;w_on;refine bq (s1.seq hg) (jU n) ?_;w_on;refine⟨A.aw,t.kinds,n,rfl,aG.of ha1.fY,ha.ok,VE,fun z1 H2 _ s2 h2=>?_⟩;w_on;refine⟨z1,_,_,rfl,aG.of h2,?_⟩;exact⟨by decide,fun z hz=>a8 ha k rfl ((s1.trans s2).trans (aq.new hz)) ((s1.trans s2).free hz) aj⟩
def f39(t:Table)(args:List Nat):Table×List Int:=(t,ZW t.kinds (args.getD 0 0) (args.getD 1 0))
abbrev sF:Stmt:=top 135
theorem l6:aC ["album","given","kind","draws","refused"] ["album","given"] (ay sF):=aJ
theorem GF(X:gm K mg C)(N:eV mg)(F:bD K "answer_seen" "answer_seen" sF f fd)(dw:Cl P w K mg ae 2 "refused_kinds" g1 bH ["album","kinds"] (Hh K C))
  (eD:Cl P w K mg ae 3 "mean_fresh" g2 cp ["total","lacking","draws"] (C3 K))(aB:Cl P w K mg ae 1 "told_fraction" g3 c4 ["pair"] (gz K)):aM P w K mg ae bo 4 f fd ef (cQ K C 2 f39):=by
 have T:=X.blt;refine bG F l6 fun _ A _ _ H _ Q _ hr h=>?_;obtain⟨A,t,g,args,rfl,ha,hg,fJ,hn,k⟩:=h;obtain⟨i,n,rfl⟩:=uO hn;have ek:f39 t [i,n]=(t,if t.kinds.length=0 then[-6]else if ¬i<t.kinds.length then[-2]else if 12<n then[-22]else cH (qZ t.kinds.sum [t.kinds.getD i 0] n)):=rfl;rw[ek]at k;have ea:(∀x∈[i],x<t.kinds.length)↔i<t.kinds.length:=by simp
 refine⟨_,(ag (pz 2 l6 (aD aA (pv 1) ai (fun _ _=>rfl)))
  (ag (pz 3 l6 (aD aA (pv 1) ai (fun _ _=>rfl)))
  (ag (pz 4 l6 (ak dw hr (aa (pv 0) (aa (aK (aa (pv 2) af)) af))))
  (ag (a9 (aP cZ (pv 4) ck (aV _))
   (ah (az (pv 4)))
   aI)
  (ag (a9 (aP fR (pv 3) (aU N.cq) (aV _))
   (ah (az (aK (aa (aU N.cx) af))))
   aI)
  (ah (az (ak aB hr (aa (ak eD hr (aa (aT (fg rfl) (by rfl) T.gN boot_sum (aa (bg (pv 0) rfl) af)) (aa (aK (aa (aD aA (bg (pv 0) rfl) (pv 2) (fun _ _=>rfl)) af)) (aa (pv 3) af)))) af))))))))),?_⟩
 w_on;refine bq hg (ng i n) ?_;w_on;refine bq hg (nh i n) ?_;w_on;refine⟨by decide,fun q hq=>?_⟩;have s0:aq H (upd H q (.lst [V.int (i:Int)])):=aq.new hq;refine⟨A,true,t,q,[i],rfl,ha.same s0,aG.of aj,by simp,fun e he z H1 hz s1 h1=>?_,fun he H1 s1=>?_⟩
 ·w_on;unfold FU at he;by_cases h2:t.kinds.length=0
  ·rw[if_pos h2]at he k;cases he;exact a8 ha k rfl (s0.trans s1) (s0.free hz) h1
  rw[if_neg h2]at he k;by_cases h3:i<t.kinds.length
  ·rw[if_neg (fun q=>q (ea.mpr h3))]at he;cases he
  rw[if_pos (fun q=>h3 (ea.mp q))]at he;rw[if_pos h3]at k;cases he;exact a8 ha k rfl (s0.trans s1) (s0.free hz) h1
 unfold FU at he;have h1:t.kinds.length≠0:=fun h2=>by rw[if_pos h2]at he;cases he
 rw[if_neg h1]at he k;have h2:i<t.kinds.length:=Classical.byContradiction fun h3=>by rw[if_pos (fun q=>h3 (ea.mp q))]at he;cases he
 rw[if_neg (fun q=>q h2)]at k;have s2:=s0.trans s1;have ha2:=ha.same s2;w_on;by_cases h3:12<n
 ·rw[if_pos h3]at k;rw[if_pos (by omega)];exact⟨by decide,fun z hz=>a8 ha k rfl (s2.trans (aq.new hz)) (s2.free hz) aj⟩
 rw[if_neg h3]at k;rw[if_neg (by omega)];have hs:=ha.ok.kd;refine fW X ha2 ?_;w_on;refine kf (aG.of ha2.fY) ?_;w_on;refine fW X ha2 ?_;w_on;refine bq (aG.of ha2.fY) (du h2) ?_;w_on;refine⟨by decide,fun p hp=>?_⟩;have s3:=s2.trans (aq.new (o:=.lst [V.int ((t.kinds.getD i 0:Nat):Int)]) hp);have hm:t.kinds.getD i 0∈t.kinds:=by rw[List.getD_eq_getElem?_getD,List.getElem?_eq_getElem h2];exact List.getElem_mem h2
 refine⟨t.kinds.sum,p,[t.kinds.getD i 0],n,rfl,aG.of aj,⟨by simp,by simpa using yg hm,hs⟩,ha.ok.dG h1,by omega,fun z1 H3 s4 gC=>?_⟩;exact⟨z1,_,rfl,gC,fun z2 H4 hz2 s5 h5=>a8 ha k rfl ((s3.trans s4).trans s5) ((s3.trans s4).free hz2) h5⟩
def f41(t:Table)(args:List Nat):Table×List Int:=(t,O0 t.kinds (args.getD 0 0) (args.getD 1 0) (args.getD 2 0))
theorem TF{l:List Nat}{i j n:Nat}{e:Int}(h:FV l i j n 12=some e):O0 l i j n=[e]:=by
 unfold FV at h;unfold O0;by_cases h1:l.length=0
 ·rw[if_pos h1]at h ⊢;rw[<- Option.some.inj h]
 rw[if_neg h1]at h ⊢;by_cases h2:¬(i<l.length/\j<l.length)
 ·rw[if_pos h2]at h ⊢;rw[<- Option.some.inj h]
 rw[if_neg h2]at h ⊢;by_cases h3:12<n∨i=j
 ·rw[if_pos h3]at h ⊢;rw[<- Option.some.inj h]
 rw[if_neg h3]at h;cases h
abbrev sG:Stmt:=top 137
theorem l7:aC ["album","given","refused","pair","kind"] ["album","given"] (ay sG):=aJ
theorem GG(X:gm K mg C)(N:eV mg)(F:bD K "answer_both" "answer_both" sG f fd)(gp:Cl P w K mg ae 3 "refused_pair" g1 bH ["album","given","most"] (LR K C))
  (eW:Cl P w K mg ae 3 "likely_all_by" g2 cp ["total","lacking","draws"] (Ie K))(aB:Cl P w K mg ae 1 "told_fraction" g3 c4 ["pair"] (gz K)):aM P w K mg ae bo 4 f fd ef (cQ K C 3 f41):=by
 have T:=X.blt;refine bG F l7 fun _ A _ _ H _ Q _ hr h=>?_;obtain⟨A,t,g,args,rfl,ha,hg,fJ,hn,k⟩:=h;obtain⟨i,j,n,rfl⟩:=QN hn;have ek:f41 t [i,j,n]=(t,O0 t.kinds i j n):=rfl;rw[ek]at k;refine⟨_,(ag (pz 2 l7 (ak gp hr (aa (pv 0) (aa (pv 1) (aa (aU N.cq) af)))))
  (ag (a9 (aP cZ (pv 2) ck (aV _))
   (ah (az (pv 2)))
   aI)
  (ag (j2 (i:=3) rfl l7.nd rfl rfl rfl (fm (fF gI (pv 1) ya (dB ai))) (c7 (own:=[("kind",4)]) (by rfl)) (fun _ _ _ _ _=>(qz 4 l7)) (fun _ _ _ _ _=>fq) (fun _ _ _ _ _=>(aD (rn (K:=K) rfl) (VC (K:=K) rfl (pv 0) rfl) (pv 4) (fun _ _=>rfl))))
  (ah (az (ak aB hr (aa (ak eW hr (aa (aT (fg rfl) (by rfl) T.gN boot_sum (aa (bg (pv 0) rfl) af)) (aa (pv 3) (aa (aD aA (pv 1) ai (fun _ _=>rfl)) af)))) af))))))),?_⟩
 w_on;refine⟨A,true,t,g,i,j,n,12,rfl,ha,hg,fun e he z H1 hz s1 h1=>?_,fun he H1 s1=>?_⟩
 ·rw[TF he]at k;w_on;exact a8 ha k rfl s1 hz h1
 obtain⟨h1,hi,hj,hn,SF⟩:=ID he;unfold O0 at k;rw[if_neg h1,if_neg (fun q=>q ⟨hi,hj⟩),if_neg (by omega)]at k;have hs:=ha.ok.kd;have ha1:=ha.same s1;have hg1:=s1.seq hg;w_on;refine abD [i,j] (fun(n:Nat)=>V.int (n:Int)) (fun(x:Nat)=>some (V.int ((t.kinds.getD x 0:Nat):Int))) (post:=fun q H2=>aq H1 H2/\H2 q=some (.lst (ax [i,j]))) (fun R r=>by
   w_on;refine⟨g,_,rfl,hg1,fun q hq=>?_⟩;rw[VA];exact r q _ ⟨aq.new hq,aj⟩) (fun q H2 ⟨_,h2⟩=>aG.of h2) (by simp) (fun x q H2 H3 Ry Rn ⟨s2,h2⟩ hx s3 h3 h4=>?_) (fun q H2 D H3 ⟨s2,h2⟩ hD s3 h3=>?_)
 ·have ha3:=ha1.same (s2.trans s3);w_on;refine fW X ha3 ?_;w_on;refine bq (aG.of ha3.fY) (du ?_) (h3 _ _ (aq.refl _) rfl);rcases List.mem_cons.mp hx with e|hx
  ·rw[e];exact hi
  rw[List.mem_singleton.mp hx];exact hj
 have s4:=s1.trans (s2.trans s3);have ha4:=ha.same s4;w_on;refine fW X ha4 ?_;w_on;refine kf (aG.of ha4.fY) ?_;w_on;refine bq (s4.seq hg) (QO i j n) ?_;w_on;have h2s:=Na hi hj SF;refine⟨t.kinds.sum,D,[t.kinds.getD i 0,t.kinds.getD j 0],n,rfl,aG.of h3,⟨by simp,by simpa using h2s,hs⟩,ha.ok.dG h1,by omega,fun z1 H5 s5 gC=>?_⟩;exact⟨z1,_,rfl,gC,fun z2 H6 hz2 s6 h6=>a8 ha k rfl ((s4.trans s5).trans s6) ((s4.trans s5).free hz2) h6⟩
def f42(t:Table)(args:List Nat):Table×List Int:=(t,UT t.kinds (args.getD 0 0) (args.getD 1 0))
abbrev o6:Stmt:=top 138
theorem ki:aC ["album","given","above","below","draws"] ["album","given"] (ay o6):=aJ
theorem DJ(X:gm K mg C)(N:eV mg)(F:bD K "answer_needed" "answer_needed" o6 f fd)(nQ:Cl P w K mg ae 1 "least_draws" g1 bH ["weights","above","below"] (KY K)):aM P w K mg ae bo 2 f fd ef (cQ K C 2 f42):=by
 have T:=X.blt;refine bG F ki fun _ A _ _ H _ Q _ hr h=>?_;obtain⟨A,t,g,args,rfl,ha,hg,fJ,hn,k⟩:=h;obtain⟨a,b,rfl⟩:=uO hn;have ek:f42 t [a,b]=(t,UT t.kinds a b):=rfl;rw[ek]at k;unfold UT at k;refine⟨_,(ag (pz 2 ki (aD aA (pv 1) ai (fun _ _=>rfl)))
  (ag (pz 3 ki (aD aA (pv 1) ai (fun _ _=>rfl)))
  (ag (a9 (aP iE (aT a6 (by rfl) T.dZ boot_len (aa (bg (pv 0) rfl) af)) ai (aV _))
   (ah (az (aK (aa (aU N.iU) af))))
   aI)
  (ag (a9 (PW.pt (pW (fN (zM uz uz ai (pv 3) (aU N.pJ))) (mS (aP fR (pv 2) (aU N.JV) (aV _)))))
   (ah (az (aK (aa (aU N.cx) af))))
   aI)
  (ag (pz 4 ki (ak nQ hr (aa (bg (pv 0) rfl) (aa (pv 2) (aa (pv 3) af)))))
  (ah (az (Ei (aP G4 (pv 4) ck (aV _)) (aK (aa (aU N.NH) af)) (aK (aa (pv 4) af)))))))))),?_⟩
 w_on;refine bq hg (ng a b) ?_;w_on;refine bq hg (nh a b) ?_;w_on;refine fW X ha ?_;w_on;refine⟨_,.inl (aG.of ha.fY),dv _ _,?_⟩;rw[aX];by_cases h1:t.kinds.length=0
 ·rw[if_pos h1]at k;rw[if_pos (by omega)];exact⟨by decide,fun z hz=>a8 ha k rfl (aq.new hz) hz aj⟩
 rw[if_neg h1]at k;rw[if_neg (by omega)];have no:¬(1<=b/\b<=100)∨100<a->∀z,H z=none->Q (.ref z) (upd H z (.lst [.int (-22)])):=fun q z hz=>by
  rw[if_pos q]at k;exact a8 ha k rfl (aq.new hz) hz aj
 by_cases h2:1<=b
 case neg=>
  rw[if_neg (by omega)];exact⟨by decide,no (.inl fun q=>h2 q.1)⟩
 rw[if_pos (by omega)];by_cases h3:b<=100
 case neg=>
  rw[if_pos (by simp;omega)];exact⟨by decide,no (.inl fun q=>h3 q.2)⟩
 rw[if_neg (by simp;omega)];by_cases h4:100<a
 case pos=>
  rw[if_pos (by omega)];exact⟨by decide,no (.inr h4)⟩
 rw[if_neg (by omega)];rw[if_neg (by omega)]at k;refine fW X ha ?_;refine⟨A.aw,t.kinds,a,b,rfl,aG.of ha.fY,ha.ok,by omega,by omega,fun H1 s1=>?_⟩;cases e:j4 t.kinds a b with
 |none=>
  rw[e]at k;rw[if_pos (by rfl)];exact⟨by decide,fun z hz=>a8 ha k rfl (s1.trans (aq.new hz)) (s1.free hz) aj⟩
 |some m=>
  rw[e]at k;rw[if_neg (by unfold Y1;simp)];exact⟨by decide,fun z hz=>a8 ha k rfl (s1.trans (aq.new hz)) (s1.free hz) aj⟩
abbrev kO:Stmt:=top 139
theorem xI:aC ["album","given"] ["album","given"] (ay kO):=aJ
theorem xJ(N:eV mg)(F:bD K "answer_wouldkinds" "answer_wouldkinds" kO f fd)(dD:Cl P w K mg ae 7 "answer_behind_level" g1 bH ["album","given","most","found"] (BL P w K mg ae C))
  (cN:Cl P w K mg ae 4 "mean_kinds" g2 cp ["weights","draws"] (nA K)):aM P w K mg ae bo 8 f fd ef (cQ K C 3 (zW 12 ke)):=by
 refine bG F xI fun _ A _ _ H vs Q E hr h=>?_;obtain⟨A,t,g,args,rfl,ha,hg,fJ,hn,k⟩:=h;obtain⟨i,j,n,rfl⟩:=QN hn;refine⟨_,(ah (az (ak dD hr (aa (pv 0) (aa (pv 1) (aa (aU N.cq) (aa (eG cN.kq) af))))))),?_⟩;w_on;refine⟨A,t,g,i,j,n,12,g2,ke,rfl,ha,hg,(cN.hand.imp ?_).mono (by decide),by decide,fun z H1 hz s1 h1=>?_⟩
 ·rintro vs H Q E ⟨a,l,n,h1,h2,h3,h4,h5,_,h6⟩;exact⟨a,l,n,h1,h2,h3,h4,by omega,h6⟩
 exact a8 ha k rfl s1 hz h1
def f44(t:Table)(args:List Nat):Table×List Int:=(t,Z2 t.kinds (args.getD 0 0))
abbrev lF:Stmt:=top 140
theorem yY:aC ["album","given"] ["album","given"] (ay lF):=aJ
theorem yZ(X:gm K mg C)(N:eV mg)(F:bD K "answer_mostkinds" "answer_mostkinds" lF f fd):aM P w K mg ae bo 1 f fd ef (cQ K C 1 f44):=by
 have T:=X.blt;refine bG F yY fun _ A _ _ H _ Q _ hr h=>?_;obtain⟨A,t,g,args,rfl,ha,hg,fJ,hn,k⟩:=h;obtain⟨n,rfl⟩:=list1 hn;have ek:f44 t [n]=(t,if t.kinds.length=0 then[-6]else[((min n t.kinds.length:Nat):Int)]):=rfl;rw[ek]at k;refine⟨_,(ag (a9 (aP iE (aT a6 (by rfl) T.dZ boot_len (aa (bg (pv 0) rfl) af)) ai (aV _))
   (ah (az (aK (aa (aU N.iU) af))))
   aI)
  (ah (az (aK (aa (aT (Ht rfl) (by rfl) T.Va boot_min (aa (aD aA (pv 1) ai (fun _ _=>rfl)) (aa (aT a6 (by rfl) T.dZ boot_len (aa (bg (pv 0) rfl) af)) af))) af))))),?_⟩
 w_on;refine fW X ha ?_;w_on;refine⟨_,.inl (aG.of ha.fY),dv _ _,?_⟩;rw[aX];by_cases h1:t.kinds.length=0
 ·rw[if_pos h1]at k;rw[if_pos (by omega)];exact⟨by decide,fun z hz=>a8 ha k rfl (aq.new hz) hz aj⟩
 rw[if_neg h1]at k;rw[if_neg (by omega)];refine bq hg (jU n) ?_;w_on;refine fW X ha ?_;w_on;refine⟨_,.inl (aG.of ha.fY),?_⟩;rw[aX];w_on;rw[QW];exact⟨by decide,fun z hz=>a8 ha k rfl (aq.new hz) hz aj⟩
theorem aav{l:List Nat}(h:l.length=4):∃x y z u,l=[x,y,z,u]:=by
 match l,h with
 |[x,y,z,u],_=>exact⟨x,y,z,u,rfl⟩
theorem aaw(x y z u:Nat):cW (ax [x,y,z,u]) 0=some (V.int (x:Int)):=rfl
theorem aax(x y z u:Nat):lg (ax [x,y,z,u]) (some 1) none=ax [y,z,u]:=rfl
theorem QX(l:List Nat)(hv:Nat):size l (lacking l hv)=((List.range l.length).filter fun i=>!Nat.testBit hv i).length:=by
 unfold size
 congr 1
 apply List.filter_congr;intro i hi;rw[List.mem_range]at hi;rw[j3,decide_eq_true hi];rfl
theorem NW{t:Table}{p:Nat}(hl:(Kp296.of_ t p).length=t.kinds.length):size t.kinds (lacking t.kinds (have_ t p))=(uQ (Kp296.of_ t p)).length:=by
 rw[QX];unfold uQ;rw[hl]
 congr 1
 apply List.filter_congr;intro i hi;rw[List.mem_range]at hi;rw[rX,decide_eq_true hi];unfold count;simp[bne]
def pack(t:Table)(p a b c:Nat):Table:=change (change (change {t with bought:=t.bought+1} p a true) p b true) p c true
theorem VF(t:Table){p:Nat}(hp:p<2)(a b c:Nat):pack t p a b c={change (change (change t p a true) p b true) p c true with bought:=t.bought+1}:=by
 match p,hp with
 |0,_=>rfl
 |1,_=>rfl
def adds(t:Table)(p:Nat)(l:List Nat):Table:=l.foldl (fun t i=>change t p i true) t
theorem NX(t:Table)(p:Nat)(l:List Nat):(adds t p l).kinds=t.kinds:=by
 unfold adds
 induction l generalizing t with
 |nil=>rfl
 |cons a l ih=>rw[List.foldl_cons,ih,dc]
theorem QY(t:Table)(p:Nat)(l:List Nat)(x:Nat):adds t p (l++[x])=change (adds t p l) p x true:=by
 unfold adds;rw[List.foldl_append];rfl
theorem bj.pay{C:Addr}{H:Hp}{A:AA}{b:Bool}{t:Table}(h:bj C H A b t):bj C (upd H A.a (.ins C A.dx (gY b A.aw A.ao (t.bought+1)))) A b {t with bought:=t.bought+1}:=by
 obtain⟨n1,n2,n3,n4,n5,n6,n7,n8,n9,Vp,Vq,Vr,Vs,W6,Td⟩:=h.ne;exact⟨aj,(aE (Ne.symm n1)).trans h.own,(aE (Ne.symm n2)).trans h.fY,(aE (Ne.symm n3)).trans h.lst,(aE (Ne.symm n4)).trans h.one,(aE (Ne.symm n5)).trans h.two,h.nd,h.l1,h.l2,h.ok⟩
def IX(t:Table)(args:List Nat):Table×List Int:=bh (.packet (args.getD 0 0) (args.getD 1 0) (args.getD 2 0) (args.getD 3 0)) t
theorem NY{H:Hp}{A:AA}{b:Bool}{t:Table}(h:bj C H A b t)(p x y z:Nat):IX t [p,x,y,z]=if ¬((p<2/\x<t.kinds.length)/\(p<2/\y<t.kinds.length)/\(p<2/\z<t.kinds.length))then(t,[-2])else if 98<=count t p x∨98<=count t p y∨98<=count t p z then(t,[-28])
  else(pack t p x y z,[((uQ (Kp296.of_ (pack t p x y z) p)).length:Int)]):=by
 show bh (.packet p x y z) t=_;have e:Kp296.step (some t) (.packet p x y z)=if 1<p∨Kp296.is t x=false∨Kp296.is t y=false∨Kp296.is t z=false then(some t,Kp296.say (-2))else if 98<=count t p x∨98<=count t p y∨98<=count t p z then(some t,Kp296.say (-28))else
   (some {change (change (change t p x true) p y true) p z true with bought:=t.bought+1},Kp296.say ((size t.kinds (lacking t.kinds (have_ (change (change (change t p x true) p y true) p z true) p)):Nat):Int)):=rfl
 have q:(1<p∨Kp296.is t x=false∨Kp296.is t y=false∨Kp296.is t z=false)↔¬((p<2/\x<t.kinds.length)/\(p<2/\y<t.kinds.length)/\(p<2/\z<t.kinds.length)):=by
  unfold Kp296.is;simp only[decide_eq_false_iff_not];omega
 by_cases h1:¬((p<2/\x<t.kinds.length)/\(p<2/\y<t.kinds.length)/\(p<2/\z<t.kinds.length))
 ·rw[if_pos (q.mpr h1)]at e;rw[if_pos h1,cD e]
 rw[if_neg (fun r=>h1 (q.mp r))]at e;rw[if_neg h1];have hp:p<2:=Classical.byContradiction fun r=>h1 fun s=>r s.1.1;by_cases h2:98<=count t p x∨98<=count t p y∨98<=count t p z
 ·rw[if_pos h2]at e ⊢;rw[cD e]
 rw[if_neg h2]at e ⊢;rw[cD e,<- VF t hp]
 congr 3
 have hl:(Kp296.of_ (change (change (change t p x true) p y true) p z true) p).length=(change (change (change t p x true) p y true) p z true).kinds.length:=by
  rw[r0 hp,List.length_set,r0 hp,List.length_set,r0 hp,List.length_set,dc,dc,dc];exact(h.of_ hp).2.2
 have s:=NW hl;rw[dc,dc,dc]at s;rw[s]
 match p,hp with
 |0,_=>rfl
 |1,_=>rfl
abbrev o7:Stmt:=top 102
theorem eH:aC ["album","given","collector","kinds","counts","kind"] ["album","given"] (ay o7):=aJ
theorem DK(X:gm K mg C)(N:eV mg)(F:bD K "answer_packet" "answer_packet" o7 f fd)(fk:rg P w K mg ae C 2 "has_pair" g1 bH ["self","collector","kind"] (zV C))
  (gP:rg P w K mg ae C 1 "add_picture" g2 cp ["self","collector","kind"] (EF C true))(fK:Cl P w K mg ae 1 "lacking_kinds" g3 c4 ["counts"] (IB K)):aM P w K mg ae bo 3 f fd ef (cQ K C 4 IX):=by
 have T:=X.blt;refine bG F eH fun _ A _ _ H _ Q _ hr h=>?_;obtain⟨A,t,g,args,rfl,ha,hg,fJ,hn,k⟩:=h;obtain⟨p,x,y,z,rfl⟩:=aav hn;rw[NY ha]at k;have hf:=ha.ok.jr;refine⟨_,(ag (pz 2 eH (aD aA (pv 1) ai (fun _ _=>rfl)))
  (ag (pz 3 eH (fF gI (pv 1) (dB ai) ya))
  (ag (a9 (fN (eU (aT (G7 rfl) (by rfl) T.Ls boot_all (aa (lh rfl eH.nd (fm (pv 3)) (c7 (own:=[("kind",5)]) (by rfl)) (fun _ _ _ _ _=>(qz 5 eH)) (fun _ _ _ _ _=>fq) (fun _ _ _ _ _=>(eC (pv 0) fk hr (aa (pv 2) (aa (pv 5) af))))) af))))
   (ah (az (aK (aa (aU N.f9) af))))
   aI)
  (ag (pz 4 eH (aD aA (bg (pv 0) rfl) (pv 2) (fun _ _=>rfl)))
  (ag (a9 (eU (aT (WB rfl) (by rfl) T.aas boot_any (aa (lh rfl eH.nd (fm (pv 3)) (c7 (own:=[("kind",5)]) (by rfl)) (fun _ _ _ _ _=>(qz 5 eH)) (fun _ _ _ _ _=>fq) (fun _ _ _ _ _=>(rE fR (aD (rn (K:=K) rfl) (pv 4) (pv 5) (fun _ _=>rfl)) (aO dU (aU N.oI) (aU N.Iv)) (aV _)))) af)))
   (ah (az (aK (aa (aU N.C8) af))))
   aI)
  (ag (OE (pv 0) ai Wo)
  (ag (fQ PassesOwn.never rfl (fm (pv 3)) (qz 5 eH)
   (ah (jx (eC (pv 0) gP hr (aa (pv 2) (aa (pv 5) af))))))
  (ah (az (aK (aa (aT a6 (by rfl) T.dZ boot_len (aa (ak fK hr (aa (aD aA (bg (pv 0) rfl) (pv 2) (fun _ _=>rfl)) af)) af)) af))))))))))),?_⟩
 w_on;refine bq hg (aaw p x y z) ?_;w_on;refine⟨g,_,rfl,hg,fun q hq=>?_⟩;rw[aax];w_on;have s1:aq H (upd H q (.lst (ax [x,y,z]))):=aq.new hq;have ha1:=ha.same s1;refine yi [x,y,z] (fun(n:Nat)=>V.int (n:Int)) (fun(n:Nat)=>some (V.bl (decide (p<2/\n<t.kinds.length)))) (fun R r=>by w_on;exact r) (aG.of aj) (by simp) (fun v H3 Ry Rn hx s3 h1 h2=>?_) (fun D H3 hD s3 h3=>?_)
 ·w_on;exact⟨A.dx,_,(ha1.same s3).ins,e9,A,true,t,p,v,rfl,ha1.same s3,h1 _ _ (aq.refl _) rfl⟩
 w_on;have ha3:=ha1.same s3;refine⟨D,[decide (p<2/\x<t.kinds.length),decide (p<2/\y<t.kinds.length),decide (p<2/\z<t.kinds.length)],rfl,aG.of h3,?_⟩;w_on;by_cases h1:(p<2/\x<t.kinds.length)/\(p<2/\y<t.kinds.length)/\(p<2/\z<t.kinds.length)
 ·rw[if_neg (fun r=>r h1)]at k;rw[if_neg (by rw[decide_eq_true h1.1,decide_eq_true h1.2.1,decide_eq_true h1.2.2];decide)];have hp:=h1.1.1;obtain⟨o1,o2,o3⟩:=ha3.of_ hp;refine fO X ha3 ?_;w_on;refine ha3.yy hp ?_;w_on;refine yi [x,y,z] (fun(n:Nat)=>V.int (n:Int)) (fun(n:Nat)=>some (V.bl (decide (98<=count t p n)))) (fun R r=>by w_on;exact r) (aG.of (s3 _ _ aj)) (by simp) (fun v H5 Ry Rn hv s5 r1 r2=>?_) (fun D5 H5 hD5 s5 h5=>?_)
  ·w_on;have hvl:v<t.kinds.length:=by
    simp only[List.mem_cons,List.not_mem_nil,or_false]at hv;rcases hv with e|e|e <;> rw[e]
    ·exact h1.1.2
    ·exact h1.2.1.2
    exact h1.2.2.2
   refine(ha3.same s5).Tf hp hvl ?_;w_on;refine r1 _ _ (aq.refl _) ?_
   congr 2
   exact decide_eq_decide.mpr (by omega)
  w_on;have ha5:=ha3.same s5;refine⟨D5,[decide (98<=count t p x),decide (98<=count t p y),decide (98<=count t p z)],rfl,aG.of h5,?_⟩;w_on;have s05:=(s1.trans s3).trans s5;by_cases h2:98<=count t p x∨98<=count t p y∨98<=count t p z
  ·rw[if_pos h2]at k;rw[if_pos (by rcases h2 with e|e|e <;> simp[e])];exact⟨by decide,fun u hu=>a8 ha k rfl (s05.trans (aq.new hu)) (s05.free hu) aj⟩
  rw[if_neg h2]at k;rw[if_neg (by
   rw[decide_eq_false (show ¬98<=count t p x by omega),decide_eq_false (show ¬98<=count t p y by omega),decide_eq_false (show ¬98<=count t p z by omega)]
   decide)]
  refine⟨C,A.dx,_,ha5.ins,X.cl,X.nP,_,AW _ _ _ _,_,_,rfl,rfl,A.dx,_,ha5.ins,by rw[rq];decide,?_⟩;rw[show(t.bought:Int)+1=((t.bought+1:Nat):Int)by omega,Il];have ha6:=ha5.pay;have hq6:q∉A.foot:=ha.iW hq;have k6:Kept A H5 (upd H5 A.a (.ins C A.dx (gY true A.aw A.ao (t.bought+1)))):=fun c o e hc=>by
   rw[aE (fun r=>hc (by rw[r];unfold AA.foot;simp))];exact e
  have q5:H5 q=some (.lst (ax [x,y,z])):=(s3.trans s5) _ _ aj;refine forL (xs:=ax [x,y,z]) (fun R r=>by w_on;exact r) (aG.of (k6 _ _ q5 hq6)) (fun j σ H'=>Kept A H5 H'/\(∃v5:Option V,σ=[some (.ref A.a),some (.ref g),some (.int (p:Int)),some (.ref q),some (.ref (pick A p)),v5])/\bj C H' A true (adds {t with bought:=t.bought+1} p ([x,y,z].take j)))
   ⟨k6,⟨_,rfl⟩,ha6⟩ (fun j σ H' _ ⟨kp,_,_⟩=>aG.of (kp _ _ q5 hq6)) ?_ ?_
  ·rintro j v σ H' hv ⟨kp,⟨v5,rfl⟩,L3⟩;obtain⟨m,hm,rfl⟩:∃m,[x,y,z][j]? =some m/\v=V.int (m:Int):=by
    unfold ax at hv;rw[List.getElem?_map]at hv;cases e:[x,y,z][j]? with
    |none=>rw[e]at hv;cases hv
    |some m=>rw[e]at hv;exact⟨m,rfl,(Option.some.inj hv).symm⟩
   have WA:m<t.kinds.length:=by
    have hmem:=List.mem_of_getElem? hm;simp only[List.mem_cons,List.not_mem_nil,or_false]at hmem;rcases hmem with e|e|e <;> rw[e]
    ·exact h1.1.2
    ·exact h1.2.1.2
    exact h1.2.2.2
   w_on;refine⟨A.dx,_,L3.ins,e9,A,true,_,p,m,rfl,L3,hp,by rw[NX];exact WA,(fun r=>by cases r),fun H8 ha8 kp8=>?_⟩;w_on;refine⟨kp.trans kp8,?_⟩;rw[fv hm,QY];exact ha8
  rintro σ H' ⟨kp,⟨v5,rfl⟩,L3⟩;have L3:bj C H' A true (pack t p x y z):=L3;obtain⟨w1,w2,w3⟩:=L3.of_ hp;have hk7:(pack t p x y z).kinds=t.kinds:=by unfold pack;rw[dc,dc,dc]
  w_on;refine fO X L3 ?_;w_on;refine L3.yy hp ?_;w_on;refine⟨_,_,rfl,aG.of w1,by rw[w3,hk7];omega,fun z1 H9 gC s9 h9=>?_⟩;w_on;refine⟨_,.inl (aG.of h9),by decide,fun u hu=>?_⟩;have kA:Kept A H H9:=fun c o e hc=>s9 _ _ (kp _ _ (s05 _ _ e) hc);refine Hg ha k (L3.same s9) rfl kA hu _ ?_;rw[aX];rfl
 rw[if_pos h1]at k;rw[if_pos (by
  by_cases a1:p<2/\x<t.kinds.length
  ·by_cases a2:p<2/\y<t.kinds.length
   ·have a3:¬(p<2/\z<t.kinds.length):=fun r=>h1 ⟨a1,a2,r⟩;rw[decide_eq_false a3];simp
   rw[decide_eq_false a2];simp
  rw[decide_eq_false a1];simp)]
 exact⟨by decide,fun u hu=>a8 ha k rfl ((s1.trans s3).trans (aq.new hu)) ((s1.trans s3).free hu) aj⟩
def o8(s b:List Nat)(i:Nat):Bool:=decide (2<=s.getD i 0)&&b.getD i 0==0
def ir(s b:List Nat):List Nat:=(List.range s.length).filter (o8 s b)
theorem TH(s b:List Nat):(List.range s.length).filterMap (fun i=>if o8 s b i=true then some (V.int (i:Int))else none)=ax (ir s b):=by
 unfold ir ax;generalize List.range s.length=L
 induction L with
 |nil=>rfl
 |cons a L ih=>
  rw[List.filterMap_cons];by_cases h:o8 s b a=true
  ·rw[if_pos h,List.filter_cons_of_pos h];show _::_=_;rw[ih];rfl
  rw[if_neg h,List.filter_cons_of_neg h];exact ih
theorem wI(s b:List Nat):(ir s b).length<=s.length:=by
 unfold ir;refine Nat.le_trans (List.length_filter_le _ _) ?_;rw[List.length_range];exact Nat.le_refl _
def y6(K:Frag):Sp:=fun vs H Q _=>∃(a b:Addr) (s r:List Nat) (i:Nat),vs=[.ref a,.ref b,.int i]/\aG K H a (ax s)/\aG K H b (ax r)/\i<s.length/\i<r.length/\Q (.bl (o8 s r i)) H
abbrev sH:Stmt:=top 146
theorem GH:aC ["seller","buyer","kind"] ["seller","buyer","kind"] (ay sH):=aJ
theorem GI(F:bD K "is_sellable" "is_sellable" sH f fd):aM P w K mg ae bo 1 f fd ["seller","buyer","kind"] (y6 K):=by
 refine bG F GH fun _ _ _ s H _ Q _ hr h=>?_;obtain⟨a,b,s,r,i,rfl,ha,hb,hi,Vm,k⟩:=h;refine⟨_,(ah (az (Ro (rE fR (aD aA (pv 0) (pv 2) (fun _ _=>rfl)) ai (aV _)) (Rm (rE iE (aD aA (pv 1) (pv 2) (fun _ _=>rfl)) ai (aV _)))))),?_⟩;w_on;refine bq ha (du hi) ?_;w_on;unfold o8 at k;by_cases h1:2<=s.getD i 0
 ·rw[if_pos (by omega)];refine bq hb (du Vm) ?_;w_on;refine⟨dv _ _,?_⟩;rw[decide_eq_true h1,Bool.true_and]at k;have e:decide (((r.getD i 0:Nat):Int)=0)=(r.getD i 0==0):=by
   rw[Bool.eq_iff_iff];simp only[decide_eq_true_eq,beq_iff_eq];omega
  rw[e];exact k
 rw[if_neg (by omega)];rw[decide_eq_false h1,Bool.false_and]at k;exact k
def DL(K:Frag):Sp:=fun vs H Q _=>∃(a b:Addr) (s r:List Nat),vs=[.ref a,.ref b]/\aG K H a (ax s)/\aG K H b (ax r)/\s.length<=1000/\s.length=r.length/\∀z H',H z=none->aq H H'->H' z=some (.lst (ax (ir s r)))->Q (.ref z) H'
abbrev nR:Stmt:=top 147
theorem mD:aC ["seller","buyer","kind"] ["seller","buyer"] (ay nR):=aJ
theorem B1(T:gE mg)(F:bD K "sellable_kinds" "sellable_kinds" nR f fd)(gR:Cl P w K mg ae 1 "is_sellable" g1 bH ["seller","buyer","kind"] (y6 K)):aM P w K mg ae bo 2 f fd ["seller","buyer"] (DL K):=by
 refine bG F mD fun _ _ _ s H _ Q _ hr h=>?_;obtain⟨a,b,s,r,rfl,ha,hb,hl,hsr,k⟩:=h;refine⟨_,(ah (az (lh rfl mD.nd (eK rfl T.gA (aa (aT a6 (by rfl) T.dZ boot_len (aa (pv 0) af)) af)) (c7 (own:=[("kind",2)]) (by rfl)) (fun _ _ _ _ _=>(qz 2 mD)) (fun _ _ _ _ _=>yb (eU (ak gR hr (aa (pv 0) (aa (pv 1) (aa (pv 2) af)))))) (fun _ _ _ _ _=>(pv 2))))),?_⟩;w_on;refine Qr (n:=s.length) (fun R q=>by w_on;exact⟨_,.inl ha,by rw[aX];exact q⟩) (by omega) (fun i=>if o8 s r i=true then some (V.int (i:Int))else none) (fun i H3 Ry Rn hi s3 h1 h2=>?_) (fun D H3 hD s3 h3=>?_)
 ·w_on;refine⟨a,b,s,r,i,rfl,s3.seq ha,s3.seq hb,hi,by omega,?_⟩;w_on;by_cases h0:o8 s r i=true
  ·rw[if_pos h0];exact h1 _ _ (aq.refl _) (if_pos h0)
  rw[if_neg h0];exact h2 _ (aq.refl _) (if_neg h0)
 rw[TH]at h3;exact k D H3 hD s3 h3
def L4(t:Table)(args:List Nat):Table×List Int:=bh (.sells (args.getD 0 0) (args.getD 1 0)) t
theorem QZ(t:Table)(p i:Nat):L4 t [p,i]=if ¬(p<2/\i<t.kinds.length)then(t,[-2])else if o8 (Kp296.of_ t p) (Kp296.of_ t (1 - p)) i=true then(t,[1])else(t,[0]):=by
 show bh (.sells p i) t=_;have e:Kp296.step (some t) (.sells p i)=(some t,if 1<p∨Kp296.is t i=false then Kp296.say (-2)else Kp296.say (if 2<=count t p i/\count t (1 - p) i=0 then 1 else 0)):=rfl;by_cases h1:1<p∨Kp296.is t i=false
 ·rw[if_pos h1]at e;rw[if_pos (mL.mp h1),cD e]
 rw[if_neg h1]at e;rw[if_neg (fun q=>h1 (mL.mpr q)),cD e];have q:(2<=count t p i/\count t (1 - p) i=0)↔o8 (Kp296.of_ t p) (Kp296.of_ t (1 - p)) i=true:=by
  unfold o8 count;rw[Bool.and_eq_true,decide_eq_true_eq,beq_iff_eq]
 by_cases h2:o8 (Kp296.of_ t p) (Kp296.of_ t (1 - p)) i=true
 ·rw[if_pos h2,if_pos (q.mpr h2)]
 rw[if_neg h2,if_neg (fun r=>h2 (q.mp r))]
abbrev qv:Stmt:=top 155
theorem o9:aC ["album","given","collector","kind"] ["album","given"] (ay qv):=aJ
theorem Ff(X:gm K mg C)(N:eV mg)(F:bD K "answer_sells" "answer_sells" qv f fd)(fk:rg P w K mg ae C 2 "has_pair" g1 bH ["self","collector","kind"] (zV C))
  (gR:Cl P w K mg ae 1 "is_sellable" g2 cp ["seller","buyer","kind"] (y6 K)):aM P w K mg ae bo 3 f fd ef (cQ K C 2 L4):=by
 have T:=X.blt;refine bG F o9 fun _ A _ _ H _ Q _ hr h=>?_;obtain⟨A,t,g,args,rfl,ha,hg,fJ,hn,k⟩:=h;obtain⟨p,i,rfl⟩:=uO hn;rw[QZ]at k;refine⟨_,(ag (pz 2 o9 (aD aA (pv 1) ai (fun _ _=>rfl)))
  (ag (pz 3 o9 (aD aA (pv 1) ai (fun _ _=>rfl)))
  (ag (a9 (fN (eU (eC (pv 0) fk hr (aa (pv 2) (aa (pv 3) af)))))
   (ah (az (aK (aa (aU N.f9) af))))
   aI)
  (ag (a9 (eU (ak gR hr (aa (aD aA (bg (pv 0) rfl) (pv 2) (fun _ _=>rfl)) (aa (aD aA (bg (pv 0) rfl) (aO dU ai (pv 2)) (fun _ _=>rfl)) (aa (pv 3) af)))))
   (ah (az (aK (aa ai af))))
   aI)
  (ah (az (aK (aa ai af)))))))),?_⟩
 w_on;refine bq hg (ng p i) ?_;w_on;refine bq hg (nh p i) ?_;w_on;refine⟨A.dx,_,ha.ins,e9,A,true,t,p,i,rfl,ha,?_⟩;w_on;by_cases h1:p<2/\i<t.kinds.length
 ·rw[if_neg (fun q=>q h1)]at k;rw[if_neg (by rw[decide_eq_true h1];simp)];have hq:1 - p<2:=by omega
  obtain⟨o1,o2,o3⟩:=ha.of_ h1.1;obtain⟨q1,q2,q3⟩:=ha.of_ hq;refine fO X ha ?_;w_on;refine ha.yy h1.1 ?_;w_on;refine fO X ha ?_;w_on;rw[show(1:Int) - (p:Int)=((1 - p:Nat):Int)by omega];refine ha.yy hq ?_;w_on;refine⟨_,_,Kp296.of_ t p,Kp296.of_ t (1 - p),i,rfl,aG.of o1,aG.of q1,by omega,by omega,?_⟩;w_on;by_cases h2:o8 (Kp296.of_ t p) (Kp296.of_ t (1 - p)) i=true
  ·rw[if_pos h2]at k;rw[if_pos h2];exact⟨by decide,fun z hz=>a8 ha k rfl (aq.new hz) hz aj⟩
  rw[if_neg h2]at k;rw[if_neg h2];exact⟨by decide,fun z hz=>a8 ha k rfl (aq.new hz) hz aj⟩
 rw[if_pos h1]at k;rw[if_pos (by rw[decide_eq_false h1];rfl)];exact⟨by decide,fun z hz=>a8 ha k rfl (aq.new hz) hz aj⟩
structure lR(H:Hp)(z:Addr)(ps:List (Nat×Nat))(as:List Addr):Prop where
 lst:H z=some (.lst (as.map V.ref))
 len:as.length=ps.length
 at_:∀(k:Nat) (a:Addr),as[k]? =some a->∃pr,ps[k]? =some pr/\H a=some (.tup [.int (pr.1:Int),.int (pr.2:Int)])
theorem lR.nil{H:Hp}{z:Addr}(h:H z=some (.lst [])):lR H z [] []:=⟨h,rfl,fun k a e=>by simp at e⟩
theorem lR.same{H H':Hp}{z:Addr}{ps:List (Nat×Nat)}{as:List Addr}(h:lR H z ps as)(s:aq H H'):lR H' z ps as:=⟨s _ _ h.lst,h.len,fun k a e=>by
 obtain⟨pr,h1,h2⟩:=h.at_ k a e;exact⟨pr,h1,s _ _ h2⟩⟩
theorem lR.push{H:Hp}{z T:Addr}{ps:List (Nat×Nat)}{as:List Addr}(h:lR H z ps as)(hT:H T=none)(g m:Nat):
  lR (upd (upd H T (.tup [.int (g:Int),.int (m:Int)])) z (.lst (as.map V.ref++[.ref T]))) z (ps++[(g,m)]) (as++[T]):=by
 have hzT:z≠T:=a7 h.lst hT;refine⟨by rw[aj,List.map_append];rfl,by rw[List.length_append,List.length_append,h.len];rfl,fun k a e=>?_⟩;by_cases hk:k<as.length
 ·rw[List.getElem?_append_left hk]at e;obtain⟨pr,h1,h2⟩:=h.at_ k a e;have hza:a≠z:=Y7 h2 h.lst (by intro q;cases q);have haT:a≠T:=a7 h2 hT;exact⟨pr,by rw[List.getElem?_append_left (by rw[<- h.len];exact hk)];exact h1,by rw[aE hza,aE haT];exact h2⟩
 rw[List.getElem?_append_right (by omega)]at e;have hk0:k - as.length=0:=by
  have:=(List.getElem?_eq_some_iff.mp e).1;simp at this;omega
 rw[hk0]at e;cases e;have hke:k=ps.length:=by rw[<- h.len];omega
 refine⟨(g,m),?_,by rw[aE (Ne.symm hzT),aj]⟩;rw[hke,List.getElem?_append_right (Nat.le_refl _),Nat.sub_self];rfl
structure wJ(K:Frag)(H:Hp)(o a0 a1:Addr)(one two:List Nat):Prop where
 lst:H o=some (.lst [.ref a0,.ref a1])
 one:H a0=some (.lst (ax one))
 two:H a1=some (.lst (ax two))
theorem wJ.same{K:Frag}{H H':Hp}{o a0 a1:Addr}{one two:List Nat}(h:wJ K H o a0 a1 one two)(s:aq H H'):wJ K H' o a0 a1 one two:=⟨s _ _ h.lst,s _ _ h.one,s _ _ h.two⟩
def cV(one two:List Nat):List (Nat×Nat):=(ir one two).flatMap fun i=>(ir two one).map fun j=>(i,j)
theorem Q0{L M:List Nat}{i:Nat}{x:Nat}(h:L[i]? =some x):((L.take (i+1)).flatMap fun i=>M.map fun j=>(i,j))=((L.take i).flatMap fun i=>M.map fun j=>(i,j))++M.map fun j=>(x,j):=by
 rw[fv h,List.flatMap_append];simp
theorem K3(L M:List Nat):(L.flatMap fun i=>M.map fun j=>(i,j)).length=L.length*M.length:=by
 induction L with
 |nil=>simp
 |cons a L ih=>rw[List.flatMap_cons,List.length_append,ih,List.length_map,List.length_cons,Nat.succ_mul,Nat.add_comm]
def sI(K:Frag):Sp:=fun vs H Q _=>∃(o a0 a1:Addr) (one two:List Nat),vs=[.ref o]/\wJ K H o a0 a1 one two/\one.length<=6/\one.length=two.length/\∀z as H',H z=none->aq H H'->lR H' z (cV one two) as->Q (.ref z) H'
abbrev pb:Stmt:=top 148
theorem kj:aC ["owned","swaps","given_kind","taken_kind"] ["owned"] (ay pb):=aJ
theorem DM(T:gE mg)(F:bD K "serving_swaps" "serving_swaps" pb f fd)(ja:Cl P w K mg ae 2 "sellable_kinds" g1 bH ["seller","buyer"] (DL K)):aM P w K mg ae bo 3 f fd ["owned"] (sI K):=by
 refine bG F kj fun _ _ _ _ H _ Q _ hr h=>?_;obtain⟨o,a0,a1,one,two,rfl,ho,hl,hlt,k⟩:=h;refine⟨_,(ag (pz 1 kj (aK af))
  (ag (fQ PassesOwn.never rfl (fm (ak ja hr (aa (aD aA (pv 0) ai (fun _ _=>rfl)) (aa (aD aA (pv 0) ai (fun _ _=>rfl)) af)))) (qz 2 kj)
   (ah (fQ PassesOwn.never rfl (fm (ak ja hr (aa (aD aA (pv 0) ai (fun _ _=>rfl)) (aa (aD aA (pv 0) ai (fun _ _=>rfl)) af)))) (qz 3 kj)
   (ah (jx (uA PySem.F.plainAttrs_list PySem.F.slot_list_append PySem.F.type_list_append rG (pv 1) (aa (mW (aa (pv 2) (aa (pv 3) af))) af)))))))
  (ah (az (pv 1))))),?_⟩
 w_on;refine⟨by decide,fun z hz=>?_⟩;have n1:=wI one two;have n2:=wI two one;have o1:=ho.same (aq.new (o:=.lst []) hz);refine Qt (post:=fun q H1=>aq (upd H z (.lst [])) H1/\H1 q=some (.lst (ax (ir one two)))/\upd H z (.lst []) q=none) (fun R r=>by
  w_on;refine bq (aG.of o1.lst) (lN _ _) ?_;w_on;refine bq (aG.of o1.lst) (pB _ _) ?_;w_on;exact⟨a0,a1,one,two,rfl,aG.of o1.one,aG.of o1.two,by omega,hlt,fun q H1 nq s1 h1=>r q H1 ⟨s1,h1,nq⟩⟩) (fun q H1 ⟨s1,hq,nq⟩=>?_)
 have hqz:q≠z:=(bM nq).1;refine⟨_,aG.of hq,fun i σ H'=>aq H H'/\H' q=some (.lst (ax (ir one two)))/\(∃v2 v3:Option V,σ=[some (.ref o),some (.ref z),v2,v3])/\∃as,lR H' z (((ir one two).take i).flatMap fun i=>(ir two one).map fun j=>(i,j)) as,
  ⟨(aq.new hz).trans s1,hq,⟨_,_,rfl⟩,[],lR.nil (s1 _ _ aj)⟩,fun i σ H' _ ⟨_,h,_⟩=>aG.of h,?_,?_⟩
 ·rintro i v σ H' hv ⟨s2,hq2,⟨v2,v3,rfl⟩,as,kn⟩;obtain⟨x,hx,rfl⟩:=sg hv;have o2:=ho.same s2;w_on;refine Qt (post:=fun q3 H3=>aq H' H3/\H3 q3=some (.lst (ax (ir two one)))/\H' q3=none) (fun R r=>by
   w_on;refine bq (aG.of o2.lst) (pB _ _) ?_;w_on;refine bq (aG.of o2.lst) (lN _ _) ?_;w_on;exact⟨a1,a0,two,one,rfl,aG.of o2.two,aG.of o2.one,by omega,hlt.symm,fun q3 H3 n3 s3 h3=>r q3 H3 ⟨s3,h3,n3⟩⟩) (fun q3 H3 ⟨s3,hq3,n3⟩=>?_)
  have abE:q3≠z:=fun e=>by rw[e,kn.lst]at n3;cases n3
  refine⟨_,aG.of hq3,fun j σ H5=>aq H H5/\H5 q=some (.lst (ax (ir one two)))/\H5 q3=some (.lst (ax (ir two one)))/\(∃v3:Option V,σ=[some (.ref o),some (.ref z),some (.int (x:Int)),v3])/\
    ∃as,lR H5 z ((((ir one two).take i).flatMap fun i=>(ir two one).map fun j=>(i,j))++((ir two one).take j).map fun j=>(x,j)) as,
   ⟨s2.trans s3,s3 _ _ hq2,hq3,⟨_,rfl⟩,as,by rw[List.take_zero,List.map_nil,List.append_nil];exact kn.same s3⟩,fun j σ H5 _ ⟨_,_,h,_⟩=>aG.of h,?_,?_⟩
  ·rintro j u σ H5 hu ⟨s5,Xd,hr5,⟨v3,rfl⟩,VG,FZ⟩;obtain⟨m,hm,rfl⟩:=sg hu;w_on;refine⟨.inl ⟨rfl,_,aG.of FZ.lst⟩,by decide,fun T hT=>?_⟩;have hzT:z≠T:=a7 FZ.lst hT;have hb:VG.length<=42:=by
    rw[FZ.len,List.length_append,K3,List.length_map,List.length_take,List.length_take];have a1:min i (ir one two).length<=6:=by omega
    have a2:(ir two one).length<=6:=by omega
    have:=Nat.mul_le_mul a1 a2;omega
   refine NJ (by rw[aE hzT];exact FZ.lst) (vf (by rw[List.length_map];omega)) ?_;w_on;have hqT:q≠T:=a7 Xd hT;have abF:q3≠T:=a7 hr5 hT;refine⟨fun b ob e=>?_,by rw[aE hqz,aE hqT];exact Xd,by rw[aE abE,aE abF];exact hr5,?_⟩
   ·rw[aE (a7 e hz),aE (a7 (s5 _ _ e) hT)];exact s5 _ _ e
   refine⟨VG++[T],?_⟩;rw[fv hm,List.map_append,<- List.append_assoc];exact FZ.push hT x m
  rintro σ H5 ⟨s5,Xd,hr5,⟨v3,rfl⟩,VG,FZ⟩;rw[aX,List.take_length,<- Q0 hx]at FZ;exact⟨s5,Xd,⟨_,_,rfl⟩,VG,FZ⟩
 rintro σ H' ⟨s2,hq2,⟨v2,v3,rfl⟩,as,kn⟩;w_on;rw[aX,List.take_length]at kn;exact k z as H' hz s2 kn
def iu(l:List Nat)(i j:Nat):List Nat:=(l.set i (l.getD i 0 - 1)).set j ((l.set i (l.getD i 0 - 1)).getD j 0+1)
def jn(l:List Nat)(i j:Nat):List Nat:=(l.set i (l.getD i 0+1)).set j ((l.set i (l.getD i 0+1)).getD j 0 - 1)
theorem F0(t:Table)(i j:Nat):swapped t i j={t with one:=iu t.one i j,two:=jn t.two i j}:=rfl
theorem tupI{K:Frag}{H:Hp}{p:Addr}{x y:V}{Q:VK}(h:ik K H p [x,y])(q:Q x H):Rz K (.ref p) (.int 0) H Q:=xB h (lN x y) q
theorem Y2{K:Frag}{H:Hp}{p:Addr}{x y:V}{Q:VK}(h:ik K H p [x,y])(q:Q y H):Rz K (.ref p) (.int 1) H Q:=xB h (pB x y) q
def zZ(K:Frag):Sp:=fun vs H Q _=>∃(o a0 a1 sw:Addr) (one two:List Nat) (i j:Nat),vs=[.ref o,.ref sw]/\wJ K H o a0 a1 one two/\ik K H sw [.int (i:Int),.int (j:Int)]/\i<one.length/\j<one.length/\one.length=two.length/\
 1<=one.getD i 0/\1<=(two.set i (two.getD i 0+1)).getD j 0/\∀z b0 b1 H',H z=none->H b0=none->H b1=none->z≠b0->z≠b1->b0≠b1->aq H H'->wJ K H' z b0 b1 (iu one i j) (jn two i j)->Q (.ref z) H'
abbrev sJ:Stmt:=top 149
theorem xa:aC ["owned","swap","counts"] ["owned","swap"] (ay sJ):=aJ
theorem GJ(T:gE mg)(F:bD K "behind_swap" "behind_swap" sJ f fd):aM P w K mg ae bo 1 f fd ["owned","swap"] (zZ K):=by
 refine bG F xa fun _ _ _ _ H _ Q _ hr h=>?_;obtain⟨o,a0,a1,sw,one,two,i,j,rfl,ho,kn,hi,hj,hlt,h1,h2,k⟩:=h;refine⟨_,(ag (pz 2 xa (aK (aa (rF lJ (by rfl) T.CQ boot_list (aa (aD aA (pv 0) ai (fun _ _=>rfl)) af)) (aa (rF lJ (by rfl) T.CQ boot_list (aa (aD aA (pv 0) ai (fun _ _=>rfl)) af)) af))))
  (ag (lI (aD aA (pv 2) ai (fun _ _=>rfl)) (aD gX (pv 1) ai (fun _ _=>rfl)) j5 ai Lb set_list)
  (ag (lI (aD aA (pv 2) ai (fun _ _=>rfl)) (aD gX (pv 1) ai (fun _ _=>rfl)) j5 ai mT set_list)
  (ag (lI (aD aA (pv 2) ai (fun _ _=>rfl)) (aD gX (pv 1) ai (fun _ _=>rfl)) j5 ai Lb set_list)
  (ag (lI (aD aA (pv 2) ai (fun _ _=>rfl)) (aD gX (pv 1) ai (fun _ _=>rfl)) j5 ai mT set_list)
  (ah (az (pv 2)))))))),?_⟩
 w_on;refine bq (aG.of ho.lst) (lN _ _) ?_;w_on;refine⟨_,.inl (aG.of ho.one),fun b0 n0=>?_⟩;w_on;have s0:aq H (upd H b0 (.lst (ax one))):=aq.new n0;refine bq (aG.of (s0 _ _ ho.lst)) (pB _ _) ?_;w_on;refine⟨_,.inl (aG.of (s0 _ _ ho.two)),fun b1 n1=>?_⟩;w_on;refine⟨by decide,fun z nz=>?_⟩;obtain⟨Xe,m1⟩:=bM n1;obtain⟨ez1,nz'⟩:=bM nz;obtain⟨ez0,mz⟩:=bM nz';have sA:aq H (upd (upd (upd H b0 (.lst (ax one))) b1 (.lst (ax two))) z (.lst [.ref b0,.ref b1])):=(s0.trans (aq.new n1)).trans (aq.new nz);have L:∀{X Y:List V},∀{H1:Hp},H1 z=some (.lst [.ref b0,.ref b1])->H1 b0=some (.lst X)->H1 b1=some (.lst Y)->∀V',(upd H1 b0 (.lst V')) z=some (.lst [.ref b0,.ref b1])/\(upd H1 b0 (.lst V')) b0=some (.lst V')/\(upd H1 b0 (.lst V')) b1=some (.lst Y):=
  fun hz _ Qv V'=>⟨by rw[aE ez0];exact hz,aj,by rw[aE Xe];exact Qv⟩
 have R:∀{X Y:List V},∀{H1:Hp},H1 z=some (.lst [.ref b0,.ref b1])->H1 b0=some (.lst X)->H1 b1=some (.lst Y)->∀V',(upd H1 b1 (.lst V')) z=some (.lst [.ref b0,.ref b1])/\(upd H1 b1 (.lst V')) b0=some (.lst X)/\(upd H1 b1 (.lst V')) b1=some (.lst V'):=
  fun hz hb0 _ V'=>⟨by rw[aE ez1];exact hz,by rw[aE (Ne.symm Xe)];exact hb0,aj⟩
 w_on;have z0:(upd (upd (upd H b0 (.lst (ax one))) b1 (.lst (ax two))) z (.lst [.ref b0,.ref b1])) z=some (.lst [.ref b0,.ref b1]):=aj;have x0:(upd (upd (upd H b0 (.lst (ax one))) b1 (.lst (ax two))) z (.lst [.ref b0,.ref b1])) b0=some (.lst (ax one)):=by rw[aE (Ne.symm ez0),aE (Ne.symm Xe),aj]
 have y0:(upd (upd (upd H b0 (.lst (ax one))) b1 (.lst (ax two))) z (.lst [.ref b0,.ref b1])) b1=some (.lst (ax two)):=by rw[aE (Ne.symm ez1),aj]
 generalize (upd (upd (upd H b0 (.lst (ax one))) b1 (.lst (ax two))) z (.lst [.ref b0,.ref b1]))=H1 at sA z0 x0 y0 ⊢;refine bq (aG.of z0) (lN _ _) ?_;w_on;refine tupI (aq.Nj sA kn) ?_;w_on;refine getL (aG.of x0) (kz hi) ?_;w_on;refine wW x0 (by rw[aX];exact hi) ?_;rw[show((one.getD i 0:Nat):Int) - 1=((one.getD i 0 - 1:Nat):Int)by omega,ia];obtain⟨z1,x1,y1⟩:=L z0 x0 y0 (ax (one.set i (one.getD i 0 - 1)));have sB:aq H (upd H1 b0 (.lst (ax (one.set i (one.getD i 0 - 1))))):=aq.put sA n0;generalize (upd H1 b0 (.lst (ax (one.set i (one.getD i 0 - 1)))))=H2 at sB z1 x1 y1 ⊢;w_on;refine bq (aG.of z1) (pB _ _) ?_;w_on;refine tupI (aq.Nj sB kn) ?_;w_on;refine getL (aG.of y1) (kz (by omega)) ?_;w_on;refine wW y1 (by rw[aX];omega) ?_;rw[show((two.getD i 0:Nat):Int)+1=((two.getD i 0+1:Nat):Int)by omega,ia];obtain⟨z2,x2,y2⟩:=R z1 x1 y1 (ax (two.set i (two.getD i 0+1)));have sC:aq H (upd H2 b1 (.lst (ax (two.set i (two.getD i 0+1))))):=aq.put sB m1;generalize (upd H2 b1 (.lst (ax (two.set i (two.getD i 0+1)))))=H3 at sC z2 x2 y2 ⊢;w_on;refine bq (aG.of z2) (pB _ _) ?_;w_on;refine Y2 (aq.Nj sC kn) ?_;w_on;refine getL (aG.of y2) (kz (by rw[List.length_set];omega)) ?_;w_on;refine wW y2 (by rw[aX,List.length_set];omega) ?_;rw[show(((two.set i (two.getD i 0+1)).getD j 0:Nat):Int) - 1=(((two.set i (two.getD i 0+1)).getD j 0 - 1:Nat):Int)by omega,ia];obtain⟨z3,x3,y3⟩:=R z2 x2 y2 (ax ((two.set i (two.getD i 0+1)).set j ((two.set i (two.getD i 0+1)).getD j 0 - 1)));have sD:aq H (upd H3 b1 (.lst (ax ((two.set i (two.getD i 0+1)).set j ((two.set i (two.getD i 0+1)).getD j 0 - 1))))):=aq.put sC m1;generalize (upd H3 b1 (.lst (ax ((two.set i (two.getD i 0+1)).set j ((two.set i (two.getD i 0+1)).getD j 0 - 1)))))=H4 at sD z3 x3 y3 ⊢;w_on;refine bq (aG.of z3) (lN _ _) ?_;w_on;refine Y2 (aq.Nj sD kn) ?_;w_on;refine getL (aG.of x3) (kz (by rw[List.length_set];omega)) ?_;w_on;refine wW x3 (by rw[aX,List.length_set];omega) ?_;rw[show(((one.set i (one.getD i 0 - 1)).getD j 0:Nat):Int)+1=(((one.set i (one.getD i 0 - 1)).getD j 0+1:Nat):Int)by omega,ia];obtain⟨z4,x4,y4⟩:=L z3 x3 y3 (ax ((one.set i (one.getD i 0 - 1)).set j ((one.set i (one.getD i 0 - 1)).getD j 0+1)));w_on;exact k z b0 b1 _ mz n0 m1 ez0 ez1 (Ne.symm Xe) (aq.put sD n0) ⟨z4,x4,y4⟩
def z6(x y:Rat):Rat:=if x<y then y else x
def IY(K:Frag):Sp:=fun vs H Q _=>∃(aw o a0 a1:Addr) (l one two:List Nat),vs=[.ref aw,.ref o]/\aG K H aw (ax l)/\e8 l/\wJ K H o a0 a1 one two/\l.length=one.length/\l.length=two.length/\
 ∀z H',aq H H'->bF K H' z (z6 (gw l.sum (dP l one)) (gw l.sum (dP l two)))->Fits (z6 (gw l.sum (dP l one)) (gw l.sum (dP l two)))->Q (.ref z) H'
abbrev qw:Stmt:=top 150
theorem pf:aC ["weights","owned","one","other"] ["weights","owned"] (ay qw):=aJ
theorem Fg(F:bD K "greater_mean" "greater_mean" qw f fd)(bC:Cl P w K mg ae 4 "collector_mean" g1 bH ["weights","counts"] (mJ K))(fe:Cl P w K mg ae 1 "is_less" g2 cp ["one","other"] (CP K)):
  aM P w K mg ae bo 5 f fd ["weights","owned"] (IY K):=by
 refine bG F pf fun _ _ _ _ H _ Q _ hr h=>?_;obtain⟨aw,o,a0,a1,l,one,two,rfl,hw,hW,ho,h1,h2,k⟩:=h;refine⟨_,(ag (pz 2 pf (ak bC hr (aa (pv 0) (aa (aD aA (pv 1) ai (fun _ _=>rfl)) af))))
  (ag (pz 3 pf (ak bC hr (aa (pv 0) (aa (aD aA (pv 1) ai (fun _ _=>rfl)) af))))
  (ah (az (Ei (eU (ak fe hr (aa (pv 2) (aa (pv 3) af)))) (pv 3) (pv 2)))))),?_⟩
 w_on;refine bq (aG.of ho.lst) (lN _ _) ?_;w_on;refine⟨aw,a0,l,one,rfl,hw,aG.of ho.one,hW,h1,fun z1 H1 s1 r1 f1=>?_⟩;w_on;have o1:=ho.same s1;refine bq (aG.of o1.lst) (pB _ _) ?_;w_on;refine⟨aw,a1,l,two,rfl,s1.seq hw,aG.of o1.two,hW,h2,fun z2 H2 s2 r2 f2=>?_⟩;w_on;refine⟨z1,z2,_,_,rfl,aq.rat s2 r1,r2,f1,f2,?_⟩;w_on;unfold z6 at k;by_cases h3:gw l.sum (dP l one)<gw l.sum (dP l two)
 ·rw[if_pos h3]at k ⊢;exact k z2 H2 (s1.trans s2) r2 f2
 rw[if_neg h3]at k ⊢;exact k z1 H2 (s1.trans s2) (aq.rat s2 r1) f1
theorem NZ(l:Addr)(items:Array Value)(n:Nat)(b:Addr)(z7:Array Value)(hs0:¬(!items.isEmpty&&Builtin.List.listTooLong (items.size+z7.size))=true)(hs1:items.size<=sizeLine)(Oy:items.size+z7.size<=sizeLine+1):
  Meets (Builtin.«list.extend» ⟨[.ref l,.ref b],[]⟩) (fun _ R s=>s.heap.get? l=some {cls:=.type "list",dict:=none,data:=.seq items n,slots:= #[]}/\IsTup s.heap b z7/\R (.ok (.ret Value.none)) {s with heap:=s.heap.update l (Obj.mapSeq fun x=>x++z7),toks:=s.toks}):=
 .of_wp fun prog w A R s h=>by
  obtain⟨hl,⟨o,ho,hc,n2,hd⟩,h⟩:=h;have hz':(items++z7).size<=sizeLine+1:=by rw[Array.size_append];exact Oy
  show wpAny _ _ (Builtin.List.listExtendWith (.ref l) (.ref b) .none) _ _ s;unfold Builtin.List.listExtendWith;refine wpAny_bind (wpAny_typeOf ⟨o,ho,hc⟩ ?_);have h1:(Builtin.List.listSameRef (.ref l) (.ref b)||Value.type "tuple"==Value.type "list"||Value.type "tuple"==Value.type "tuple")=true:=by simp
  simp only[h1,if_true];refine wpAny_bind ?_;unfold Builtin.List.listItems;refine wpAny_bind (wpAny_seqItems ho hd (wpAny_pure ?_));refine wpAny_bind ?_;refine wpAny_bind (wpAny_seqItems hl rfl (wpAny_pure ?_));rw[if_neg hs0];show wpAny _ _ (updateSeq l (· ++z7) >>= fun _=>ret .none) _ _ s;refine wpAny_bind (wpAny_updateSeq (hz:=hs1) (_hz':=hz') hl rfl ?_);exact wpAny_pure ⟨_,rfl,h⟩
section
variable{X:Cx}
def VH(K:Frag):R2:=fun x y H Q=>∃d xs,Dp K H x d/\Dp K H y (.list xs)/\PyData.canLayAll0 xs=true/\d.canLay0=true/\d.depth<=8/\Q (.bl (!xs.any fun y=>PyData.eqv y d)) H
theorem Q4(hu:X.A.units+64<cLine):mU X (compareOp .NotIn) (VH X.K):=by
 intro au s σ H x y v u Q I rx ry h;obtain⟨d,xs,hd,he,c1,c2,c3,q⟩:=h;obtain⟨as,r1⟩:=Dp.reads I d x v hd rx;obtain⟨bs,r2⟩:=Dp.reads I (.list xs) y u he ry;exact SeqAt.notIn_list_reads r2 r1 c1 c2 (by have:min (PyData.depthAll xs) d.depth<=d.depth:=Nat.min_le_right _ _;omega) ⟨.bl _,H,I,rfl,q⟩
def TJ(K:Frag):V->List V->Hp->VK->Prop:=fun x vs H Q=>∃l b xs zs,x= .ref l/\vs=[.ref b]/\H l=some (.lst xs)/\H b=some (.tup zs)/\xs.length+zs.length<=sizeLine/\Q .e7 (upd H l (.lst (xs++zs)))
theorem N0:Zj X "list.extend" (TJ X.K):=by
 intro au s σ H x vs v us Q I rx rv h;obtain⟨l,b,xs,zs,rfl,rfl,hH,hB,hz,q⟩:=h;cases rx;obtain⟨u,rfl,ru⟩:=rv.one;cases ru;obtain⟨z,its,n,r,hl,e⟩:=I.HF hH;obtain⟨z2,oo,r2,e2⟩:=(show gv X.prog X.w H s.heap b (.tup zs)from I.cJ b _ hB);have Zk:oo.length=zs.length:=r2.length.symm;have hsz:its.toArray.size+oo.toArray.size<=sizeLine:=by rw[List.size_toArray,List.size_toArray];omega
 have HG:¬(!its.toArray.isEmpty&&Builtin.List.listTooLong (its.toArray.size+oo.toArray.size))=true:=by
  rw[En hsz,Bool.and_false];exact Bool.false_ne_true
 refine call_meets F.slot_list_extend ⟨_,e,rfl⟩ F.entry_list_extend (F.args_list_extend_2 _ _)
  (NZ l its.toArray n b oo.toArray HG (by rw[List.size_toArray];omega) (by omega)) ⟨e,e2,?_⟩
 refine⟨.e7,_,I.UE (its':=its++oo) hH e (by simp) (r.append r2) ?_,rfl,q⟩;rw[List.length_append];omega
end
theorem sw_eq(t:Table)(l1:t.one.length=t.kinds.length)(l2:t.two.length=t.kinds.length):swaps t=cV t.one t.two:=by
 unfold cV ir;rw[l1,l2];rfl
theorem IZ{s b:List Nat}{i:Nat}(h:i∈ir s b):i<s.length/\2<=s.getD i 0/\b.getD i 0=0:=by
 unfold ir at h;rw[List.mem_filter,List.mem_range]at h;unfold o8 at h;rw[Bool.and_eq_true,decide_eq_true_eq,beq_iff_eq]at h;exact h
theorem L5{one two:List Nat}{i j:Nat}:(i,j)∈cV one two↔i∈ir one two/\j∈ir two one:=by
 unfold cV;rw[List.mem_flatMap];constructor
 ·rintro⟨x,hx,h⟩;rw[List.mem_map]at h;obtain⟨y,hy,e⟩:=h;cases e;exact⟨hx,hy⟩
 rintro⟨h1,h2⟩;exact⟨i,h1,List.mem_map.mpr ⟨j,h2,rfl⟩⟩
theorem jR(l:List Nat)(i j:Nat):(iu l i j).length=l.length:=by unfold iu;rw[List.length_set,List.length_set]
theorem mE(l:List Nat)(i j:Nat):(jn l i j).length=l.length:=by unfold jn;rw[List.length_set,List.length_set]
theorem wK{l:List Nat}{i j x:Nat}(h:i≠j):(l.set i x).getD j 0=l.getD j 0:=by
 rw[List.getD_eq_getElem?_getD,List.getD_eq_getElem?_getD,List.getElem?_set_ne h]
theorem aq.no{H H':Hp}(s:aq H H'){z:Addr}(h:H' z=none):H z=none:=by
 cases e:H z with
 |none=>rfl
 |some o=>rw[s _ _ e]at h;cases h
theorem Hi{one two:List Nat}{i j:Nat}(hl:one.length=two.length)(h:(i,j)∈cV one two):i<one.length/\j<one.length/\2<=one.getD i 0/\two.getD i 0=0/\2<=two.getD j 0/\one.getD j 0=0/\i≠j/\1<=one.getD i 0/\1<=(two.set i (two.getD i 0+1)).getD j 0:=by
 obtain⟨h1,h2⟩:=L5.mp h;obtain⟨a1,a2,a3⟩:=IZ h1;obtain⟨b1,b2,b3⟩:=IZ h2;have SF:i≠j:=fun e=>by rw[e]at a2;omega
 refine⟨a1,by omega,a2,a3,b2,b3,SF,by omega,?_⟩;rw[wK SF];omega
def pd(p:Nat×Nat):PyData:=.tuple [.int (p.1:Int),.int (p.2:Int)]
theorem K4{K:Frag}{H:Hp}:∀(as:List Addr) (ps:List (Nat×Nat)),as.length=ps.length->(∀(k:Nat) (a:Addr),as[k]? =some a->∃pr,ps[k]? =some pr/\H a=some (.tup [.int (pr.1:Int),.int (pr.2:Int)]))->Bo K H (as.map V.ref) (ps.map pd)
 |[],[],_,_=>.nil
 |a::as,p::ps,hl,h=>by
  obtain⟨pr,e1,e2⟩:=h 0 a rfl;cases e1;exact .cons (.tup (ik.of e2) (.cons (.int _) (.cons (.int _) .nil))) (K4 as ps (Nat.succ.inj hl) fun k b e=>h (k+1) b e)
theorem Xf(ps:List (Nat×Nat))(p:Nat×Nat):((ps.map pd).any fun y=>PyData.eqv y (pd p))=ps.contains p:=by
 induction ps with
 |nil=>rfl
 |cons a ps ih=>
  rw[List.map_cons,List.any_cons,List.contains_cons,ih]
  congr 1
  obtain⟨a1,a2⟩:=a;obtain⟨p1,p2⟩:=p;unfold pd;simp only[PyData.eqv,PyData.eqvAll,Bool.and_true];rw[Bool.eq_iff_iff];simp only[Bool.and_eq_true,beq_iff_eq,Prod.mk.injEq];omega
theorem I0(p:Nat×Nat):(pd p).canLay0=true:=by
 unfold pd;simp[PyData.canLay0,PyData.canLayAll0]
theorem Kc(ps:List (Nat×Nat)):PyData.canLayAll0 (ps.map pd)=true:=by
 induction ps with
 |nil=>simp[PyData.canLayAll0]
 |cons a ps ih=>simp[PyData.canLayAll0,I0 a,ih]
theorem TK(p:Nat×Nat):(pd p).depth<=8:=by
 unfold pd;simp[PyData.depth,PyData.depthAll]
theorem bj.F1{K:Frag}{C:Addr}{H:Hp}{A:AA}{b:Bool}{t:Table}(h:bj C H A b t):wJ K H A.ao A.a0 A.a1 t.one t.two:=⟨h.lst,h.one,h.two⟩
def Q5(t:Table)(args:List Nat):Table×List Int:=bh (.swap (args.getD 0 0) (args.getD 1 0)) t
theorem TM(t:Table)(l1:t.one.length=t.kinds.length)(l2:t.two.length=t.kinds.length)(i j:Nat):Q5 t [i,j]=if i<t.kinds.length/\j<t.kinds.length then(if(cV t.one t.two).contains (i,j)=true then({t with one:=iu t.one i j,two:=jn t.two i j},[((cV (iu t.one i j) (jn t.two i j)).length:Int)])else(t,[-33]))else(t,[-2]):=by
 show bh (.swap i j) t=_;have e:Kp296.step (some t) (.swap i j)=if Kp296.is t i=false∨Kp296.is t j=false then(some t,Kp296.say (-2))else if(swaps t).contains (i,j)=false then(some t,Kp296.say (-33))else(some (swapped t i j),⟨((swaps (swapped t i j)).length:Int),[]⟩):=rfl;rw[sw_eq t l1 l2,F0,sw_eq _ (by show(iu t.one i j).length=t.kinds.length;rw[jR];exact l1) (by show(jn t.two i j).length=t.kinds.length;rw[mE];exact l2)]at e;unfold bh;rw[e];unfold Kp296.is;by_cases h1:i<t.kinds.length/\j<t.kinds.length
 ·rw[if_pos h1,if_neg (by rw[decide_eq_true h1.1,decide_eq_true h1.2];simp)];cases h2:(cV t.one t.two).contains (i,j)
  ·rw[if_pos rfl,if_neg Bool.false_ne_true];rfl
  rw[if_neg (by simp),if_pos rfl];rfl
 rw[if_neg h1,if_pos (by simp only[decide_eq_false_iff_not];omega)];rfl
abbrev sL:Stmt:=top 151
theorem xb:aC ["album","given","swap"] ["album","given"] (ay sL):=aJ
theorem GK(X:gm K mg C)(N:eV mg)(F:bD K "answer_swap" "answer_swap" sL f fd)(iV:rg P w K mg ae C 1 "has_kind" g1 bH ["self","kind"] (Hc C))
  (cu:Cl P w K mg ae 3 "serving_swaps" g2 cp ["owned"] (sI K))(ei:Cl P w K mg ae 1 "behind_swap" g3 c4 ["owned","swap"] (zZ K)):aM P w K mg ae bo 4 f fd ef (cQ K C 2 Q5):=by
 have T:=X.blt;refine bG F xb fun _ A _ _ H _ Q _ hr h=>?_;obtain⟨A,t,g,args,rfl,ha,hg,fJ,hn,k⟩:=h;obtain⟨i,j,rfl⟩:=uO hn;rw[TM t ha.l1 ha.l2]at k;refine⟨_,(ag (a9 (PW.pt (pW (fN (eU (eC (pv 0) iV hr (aa (aD aA (pv 1) ai (fun _ _=>rfl)) af)))) (mS (fN (eU (eC (pv 0) iV hr (aa (aD aA (pv 1) ai (fun _ _=>rfl)) af)))))))
   (ah (az (aK (aa (aU N.f9) af))))
   aI)
  (ag (pz 2 xb (mW (aa (aD aA (pv 1) ai (fun _ _=>rfl)) (aa (aD aA (pv 1) ai (fun _ _=>rfl)) af))))
  (ag (a9 (aP (Q4 hr.units) (pv 2) (ak cu hr (aa (bg (pv 0) rfl) af)) rfl)
   (ah (az (aK (aa (aU N.tT) af))))
   aI)
  (ag (qV (pv 0) (ak ei hr (aa (bg (pv 0) rfl) (aa (pv 2) af))) rfl)
  (ah (az (aK (aa (aT a6 (by rfl) T.dZ boot_len (aa (ak cu hr (aa (bg (pv 0) rfl) af)) af)) af)))))))),?_⟩
 w_on;refine⟨A.dx,_,ha.ins,e9,?_⟩;refine bq hg (ng i j) ?_;w_on;refine⟨A,true,t,i,rfl,ha,?_⟩;w_on;by_cases hi:i<t.kinds.length
 case neg=>
  rw[if_neg (fun q=>hi q.1)]at k;rw[if_pos (by rw[decide_eq_false hi];rfl)];exact⟨by decide,fun z hz=>a8 ha k rfl (aq.new hz) hz aj⟩
 rw[if_neg (by rw[decide_eq_true hi];simp)];refine⟨A.dx,_,ha.ins,e9,?_⟩;refine bq hg (nh i j) ?_;w_on;refine⟨A,true,t,j,rfl,ha,?_⟩;w_on;by_cases hj:j<t.kinds.length
 case neg=>
  rw[if_neg (fun q=>hj q.2)]at k;rw[if_pos (by rw[decide_eq_false hj];rfl)];exact⟨by decide,fun z hz=>a8 ha k rfl (aq.new hz) hz aj⟩
 rw[if_neg (by rw[decide_eq_true hj];simp)];rw[if_pos ⟨hi,hj⟩]at k;refine bq hg (ng i j) ?_;w_on;refine bq hg (nh i j) ?_;w_on;refine⟨by decide,fun p hp=>?_⟩;have s1:aq H (upd H p (.tup [.int (i:Int),.int (j:Int)])):=aq.new hp;have a1:=ha.same s1;have p1:(upd H p (.tup [.int (i:Int),.int (j:Int)])) p=some (.tup [.int (i:Int),.int (j:Int)]):=aj;generalize upd H p (.tup [.int (i:Int),.int (j:Int)])=H1 at s1 a1 p1 ⊢;have L6:t.one.length<=6:=by rw[ha.l1];exact ha.ok.jr
 refine fO X a1 ?_;w_on;refine⟨A.ao,A.a0,A.a1,t.one,t.two,rfl,a1.F1,L6,by rw[ha.l1,ha.l2],fun z as H2 nz s2 kn=>?_⟩;have a2:=a1.same s2;refine⟨pd (i,j),(cV t.one t.two).map pd,.tup (ik.of (s2 _ _ p1)) (.cons (.int _) (.cons (.int _) .nil)),.lst (aG.of kn.lst) (K4 as _ kn.len kn.at_),Kc _,I0 _,TK _,?_⟩;rw[Xf];w_on;cases hc:(cV t.one t.two).contains (i,j)
 ·rw[if_neg (by rw[hc];exact Bool.false_ne_true)]at k;rw[if_pos (by rfl)];exact⟨by decide,fun q hq=>a8 ha k rfl (aq.put (s1.trans s2) (aq.no (s1.trans s2) hq)) (aq.no (s1.trans s2) hq) aj⟩
 rw[if_pos hc]at k;rw[if_neg (by simp)];obtain⟨v1,v2,_,_,_,_,_,v3,v4⟩:=Hi (by rw[ha.l1,ha.l2]) (List.contains_iff_mem.mp hc);refine fO X a2 ?_;refine⟨A.ao,A.a0,A.a1,p,t.one,t.two,i,j,rfl,a2.F1,ik.of (s2 _ _ p1),v1,v2,by rw[ha.l1,ha.l2],v3,v4,fun y b0 b1 H3 ny n0 n1 y0 y1 b01 s3 ho=>?_⟩;have a3:=a2.same s3;have fy:=a2.iW ny;have f0:=a2.iW n0;have f1:=a2.iW n1;refine⟨C,A.dx,_,a3.ins,X.cl,X.nO,by rw[rq];decide,?_⟩;rw[Ik];have nd:=ha.nd;have hy:=(fun e=>fy (by rw[e];unfold AA.foot;simp):y≠A.a);have h0:=(fun e=>f0 (by rw[e];unfold AA.foot;simp):b0≠A.a);have h1:=(fun e=>f1 (by rw[e];unfold AA.foot;simp):b1≠A.a);have a4:bj C (upd H3 A.a (.ins C A.dx (gY true A.aw y t.bought))) ⟨A.a,A.dx,A.aw,y,b0,b1⟩ true {t with one:=iu t.one i j,two:=jn t.two i j}:=by
  unfold AA.foot at nd fy f0 f1;simp only[List.nodup_cons,List.mem_cons,not_or,List.not_mem_nil,or_false]at nd fy f0 f1;refine⟨aj,?_,?_,?_,?_,?_,?_,?_,?_,ha.ok⟩
  ·rw[aE (Ne.symm nd.1.1)];exact a3.own
  ·rw[aE (Ne.symm nd.1.2.1)];exact a3.fY
  ·rw[aE hy];exact ho.lst
  ·rw[aE h0];exact ho.one
  ·rw[aE h1];exact ho.two
  ·unfold AA.foot;simp only[List.nodup_cons,List.mem_cons,not_or,List.not_mem_nil,or_false,not_false_eq_true,List.nodup_nil,and_true];exact⟨⟨nd.1.1,nd.1.2.1,Ne.symm fy.1,Ne.symm f0.1,Ne.symm f1.1⟩,⟨nd.2.1.1,Ne.symm fy.2.1,Ne.symm f0.2.1,Ne.symm f1.2.1⟩,⟨Ne.symm fy.2.2.1,Ne.symm f0.2.2.1,Ne.symm f1.2.2.1⟩,⟨y0,y1⟩,b01⟩
  ·show(iu t.one i j).length=t.kinds.length;rw[jR];exact ha.l1
  show(jn t.two i j).length=t.kinds.length;rw[mE];exact ha.l2
 have VI:∀b o,H b=some o->∃o',(upd H3 A.a (.ins C A.dx (gY true A.aw y t.bought))) b=some o':=fun b o e=>by
  by_cases q:b=A.a
  ·rw[q];exact⟨_,aj⟩
  rw[aE q];exact⟨_,s3 _ _ (s2 _ _ (s1 _ _ e))⟩
 have kp:Kept A H (upd H3 A.a (.ins C A.dx (gY true A.aw y t.bought))):=fun b o e hb=>by
  rw[aE (fun q=>hb (by rw[q];unfold AA.foot;simp))];exact s3 _ _ (s2 _ _ (s1 _ _ e))
 have s12:aq H H2:=s1.trans s2;generalize upd H3 A.a (.ins C A.dx (gY true A.aw y t.bought))=H4 at a4 kp VI ⊢;refine fO X a4 ?_;refine⟨y,b0,b1,_,_,rfl,a4.F1,by show(iu t.one i j).length<=6;rw[jR];exact L6,by show(iu t.one i j).length=(jn t.two i j).length;rw[jR,mE,ha.l1,ha.l2],fun q VG H5 nq s5 hs5=>?_⟩;w_on;refine⟨_,.inl (aG.of hs5.lst),by decide,fun u nu=>?_⟩;have a5:=a4.same s5;have fu:=a5.iW nu;have kp5:Kept A H H5:=fun b o e hb=>s5 _ _ (kp b o e hb);have TN:H u=none:=by
  cases e:H u with
  |none=>rfl
  |some o=>
   obtain⟨o',e'⟩:=VI _ _ e;rw[s5 _ _ e']at nu;cases nu
 refine k u ⟨A.a,A.dx,A.aw,y,b0,b1⟩ _ rfl (a5.same (aq.new nu)) (fun b o e hb=>by rw[aE (fun q=>by rw[q,TN]at e;cases e)];exact kp5 b o e hb) (fun c hc=>?_) TN fu ?_
 ·unfold AA.foot at hc ⊢;simp only[List.mem_cons,List.not_mem_nil,or_false]at hc;rcases hc with rfl|rfl|rfl|rfl|rfl|rfl
  ·exact .inl (by simp)
  ·exact .inl (by simp)
  ·exact .inl (by simp)
  ·exact .inr (aq.no s12 ny)
  ·exact .inr (aq.no s12 n0)
  exact .inr (aq.no s12 n1)
 rw[aj,List.length_map,hs5.len];rfl
theorem lR.off{H:Hp}{z u:Addr}{ps:List (Nat×Nat)}{as:List Addr}{l:List V}{o:HO}(h:lR H z ps as)(Xg:z≠u)(hu:H u=some (.lst l)):lR (upd H u o) z ps as:=
 ⟨by rw[aE Xg];exact h.lst,h.len,fun k a e=>by
  obtain⟨pr,h1,h2⟩:=h.at_ k a e;exact⟨pr,h1,by rw[aE (fun q=>by rw[q,hu]at h2;cases h2)];exact h2⟩⟩
def Hj(t:Table)(_:List Nat):Table×List Int:=bh .swaps t
theorem Q6(t:Table)(l1:t.one.length=t.kinds.length)(l2:t.two.length=t.kinds.length)(args:List Nat):Hj t args=(t,((cV t.one t.two).length:Int)::Kp296.ints ((cV t.one t.two).flatMap fun z=>[z.1,z.2])):=by
 rw[<- sw_eq t l1 l2];rfl
def jE(ps:List (Nat×Nat)):List V:=ps.flatMap fun z=>[V.int (z.1:Int),V.int (z.2:Int)]
theorem TQ(ps:List (Nat×Nat)):jE ps=c9 (Kp296.ints (ps.flatMap fun z=>[z.1,z.2])):=by
 unfold jE c9 Kp296.ints
 induction ps with
 |nil=>rfl
 |cons a ps ih=>
  rw[List.flatMap_cons,List.flatMap_cons,List.map_append,List.map_append,ih];rfl
theorem Q7(ps:List (Nat×Nat)):(jE ps).length=2*ps.length:=by
 unfold jE
 induction ps with
 |nil=>rfl
 |cons a ps ih=>rw[List.flatMap_cons,List.length_append,ih,List.length_cons,List.length_cons,List.length_cons,List.length_nil];omega
theorem N1{ps:List (Nat×Nat)}{i:Nat}{p:Nat×Nat}(h:ps[i]? =some p):jE (ps.take (i+1))=jE (ps.take i)++[V.int (p.1:Int),V.int (p.2:Int)]:=by
 unfold jE;rw[fv h,List.flatMap_append];rfl
theorem L7(one two:List Nat)(h1:one.length<=6)(h2:two.length<=6):(cV one two).length<=36:=by
 unfold cV;rw[K3];have a1:=wI one two;have a2:=wI two one;exact Nat.mul_le_mul (show _<=6 by omega) (show _<=6 by omega)
abbrev qx:Stmt:=top 152
theorem k9:aC ["album","given","swaps","answer","swap"] ["album","given"] (ay qx):=aJ
theorem Fh{na:Nat}(X:gm K mg C)(F:bD K "answer_swaps" "answer_swaps" qx f fd)
  (cu:Cl P w K mg ae 3 "serving_swaps" g2 cp ["owned"] (sI K)):aM P w K mg ae bo 4 f fd ef (cQ K C na Hj):=by
 have T:=X.blt;refine bG F k9 fun _ A _ _ H _ Q _ hr h=>?_;obtain⟨A,t,g,args,rfl,ha,hg,fJ,hn,k⟩:=h;rw[Q6 t ha.l1 ha.l2]at k;refine⟨_,(ag (pz 2 k9 (ak cu hr (aa (bg (pv 0) rfl) af)))
  (ag (pz 3 k9 (aK (aa (aT a6 (by rfl) T.dZ boot_len (aa (pv 2) af)) af)))
  (ag (fQ PassesOwn.never rfl (fm (pv 2)) (qz 4 k9)
   (ah (jx (uA PySem.F.plainAttrs_list PySem.F.slot_list_extend PySem.F.type_list_extend N0 (pv 3) (aa (pv 4) af)))))
  (ah (az (pv 3)))))),?_⟩
 w_on;have L6:t.one.length<=6:=by rw[ha.l1];exact ha.ok.jr
 have abG:t.two.length<=6:=by rw[ha.l2];exact ha.ok.jr
 refine fO X ha ?_;refine⟨A.ao,A.a0,A.a1,t.one,t.two,rfl,ha.F1,L6,by rw[ha.l1,ha.l2],fun z as H1 nz s1 kn=>?_⟩;w_on;refine⟨_,.inl (aG.of kn.lst),by decide,fun u nu=>?_⟩;have hb:=L7 t.one t.two L6 abG;have Xg:z≠u:=fun e=>by rw[<- e,kn.lst]at nu;cases nu
 have TN:=aq.no s1 nu;refine forL (fun R r=>by w_on;exact r) (aG.of (aE Xg▸kn.lst)) (fun i σ H'=>aq H H'/\lR H' z (cV t.one t.two) as/\H' u=some (.lst (V.int ((cV t.one t.two).length:Int)::jE ((cV t.one t.two).take i)))/\∃v3:Option V,σ=[some (.ref A.a),some (.ref g),some (.ref z),some (.ref u),v3])
  ⟨aq.put s1 TN,kn.same (aq.new nu),?_,⟨_,rfl⟩⟩ (fun i σ H' _ ⟨_,h,_⟩=>aG.of h.lst) ?_ ?_
 ·rw[aj,List.length_map,kn.len];rfl
 ·rintro i v σ H' hv ⟨s2,Ja,u2,v3,rfl⟩;obtain⟨a,VJ,rfl⟩:∃a,as[i]? =some a/\v= .ref a:=by
   rw[List.getElem?_map]at hv;cases e:as[i]? with
   |none=>rw[e]at hv;cases hv
   |some a=>rw[e]at hv;exact⟨a,rfl,(Option.some.inj hv).symm⟩
  obtain⟨pr,e1,e2⟩:=Ja.at_ i a VJ;w_on;refine⟨.inl ⟨rfl,_,aG.of u2⟩,u,a,_,_,rfl,rfl,u2,e2,Nat.le_of_lt (vf ?_),?_⟩
  ·rw[List.length_cons,Q7,List.length_take];simp only[List.length_cons,List.length_nil];omega
  refine⟨aq.put s2 TN,Ja.off Xg u2,?_⟩;rw[aj,N1 e1];rfl
 rintro σ H' ⟨s2,Ja,u2,v3,rfl⟩;w_on;rw[List.length_map,Ja.len,List.take_length,TQ]at u2;exact a8 ha k rfl s2 TN u2
def tH(t:Table)(z:Nat×Nat):Rat:=z6 (gw t.kinds.sum (dP t.kinds (iu t.one z.1 z.2))) (gw t.kinds.sum (dP t.kinds (jn t.two z.1 z.2)))
def jB(g:Nat×Nat->Rat)(b:Option (Nat×Nat))(z:Nat×Nat):Option (Nat×Nat):=match b with
 |none=>some z
 |some y=>if g z<g y then some z else some y
theorem F2(t:Table)(l1:t.one.length=t.kinds.length)(l2:t.two.length=t.kinds.length)(hw:e8 t.kinds)(z:Nat×Nat):greater (swapped t z.1 z.2)=toF (tH t z):=by
 rw[F0];unfold greater;rw[De (t:={t with one:=iu t.one z.1 z.2,two:=jn t.two z.1 z.2}) (p:=0) hw (by show(iu t.one z.1 z.2).length=t.kinds.length;rw[jR];exact l1),De (t:={t with one:=iu t.one z.1 z.2,two:=jn t.two z.1 z.2}) (p:=1) hw (by show(jn t.two z.1 z.2).length=t.kinds.length;rw[mE];exact l2),G8];have e0:d8 {t with one:=iu t.one z.1 z.2,two:=jn t.two z.1 z.2} 0=gw t.kinds.sum (dP t.kinds (iu t.one z.1 z.2)):=rfl;have e1:d8 {t with one:=iu t.one z.1 z.2,two:=jn t.two z.1 z.2} 1=gw t.kinds.sum (dP t.kinds (jn t.two z.1 z.2)):=rfl;rw[e0,e1];unfold tH z6;by_cases h:gw t.kinds.sum (dP t.kinds (iu t.one z.1 z.2))<gw t.kinds.sum (dP t.kinds (jn t.two z.1 z.2))
 ·rw[if_pos h,if_pos (decide_eq_true (Rat.le_of_lt h))]
 rw[if_neg h];by_cases h2:gw t.kinds.sum (dP t.kinds (iu t.one z.1 z.2))<=gw t.kinds.sum (dP t.kinds (jn t.two z.1 z.2))
 ·rw[if_pos (decide_eq_true h2),Rat.le_antisymm h2 (Rat.not_lt.mp h)]
 rw[if_neg (by rw[decide_eq_false h2];simp)]
theorem N2(t:Table)(l1:t.one.length=t.kinds.length)(l2:t.two.length=t.kinds.length)(hw:e8 t.kinds):fairest t=(cV t.one t.two).foldl (jB (tH t)) none:=by
 unfold fairest;rw[sw_eq t l1 l2]
 congr 1
 funext b z;cases b with
 |none=>rfl
 |some y=>
  unfold jB;show(if leq (greater (swapped t y.1 y.2)) (greater (swapped t z.1 z.2))=true then some y else some z)=_;rw[F2 t l1 l2 hw,F2 t l1 l2 hw,G8];by_cases h:tH t z<tH t y
  ·rw[if_neg (by rw[decide_eq_false (Rat.not_le.mpr h)];simp)];show _=if tH t z<tH t y then some z else some y;rw[if_pos h]
  rw[if_pos (decide_eq_true (Rat.not_lt.mp h))];show _=if tH t z<tH t y then some z else some y;rw[if_neg h]
def z8(t:Table)(_:List Nat):Table×List Int:=bh .fairest t
theorem L8(t:Table)(l1:t.one.length=t.kinds.length)(l2:t.two.length=t.kinds.length)(hw:e8 t.kinds)(args:List Nat):z8 t args=(t,match(cV t.one t.two).foldl (jB (tH t)) none with|some z=>[(z.1:Int),(z.2:Int)]|none=>[-33]):=by
 rw[<- N2 t l1 l2 hw];show bh .fairest t=_;have e:Kp296.step (some t) .fairest=(some t,match fairest t with|some z=>⟨(z.1:Int),Kp296.ints [z.2]⟩|none=>Kp296.say (-33)):=rfl;unfold bh;rw[e];cases fairest t <;> rfl
def Fr(K:Frag)(g:Nat×Nat->Rat)(H:Hp)(b:Option (Nat×Nat))(v w:V):Prop:=match b with
 |none=>v= .e7/\w= .e7
 |some y=>∃p m,v= .ref p/\w= .ref m/\H p=some (.tup [.int (y.1:Int),.int (y.2:Int)])/\bF K H m (g y)/\Fits (g y)
theorem Fr.same{K:Frag}{g:Nat×Nat->Rat}{H H':Hp}{b:Option (Nat×Nat)}{v w:V}(h:Fr K g H b v w)(s:aq H H'):Fr K g H' b v w:=by
 cases b with
 |none=>exact h
 |some y=>
  obtain⟨p,m,e1,e2,h1,h2,h3⟩:=h;exact⟨p,m,e1,e2,s _ _ h1,aq.rat s h2,h3⟩
theorem lR.get{H:Hp}{z:Addr}{ps:List (Nat×Nat)}{as:List Addr}(h:lR H z ps as){i:Nat}{v:V}(hv:(as.map V.ref)[i]? =some v):∃a pr,v= .ref a/\as[i]? =some a/\ps[i]? =some pr/\H a=some (.tup [.int (pr.1:Int),.int (pr.2:Int)]):=by
 rw[List.getElem?_map]at hv;cases e:as[i]? with
 |none=>rw[e]at hv;cases hv
 |some a=>
  rw[e]at hv;obtain⟨pr,h1,h2⟩:=h.at_ i a e;exact⟨a,pr,(Option.some.inj hv).symm,rfl,h1,h2⟩
abbrev nS:Stmt:=top 153
theorem fE:aC ["album","given","fairest","least","swap","mean"] ["album","given"] (ay nS):=aJ
theorem B2{na:Nat}(X:gm K mg C)(N:eV mg)(F:bD K "answer_fairest" "answer_fairest" nS f fd)
  (cu:Cl P w K mg ae 3 "serving_swaps" g2 cp ["owned"] (sI K))(ei:Cl P w K mg ae 1 "behind_swap" g3 c4 ["owned","swap"] (zZ K))(l8:Cl P w K mg ae 5 "greater_mean" g4 gG ["weights","owned"] (IY K))
  (fe:Cl P w K mg ae 1 "is_less" g1 bH ["one","other"] (CP K)):aM P w K mg ae bo 6 f fd ef (cQ K C na z8):=by
 have T:=X.blt;refine bG F fE fun _ A _ _ H _ Q _ hr h=>?_;obtain⟨A,t,g,args,rfl,ha,hg,fJ,hn,k⟩:=h;rw[L8 t ha.l1 ha.l2 ha.ok]at k;refine⟨_,(ag (pz 2 fE ck)
  (ag (pz 3 fE ck)
  (ag (fQ PassesOwn.never rfl (fm (ak cu hr (aa (bg (pv 0) rfl) af))) (qz 4 fE)
   (ag (pz 5 fE (ak l8 hr (aa (bg (pv 0) rfl) (aa (ak ei hr (aa (bg (pv 0) rfl) (aa (pv 4) af))) af))))
  (ah (a9 (PW.pt (pW (aP G4 (pv 2) ck (aV _)) (mS (eU (ak fe hr (aa (pv 5) (aa (pv 3) af)))))))
   (ag (pz 2 fE (pv 4))
  (ah (pz 3 fE (pv 5))))
   aI))))
  (ag (a9 (aP G4 (pv 2) ck (aV _))
   (ah (az (aK (aa (aU N.tT) af))))
   aI)
  (ah (az (rF lJ (by rfl) T.CQ boot_list (aa (pv 2) af)))))))),?_⟩
 w_on;have L6:t.one.length<=6:=by rw[ha.l1];exact ha.ok.jr
 refine Qt (post:=fun q H1=>aq H H1/\∃as,lR H1 q (cV t.one t.two) as) (fun R r=>by
  w_on;refine fO X ha ?_;exact⟨A.ao,A.a0,A.a1,t.one,t.two,rfl,ha.F1,L6,by rw[ha.l1,ha.l2],fun z as H1 nz s1 kn=>r z H1 ⟨s1,as,kn⟩⟩) (fun z H1 ⟨s1,as,kn⟩=>?_)
 refine⟨_,aG.of kn.lst,fun i σ H'=>aq H H'/\lR H' z (cV t.one t.two) as/\∃(v2 v3:V) (v4 v5:Option V),σ=[some (.ref A.a),some (.ref g),some v2,some v3,v4,v5]/\Fr K (tH t) H' (((cV t.one t.two).take i).foldl (jB (tH t)) none) v2 v3,
  ⟨s1,kn,_,_,_,_,rfl,⟨rfl,rfl⟩⟩,fun i σ H' _ ⟨_,h,_⟩=>aG.of h.lst,?_,?_⟩
 ·rintro i v σ H' hv ⟨s2,Ja,v2,v3,v4,v5,rfl,hF⟩;obtain⟨a,pr,rfl,ea,ep,e2⟩:=Ja.get hv;have aay:((cV t.one t.two).take (i+1)).foldl (jB (tH t)) none=jB (tH t) (((cV t.one t.two).take i).foldl (jB (tH t)) none) pr:=by
   rw[fv ep,List.foldl_append];rfl
  have hm:pr∈cV t.one t.two:=List.mem_of_getElem? ep;obtain⟨w1,w2,_,_,_,_,_,w3,w4⟩:=Hi (i:=pr.1) (j:=pr.2) (by rw[ha.l1,ha.l2]) hm;have a2:=ha.same s2;w_on;refine fW X a2 ?_;w_on;refine fO X a2 ?_;w_on;refine⟨A.ao,A.a0,A.a1,a,t.one,t.two,pr.1,pr.2,rfl,a2.F1,ik.of e2,w1,w2,by rw[ha.l1,ha.l2],w3,w4,fun y b0 b1 H3 ny n0 n1 y0 y1 b01 s3 ho=>?_⟩;w_on;refine⟨A.aw,y,b0,b1,t.kinds,_,_,rfl,aG.of (a2.same s3).fY,ha.ok,ho,by rw[jR];exact ha.l1.symm,by rw[mE];exact ha.l2.symm,fun m H4 s4 Xh Xi=>?_⟩;w_on;have L9:aq H' H4:=s3.trans s4;have hF4:=hF.same L9;have hg:tH t pr=z6 (gw t.kinds.sum (dP t.kinds (iu t.one pr.1 pr.2))) (gw t.kinds.sum (dP t.kinds (jn t.two pr.1 pr.2))):=rfl;rw[<- hg]at Xh Xi;rw[aay];generalize hb:((cV t.one t.two).take i).foldl (jB (tH t)) none=b at hF hF4 ⊢;cases b with
  |none=>
   obtain⟨rfl,rfl⟩:=hF4;w_on;exact⟨s2.trans L9,Ja.same L9,a,m,rfl,rfl,L9 _ _ e2,Xh,Xi⟩
  |some y=>
   obtain⟨p,m',rfl,rfl,h1,h2,h3⟩:=hF4;w_on;refine⟨m,m',_,_,rfl,Xh,h2,Xi,h3,?_⟩;w_on;by_cases h5:tH t pr<tH t y
   ·rw[if_pos h5];have e:jB (tH t) (some y) pr=some pr:=if_pos h5;rw[e];exact⟨s2.trans L9,Ja.same L9,a,m,rfl,rfl,L9 _ _ e2,Xh,Xi⟩
   rw[if_neg h5];have e:jB (tH t) (some y) pr=some y:=if_neg h5;rw[e];exact⟨s2.trans L9,Ja.same L9,p,m',rfl,rfl,h1,h2,h3⟩
 rintro σ H' ⟨s2,Ja,v2,v3,v4,v5,rfl,hF⟩;rw[List.length_map,Ja.len,List.take_length]at hF;w_on;generalize hb:(cV t.one t.two).foldl (jB (tH t)) none=b at hF k ⊢;cases b with
 |none=>
  obtain⟨rfl,rfl⟩:=hF;w_on;exact⟨by decide,fun z hz=>a8 ha k rfl (s2.trans (aq.new hz)) (aq.no s2 hz) aj⟩
 |some y=>
  obtain⟨p,m',rfl,rfl,h1,h2,h3⟩:=hF;w_on;refine⟨_,.inr (ik.of h1),fun z hz=>a8 ha k rfl (s2.trans (aq.new hz)) (aq.no s2 hz) aj⟩
def zeros(l:List Nat):Nat:=(l.filter fun x=>x==0).length
theorem TR(l:List Nat):zeros l<=l.length:=List.length_filter_le _ _
theorem Jb(l:List Nat)(i x:Nat)(h:i<l.length):zeros (l.set i x)+(if l.getD i 0=0 then 1 else 0)=zeros l+(if x=0 then 1 else 0):=by
 induction l generalizing i with
 |nil=>simp at h
 |cons a l ih=>
  unfold zeros at ih ⊢;cases i with
  |zero=>
   show((x::l).filter fun x=>x==0).length+(if a=0 then 1 else 0)=_;by_cases h1:a=0 <;> by_cases h2:x=0 <;> simp[h1,h2]
  |succ i=>
   have:=ih i (Nat.lt_of_succ_lt_succ h);show((a::l.set i x).filter fun x=>x==0).length+(if l.getD i 0=0 then 1 else 0)=_;by_cases h1:a=0
   ·subst h1;simp only[List.filter_cons,beq_self_eq_true,if_true,List.length_cons]at this ⊢;omega
   simp only[List.filter_cons,beq_iff_eq,h1,if_false]at this ⊢;exact this
theorem N3{one two:List Nat}{i j:Nat}(hl:one.length=two.length)(h:(i,j)∈cV one two):zeros (iu one i j)+1=zeros one:=by
 obtain⟨h1,h2,h3,h4,h5,h6,h7,_,_⟩:=Hi hl h;unfold iu;rw[wK h7,h6];have a:=Jb one i (one.getD i 0 - 1) h1;have b:=Jb (one.set i (one.getD i 0 - 1)) j (0+1) (by rw[List.length_set];exact h2);rw[wK h7,h6,if_pos rfl,if_neg (by omega)]at b;rw[if_neg (by omega),if_neg (by omega)]at a;omega
def Ma(t:Table)(_:List Nat):Table×List Int:=bh .most t
theorem TU(t:Table)(args:List Nat):Ma t args=(t,[((allSwaps 20 t).length:Int)]):=rfl
abbrev tabOf(t:Table)(one two:List Nat):Table:={t with one:=one,two:=two}
abbrev sM:Stmt:=top 154
theorem ic:aC ["album","given","owned","made","swaps"] ["album","given"] (ay sM):=aJ
theorem GL{na:Nat}(X:gm K mg C)(F:bD K "answer_most" "answer_most" sM f fd)
  (cu:Cl P w K mg ae 3 "serving_swaps" g2 cp ["owned"] (sI K))(ei:Cl P w K mg ae 1 "behind_swap" g3 c4 ["owned","swap"] (zZ K)):aM P w K mg ae bo 4 f fd ef (cQ K C na Ma):=by
 have T:=X.blt;refine bG F ic fun _ A _ _ H _ Q _ hr h=>?_;obtain⟨A,t,g,args,rfl,ha,hg,fJ,hn,k⟩:=h;rw[TU]at k;refine⟨_,(ag (pz 2 ic (bg (pv 0) rfl))
  (ag (pz 3 ic ai)
  (ag (pz 4 ic (ak cu hr (aa (pv 2) af)))
  (ag (u4 PassesOwn.never (aP fR (aT a6 (by rfl) T.dZ boot_len (aa (pv 4) af)) ai (aV _))
   (ag (pz 2 ic (ak ei hr (aa (pv 2) (aa (aD aA (pv 4) ai (fun _ _=>rfl)) af))))
  (ag (G3 (i:=3) ic.nd rfl (by first|exact Or.inl rfl|exact Or.inr rfl) ai mT)
  (ah (pz 4 ic (ak cu hr (aa (pv 2) af)))))))
  (ah (az (aK (aa (pv 3) af)))))))),?_⟩
 w_on;have L6:t.one.length<=6:=by rw[ha.l1];exact ha.ok.jr
 refine fO X ha ?_;w_on;refine⟨A.ao,A.a0,A.a1,t.one,t.two,rfl,ha.F1,L6,by rw[ha.l1,ha.l2],fun z as H1 nz s1 kn=>?_⟩;w_on;refine u5 (fun σ H'=>aq H H'/\∃(o a0 a1 z:Addr) (one two:List Nat) (as:List Addr) (n:Nat),σ=[some (.ref A.a),some (.ref g),some (.ref o),some (.int (n:Int)),some (.ref z)]/\wJ K H' o a0 a1 one two/\lR H' z (cV one two) as/\
   one.length=t.kinds.length/\two.length=t.kinds.length/\n+zeros one<20/\(allSwaps 20 t).length=n+(allSwaps (20 - n) (tabOf t one two)).length)
  (fun σ _=>match σ with|[_,_,_,some (.int n),_]=>20 - n.toNat|_=>0) ⟨s1,_,_,_,_,_,_,as,0,rfl,(ha.same s1).F1,kn,ha.l1,ha.l2,by have:=TR t.one;omega,by rw[Nat.zero_add]⟩ ?_ ?_
 ·rintro σ H' ⟨s2,o,a0,a1,z,one,two,as,n,rfl,ho,hs,h1,h2,hz,hall⟩;w_on;refine⟨_,.inl (aG.of hs.lst),?_⟩;rw[List.length_map,hs.len];obtain⟨fu,hfu⟩:∃fu,20 - n=fu+1:=⟨19 - n,by omega⟩;rw[hfu]at hall;have eA:allSwaps (fu+1) (tabOf t one two)=match cV one two with|z::_=>z::allSwaps fu (swapped (tabOf t one two) z.1 z.2)|[]=>[]:=by
   show(match swaps (tabOf t one two)with|z::_=>z::allSwaps fu (swapped (tabOf t one two) z.1 z.2)|[]=>[])=_;rw[sw_eq (tabOf t one two) h1 h2]
  rw[eA]at hall;cases kn:cV one two with
  |nil=>
   rw[kn]at hall;rw[if_neg (by simp)];rw[hall]at k;exact⟨by decide,fun u hu=>a8 ha k rfl (s2.trans (aq.new hu)) (aq.no s2 hu) aj⟩
  |cons pr rest=>
   rw[kn]at hall;replace hall:(allSwaps 20 t).length=n+((allSwaps fu (tabOf t (iu one pr.1 pr.2) (jn two pr.1 pr.2))).length+1):=hall;rw[if_pos (by simp only[List.length_cons];omega)];have hm:(pr.1,pr.2)∈cV one two:=by rw[kn];exact List.mem_cons_self
   obtain⟨w1,w2,_,_,_,_,_,w3,w4⟩:=Hi (by rw[h1,h2]) hm;have hz2:=N3 (by rw[h1,h2]) hm;obtain⟨a,ea⟩:∃a,as[0]? =some a:=by
    have:0<as.length:=by rw[hs.len,kn];simp
    exact⟨as[0],List.getElem?_eq_getElem this⟩
   obtain⟨pr',e1,e2⟩:=hs.at_ 0 a ea;rw[kn]at e1;cases e1;w_on;refine bq (aG.of hs.lst) (v:=.ref a) ?_ ?_
   ·exact Ct (j:=0) (by rw[List.getElem?_map,ea];rfl)
   w_on;refine⟨o,a0,a1,a,one,two,pr.1,pr.2,rfl,ho,ik.of e2,w1,w2,by rw[h1,h2],w3,w4,fun y b0 b1 H3 ny n0 n1 y0 y1 b01 s3 ho3=>?_⟩;w_on;refine⟨y,b0,b1,_,_,rfl,ho3,by rw[jR,h1];exact ha.ok.jr,by rw[jR,mE,h1,h2],fun z4 as4 H4 VL s4 abH=>?_⟩;w_on;refine⟨(s2.trans s3).trans s4,⟨b0,b1,z4,_,_,as4,n+1,by rw[Int.natCast_add];rfl,rfl,ho3.same s4,abH,by rw[jR];exact h1,by rw[mE];exact h2,by omega,?_⟩,by omega⟩;rw[hall,show 20 - (n+1)=fu by omega];omega
 intro σ H1 Q1 Q2 hq;w_on;rintro⟨v,e1,p,e2,x,h1,h2⟩;exact⟨v,e1,p,e2,x,h1,hq _ _ h2⟩
abbrev dH:=List (Addr×List (Pos×Str))
def gc(S:dH)(H:Hp):Prop:=∀x∈S,uN x.1 x.2 H
def Q8(S:dH)(A:AA)(H H':Hp):Prop:=∀b o,H b=some o->b∉A.foot->(∀x∈S,b≠x.1)->H' b=some o
def rl(K:Frag)(C:Addr)(S:dH)(n:Nat)(f:Table->List Nat->Table×List Int):Sp:=fun vs H Q _=>∃(A:AA) (t:Table) (g:Addr) (args:List Nat),vs=[.ref A.a,.ref g]/\bj C H A true t/\gc S H/\aG K H g (ax args)/\g∉A.foot/\args.length=n/\
 ∀z (A':AA) H',A'.a=A.a->bj C H' A' true (f t args).1->gc S H'->Q8 S A H H'->(∀c∈A'.foot,c∈A.foot∨H c=none)->H z=none->z∉A'.foot->H' z=some (.lst (c9 (f t args).2))->Q (.ref z) H'
theorem bj.RS{C:Addr}{H:Hp}{A:AA}{b:Bool}{t:Table}(h:bj C H A b t){z:Addr}{o:HO}(hz:H z=some o)(ho:(∃ps,o= .oA ps)∨(∃q,o=lp q z)):z∉A.foot:=by
 unfold AA.foot;simp only[List.mem_cons,List.not_mem_nil,or_false,not_or];rcases ho with⟨ps,rfl⟩|⟨q,rfl⟩
 ·refine⟨?_,?_,?_,?_,?_,?_⟩ <;> intro e <;> subst e
  ·rw[h.ins]at hz;cases hz
  ·rw[h.own]at hz;cases hz
  ·rw[h.fY]at hz;cases hz
  ·rw[h.lst]at hz;cases hz
  ·rw[h.one]at hz;cases hz
  rw[h.two]at hz;cases hz
 unfold lp at hz;refine⟨?_,?_,?_,?_,?_,?_⟩ <;> intro e <;> subst e
 ·rw[h.ins]at hz;cases hz
 ·rw[h.own]at hz;cases hz
 ·rw[h.fY]at hz;cases hz
 ·rw[h.lst]at hz;cases hz
 ·rw[h.one]at hz;cases hz
 rw[h.two]at hz;cases hz
theorem gc.kept{C:Addr}{H H':Hp}{A:AA}{b:Bool}{t:Table}{S:dH}(h:gc S H)(ha:bj C H A b t)(k:Kept A H H'):gc S H':=fun x hx=>
 (h x hx).of (fun ps e=>k _ _ e (ha.RS e (.inl ⟨ps,rfl⟩))) fun b q e=>k b _ e (ha.RS e (.inr ⟨q,rfl⟩))
theorem gc.same{H H':Hp}{S:dH}(h:gc S H)(s:aq H H'):gc S H':=fun x hx=>(h x hx).of (fun _ e=>s _ _ e) fun _ _ e=>s _ _ e
theorem VM{S:dH}{n:Nat}{f:Table->List Nat->Table×List Int}(vs:List V)(H:Hp)(Q:VK)(E:XK)(h:rl K C S n f vs H Q E):cQ K C n f vs H Q E:=by
 obtain⟨A,t,g,args,rfl,ha,hL,hg,fJ,hn,k⟩:=h;exact⟨A,t,g,args,rfl,ha,hg,fJ,hn,fun z A' H' e1 h1 h2 h3 h4 h5 h6=>k z A' H' e1 h1 (hL.kept ha h2) (fun b o e hb _=>h2 b o e hb) h3 h4 h5 h6⟩
theorem okT{k:Nat}{f0:Addr}{fd:FuncData}{S:dH}{n:Nat}{f:Table->List Nat->Table×List Int}(h:aM P w K mg ae bo k f0 fd ef (cQ K C n f)):aM P w K mg ae bo k f0 fd ef (rl K C S n f):=h.imp VM
theorem _root_.L2.bD.Xj{x qual:Str}{st:Stmt}{f:Addr}{fd:FuncData}{N ps:List Str}{k:Nat}{sp:Sp}(F:bD K x qual st f fd)(S:aC N ps (ay st))(len:∀vs H Q E,sp vs H Q E->vs.length=ps.length)
  (wa:∀(fS:Value),fd.code=fS->∀(A:Around) (bP:List Env) (s:Shared) (H:Hp) (vs:List V) (Q:VK) (E:XK),gH k (A.deeper (envOfC qual (ay st) s.heap.objs.size f fS))->sp vs H Q E->
   ∃t,Bm (FC bo P w K mg ae N qual (ay st) f fS A bP s H E).Hn (fG st) t/\t {nx:=fun _ H'=>Q .e7 H',rt:=Q} (start N vs) H):aM P w K mg ae bo (k+1) f fd ps sp:=by
 obtain⟨oc,od,kV,doc,pm,an,fS,ct,xY,rfl,lk,pU⟩:=F.ex;refine Uy lk pU S len fun A bP s H vs Q E hr Cs=>?_;obtain⟨t,h,q⟩:=wa fS rfl A bP s H vs Q E hr Cs;exact⟨t,h.Hn,q⟩
theorem wL{H1 H2:Hp}{c:Addr}{o:Obj}(nc:H1 c=none)(s:aq (upd H1 c (iH o c)) H2):aq H1 (era H2 c):=fun b u e=>by
 have hb:b≠c:=a7 e nc;rw[fZ hb];exact s _ _ (by rw[aE hb];exact e)
theorem ret_same{H H':Hp}{c:Addr}{o:Obj}(hc:H c=some (iH o c))(s:aq (era H c) H'):aq H (upd H' c (iH o c)):=fun b u e=>by
 by_cases hb:b=c
 ·subst hb;rw[aj,<- hc];exact e
 rw[aE hb];exact s _ _ (by rw[fZ hb];exact e)
theorem aG.era{K:Frag}{H:Hp}{a c:Addr}{xs:List V}{o:Obj}(h:aG K H a xs)(hc:H c=some (iH o c)):aG K (era H c) a xs:=by
 have ne:∀u,H a=some u->(u= .lst xs∨∃ob,u= .mR ob (.lst xs))->a≠c:=fun u e q z=>by
  rw[z,hc]at e;cases e;rcases q with q|⟨ob,q⟩
  ·cases q
  cases q
 rcases h with(h|⟨ob,h⟩)|h
 ·exact .inl (.inl (by rw[fZ (ne _ h (.inl rfl))];exact h))
 ·exact .inl (.inr ⟨ob,by rw[fZ (ne _ h (.inr ⟨ob,rfl⟩))];exact h⟩)
 exact .inr h
theorem bF.put{K:Frag}{H:Hp}{a c:Addr}{r:Rat}{o:HO}(h:bF K H a r)(n:H c=none):bF K (upd H c o) a r:=aq.rat (aq.new n) h
noncomputable def VN(S:dH)(H H':Hp):Prop:=∀b o,H b=some o->(∀x∈S,b≠x.1)->H' b=some o
noncomputable def t7(K:Frag)(S:dH)(n:Nat)(f:List Nat->List Int):Sp:=fun vs H Q _=>∃(g:Addr) (args:List Nat),vs=[.ref g]/\aG K H g (ax args)/\gc S H/\args.length=n/\∀z H',gc S H'->VN S H H'->H z=none->H' z=some (.lst (c9 (f args)))->Q (.ref z) H'
theorem Mb{k:Nat}{f0:Addr}{fd:FuncData}{S:dH}{n:Nat}{f:List Nat->List Int}(h:aM P w K mg ae bo k f0 fd iD (jm K n f)):aM P w K mg ae bo k f0 fd iD (t7 K S n f):=h.imp fun vs H Q E q=>by
 obtain⟨g,args,rfl,hg,hL,hn,k⟩:=q;exact⟨g,args,rfl,hg,hn,fun z H' hz s h=>k z H' (hL.same s) (fun b o e _=>s b o e) hz h⟩
structure Made(S:dH)(Pt:Addr)(H H1:Hp):Prop where
 lam:gc S H1
 kept:VN S H H1
 keep:∀b o,H b=some o->(∀ps,o≠ .oA ps)->H1 b=some o
 free:∀b,H1 b=none->H b=none
theorem made{S:dH}{Pt:Addr}{ls:List (Pos×Str)}{H H1:Hp}(hL:gc S H)(hS:(Pt,ls)∈S)(hS1:∀x∈S,x.1=Pt->x=(Pt,ls))(Kd:uN Pt ls H1)(GN:∀b o,H b=some o->b≠Pt->H1 b=some o):Made S Pt H H1:=by
 obtain⟨ps0,hP0,_⟩:=hL _ hS;have keep:∀b o,H b=some o->(∀ps,o≠ .oA ps)->H1 b=some o:=fun b o e ho=>GN b o e fun z=>by
  rw[z,hP0]at e;exact ho _ (Option.some.inj e).symm
 refine⟨fun x hx=>?_,fun b o e hb=>GN b o e (hb _ hS),keep,fun b e=>?_⟩
 ·by_cases e:x.1=Pt
  ·rw[hS1 x hx e];exact Kd
  exact(hL x hx).of (fun ps h=>GN _ _ h e) fun b q h=>keep _ _ h fun _ z=>by cases z
 cases q:H b with
 |none=>rfl
 |some o=>
  by_cases hb:b=Pt
  ·obtain⟨ps1,hP1,_⟩:=Kd;rw[hb,hP1]at e;cases e
  rw[GN b o q hb]at e;cases e
theorem Made.seq{S:dH}{Pt:Addr}{H H1:Hp}(h:Made S Pt H H1){a:Addr}{xs:List V}(q:aG K H a xs):aG K H1 a xs:=by
 rcases q with(q|⟨ob,q⟩)|q
 ·exact .inl (.inl (h.keep _ _ q fun _ z=>by cases z))
 ·exact .inl (.inr ⟨ob,h.keep _ _ q fun _ z=>by cases z⟩)
 exact .inr q
theorem Made.alb{S:dH}{Pt:Addr}{H H1:Hp}(h:Made S Pt H H1){A:AA}{b:Bool}{t:Table}(ha:bj C H A b t):bj C H1 A b t:=
 ⟨h.keep _ _ ha.ins (fun _ z=>by cases z),h.keep _ _ ha.own (fun _ z=>by cases z),h.keep _ _ ha.fY (fun _ z=>by cases z),h.keep _ _ ha.lst (fun _ z=>by cases z),h.keep _ _ ha.one (fun _ z=>by cases z),h.keep _ _ ha.two (fun _ z=>by cases z),ha.nd,ha.l1,ha.l2,ha.ok⟩
noncomputable abbrev jb:Stmt:=top 81
theorem B3:aC ["given"] ["given"] (ay jb):=aJ
noncomputable abbrev fC:Expr:=match fG jb with
 |[.Return (some (.Call _ [_,e] _ _)) _]=>e
 |_=>.Name "" ⟨0,0,0,0⟩
noncomputable def nU:Pos:=RO fC
noncomputable abbrev iC:Str:="answer_boxjust.<locals>.<lambda>"
theorem N4:vc ["things","red","drawn","given"] ["things","red","drawn"] "given" (mK fC):=⟨rfl,rfl,rfl,by decide +kernel,rfl,by decide +kernel,by decide +kernel,rfl,by decide +kernel⟩
noncomputable def f55(l:List Nat):List Int:=a55 (l.getD 0 0) (l.getD 1 0) (l.getD 2 0) (l.getD 3 0)
theorem B4{f g1 g2 c Pt:Addr}{S:dH}{ls:List (Pos×Str)}(F:bD K "answer_boxjust" "answer_boxjust" jb f fd)(bE:Cl P w K mg ae 7 "answer_of_drawn" g1 bH ["given","found"] (mw P w K mg ae))
  (gS:Cl P w K mg ae 3 "likely_just" g2 cp ["things","red","drawn","drawn_red"] (IU K))(hfd:fd.code= .ref c)(hC:CodeHd ae c Pt)(hB:BM ae mg)(hS:(Pt,ls)∈S)(hS1:∀x∈S,x.1=Pt->x=(Pt,ls))(hls:(nU,iC)∈ls)(hlp:∀x∈ls,x=(nU,iC)∨¬(x.1.line=nU.line/\x.1.col=nU.col)):
  aM P w K mg ae bo 8 f fd iD (t7 K S 4 f55):=by
 refine F.Xj B3 (fun vs H Q E h=>?_) (fun fS pU A bP s H vs Q E hr h=>?_)
 ·obtain⟨a,args,rfl,_⟩:=h;rfl
 obtain⟨g,args,rfl,hg,hL,hn,k⟩:=h;obtain⟨m,r,n,x,rfl⟩:=iF hn;have uM:fS= .ref c:=pU.symm.trans hfd;have B5:("answer_boxjust":Str)++".<locals>."++"<lambda>"=iC:=by decide +kernel
 have hcl:closureFor (mK fC) (envOfC "answer_boxjust" (ay jb) s.heap.objs.size f fS)=pure [(("given":Str),s.heap.objs.size+1)]:=rfl;refine⟨_,(ah (az (C6 (x:="given") (i:=0) bE hr (aa (pv 0) (aa (He uM hC hB B5 (hcl:=hcl)) af)) rfl rfl rfl rfl))),?_⟩;generalize s.heap.objs.size+1=cg;unfold Io;w_on;refine Hf (q:=iC) (params:=wX fC) (body:=wY fC) (scope:=mK fC) (cl:=[("given",cg)]) (pm:=(mg "__name__").getD .none) (hL _ hS) hls hlp (fun cc ff H1 nf Kd Jc hc1 GN=>?_);have M:=made hL hS hS1 Kd GN;w_on;intro o ho nc;have s0:aq H1 (upd H1 cg (iH o cg)):=aq.new nc;refine⟨g,ff,m,r,n,[x],(fun _=>True),(fun m r n=>px m r n x),fun H=>H ff=some (qC iC (wX fC) (wY fC) (mK fC) [("given",cg)] ((mg "__name__").getD .none) ff cc)/\H cc=some (lp iC cc)/\H cg=some (iH o cg)/\aG K H g (ax [m,r,n,x]),rfl,s0.seq (M.seq hg),
  ⟨s0 _ _ Jc,s0 _ _ hc1,aj,s0.seq (M.seq hg)⟩,fun H' s=>⟨s _ _ (s0 _ _ Jc),s _ _ (s0 _ _ hc1),s _ _ aj,s.seq (s0.seq (M.seq hg))⟩,
  ⟨_,["things","red","drawn"],(C7 (k:=3) (q:=iC) (params:=wX fC) (body:=wY fC) (scope:=mK fC) (pm:=(mg "__name__").getD .none) (c:=cc) (cg:=cg) (g:=g) (o:=o) N4 ho ?_ ?_ ?_).mono (by decide),.all (fun us hl=>match us,hl with|[_,_,_],_=>rfl),.inr ?_⟩,fun _ _=>trivial,fun z H2 hz s2 h2 pV=>?_⟩
 ·rintro vs H Q E ⟨_,m2,r2,n2,rfl,_⟩;rfl
 ·rintro vs H Q E ⟨⟨h1,h2,h3,_⟩,_⟩;exact⟨h1,h2,h3⟩
 ·rintro A2 Mc s3 H3 vs Q3 E3 hr ⟨⟨h1,h2,h3,h4⟩,m2,r2,n2,rfl,b1,b2,_,k3⟩;refine⟨_,(ak gS hr (aa (pv 0) (aa (pv 1) (aa (pv 2) (aa (aD aA (pv 3) ai (fun _ _=>rfl)) af))))),?_⟩;w_on;refine bq (aG.era h4 h3) (show cW _ _=some (V.int (x:Int))from rfl) ?_;w_on;exact⟨m2,r2,n2,x,rfl,b1.top,b1.red,b2,fun z H' s1 hz hn=>k3 z _ (ret_same h3 s1) (bF.put hz hn)⟩
 ·rintro vs H Q E h ⟨⟨h1,_⟩,_⟩ cJ;obtain⟨⟨ctv,e⟩,_⟩:=(show gv P w H h ff (qC _ _ _ _ _ _ ff cc)from cJ _ _ h1);exact⟨_,_,_,_,e⟩
 have sE:=wL nc s2;have Jd:z≠cg:=fun e=>by rw[e,aj]at hz;cases hz
 have gC:H1 z=none:=by rw[aE Jd]at hz;exact hz
 exact k z (era H2 cg) (M.lam.same sE) (fun b o e hb=>sE _ _ (M.kept b o e hb)) (M.free z gC) (by rw[fZ Jd];exact h2)
noncomputable abbrev gT:Stmt:=top 86
theorem xK:aC ["given"] ["given"] (ay gT):=aJ
noncomputable abbrev dM:Expr:=match fG gT with
 |[.Return (some (.Call _ [_,e] _ _)) _]=>e
 |_=>.Name "" ⟨0,0,0,0⟩
noncomputable def jZ:Pos:=RO dM
noncomputable abbrev fL:Str:="answer_boxatleast.<locals>.<lambda>"
theorem Je:vc ["things","red","drawn","given"] ["things","red","drawn"] "given" (mK dM):=⟨rfl,rfl,rfl,by decide +kernel,rfl,by decide +kernel,by decide +kernel,rfl,by decide +kernel⟩
noncomputable def f60(l:List Nat):List Int:=a60 (l.getD 0 0) (l.getD 1 0) (l.getD 2 0) (l.getD 3 0)
theorem xM{f g1 g2 c Pt:Addr}{S:dH}{ls:List (Pos×Str)}(F:bD K "answer_boxatleast" "answer_boxatleast" gT f fd)(bE:Cl P w K mg ae 7 "answer_of_drawn" g1 bH ["given","found"] (mw P w K mg ae))
  (eR:Cl P w K mg ae 4 "likely_at_least" g2 cp ["things","red","drawn","least_red"] (Fd K))(hfd:fd.code= .ref c)(hC:CodeHd ae c Pt)(hB:BM ae mg)(hS:(Pt,ls)∈S)(hS1:∀x∈S,x.1=Pt->x=(Pt,ls))(hls:(jZ,fL)∈ls)(hlp:∀x∈ls,x=(jZ,fL)∨¬(x.1.line=jZ.line/\x.1.col=jZ.col)):
  aM P w K mg ae bo 8 f fd iD (t7 K S 4 f60):=by
 refine F.Xj xK (fun vs H Q E h=>?_) (fun fS pU A bP s H vs Q E hr h=>?_)
 ·obtain⟨a,args,rfl,_⟩:=h;rfl
 obtain⟨g,args,rfl,hg,hL,hn,k⟩:=h;obtain⟨m,r,n,x,rfl⟩:=iF hn;have uM:fS= .ref c:=pU.symm.trans hfd;have B5:("answer_boxatleast":Str)++".<locals>."++"<lambda>"=fL:=by decide +kernel
 have hcl:closureFor (mK dM) (envOfC "answer_boxatleast" (ay gT) s.heap.objs.size f fS)=pure [(("given":Str),s.heap.objs.size+1)]:=rfl;refine⟨_,(ah (az (C6 (x:="given") (i:=0) bE hr (aa (pv 0) (aa (He uM hC hB B5 (hcl:=hcl)) af)) rfl rfl rfl rfl))),?_⟩;generalize s.heap.objs.size+1=cg;unfold Io;w_on;refine Hf (q:=fL) (params:=wX dM) (body:=wY dM) (scope:=mK dM) (cl:=[("given",cg)]) (pm:=(mg "__name__").getD .none) (hL _ hS) hls hlp (fun cc ff H1 nf Kd Jc hc1 GN=>?_);have M:=made hL hS hS1 Kd GN;w_on;intro o ho nc;have s0:aq H1 (upd H1 cg (iH o cg)):=aq.new nc;refine⟨g,ff,m,r,n,[x],(fun _=>True),(fun m r n=>zT m r n x),fun H=>H ff=some (qC fL (wX dM) (wY dM) (mK dM) [("given",cg)] ((mg "__name__").getD .none) ff cc)/\H cc=some (lp fL cc)/\H cg=some (iH o cg)/\aG K H g (ax [m,r,n,x]),rfl,s0.seq (M.seq hg),
  ⟨s0 _ _ Jc,s0 _ _ hc1,aj,s0.seq (M.seq hg)⟩,fun H' s=>⟨s _ _ (s0 _ _ Jc),s _ _ (s0 _ _ hc1),s _ _ aj,s.seq (s0.seq (M.seq hg))⟩,
  ⟨_,["things","red","drawn"],(C7 (k:=4) (q:=fL) (params:=wX dM) (body:=wY dM) (scope:=mK dM) (pm:=(mg "__name__").getD .none) (c:=cc) (cg:=cg) (g:=g) (o:=o) Je ho ?_ ?_ ?_).mono (by decide),.all (fun us hl=>match us,hl with|[_,_,_],_=>rfl),.inr ?_⟩,fun _ _=>trivial,fun z H2 hz s2 h2 pV=>?_⟩
 ·rintro vs H Q E ⟨_,m2,r2,n2,rfl,_⟩;rfl
 ·rintro vs H Q E ⟨⟨h1,h2,h3,_⟩,_⟩;exact⟨h1,h2,h3⟩
 ·rintro A2 Mc s3 H3 vs Q3 E3 hr ⟨⟨h1,h2,h3,h4⟩,m2,r2,n2,rfl,b1,b2,_,k3⟩;refine⟨_,(ak eR hr (aa (pv 0) (aa (pv 1) (aa (pv 2) (aa (aD aA (pv 3) ai (fun _ _=>rfl)) af))))),?_⟩;w_on;refine bq (aG.era h4 h3) (show cW _ _=some (V.int (x:Int))from rfl) ?_;w_on;exact⟨m2,r2,n2,x,rfl,b1.top,b1.red,b2,fun z H' s1 hz hn=>k3 z _ (ret_same h3 s1) (bF.put hz hn)⟩
 ·rintro vs H Q E h ⟨⟨h1,_⟩,_⟩ cJ;obtain⟨⟨ctv,e⟩,_⟩:=(show gv P w H h ff (qC _ _ _ _ _ _ ff cc)from cJ _ _ h1);exact⟨_,_,_,_,e⟩
 have sE:=wL nc s2;have Jd:z≠cg:=fun e=>by rw[e,aj]at hz;cases hz
 have gC:H1 z=none:=by rw[aE Jd]at hz;exact hz
 exact k z (era H2 cg) (M.lam.same sE) (fun b o e hb=>sE _ _ (M.kept b o e hb)) (M.free z gC) (by rw[fZ Jd];exact h2)
noncomputable abbrev gU:Stmt:=top 90
theorem xN:aC ["given"] ["given"] (ay gU):=aJ
noncomputable abbrev dN:Expr:=match fG gU with
 |[.Return (some (.Call _ [_,e] _ _)) _]=>e
 |_=>.Name "" ⟨0,0,0,0⟩
noncomputable def j0:Pos:=RO dN
noncomputable abbrev fM:Str:="answer_boxswapped.<locals>.<lambda>"
theorem Jf:vc ["things","red","drawn","given"] ["things","red","drawn"] "given" (mK dN):=⟨rfl,rfl,rfl,by decide +kernel,rfl,by decide +kernel,by decide +kernel,rfl,by decide +kernel⟩
noncomputable def f64(l:List Nat):List Int:=a64 (l.getD 0 0) (l.getD 1 0) (l.getD 2 0) (l.getD 3 0)
theorem xO{f g1 g2 c Pt:Addr}{S:dH}{ls:List (Pos×Str)}(F:bD K "answer_boxswapped" "answer_boxswapped" gU f fd)(bE:Cl P w K mg ae 7 "answer_of_drawn" g1 bH ["given","found"] (mw P w K mg ae))
  (gS:Cl P w K mg ae 3 "likely_just" g2 cp ["things","red","drawn","drawn_red"] (IU K))(hfd:fd.code= .ref c)(hC:CodeHd ae c Pt)(hB:BM ae mg)(hS:(Pt,ls)∈S)(hS1:∀x∈S,x.1=Pt->x=(Pt,ls))(hls:(j0,fM)∈ls)(hlp:∀x∈ls,x=(j0,fM)∨¬(x.1.line=j0.line/\x.1.col=j0.col)):
  aM P w K mg ae bo 8 f fd iD (t7 K S 4 f64):=by
 refine F.Xj xN (fun vs H Q E h=>?_) (fun fS pU A bP s H vs Q E hr h=>?_)
 ·obtain⟨a,args,rfl,_⟩:=h;rfl
 obtain⟨g,args,rfl,hg,hL,hn,k⟩:=h;obtain⟨m,r,n,x,rfl⟩:=iF hn;have uM:fS= .ref c:=pU.symm.trans hfd;have B5:("answer_boxswapped":Str)++".<locals>."++"<lambda>"=fM:=by decide +kernel
 have hcl:closureFor (mK dN) (envOfC "answer_boxswapped" (ay gU) s.heap.objs.size f fS)=pure [(("given":Str),s.heap.objs.size+1)]:=rfl;refine⟨_,(ah (az (C6 (x:="given") (i:=0) bE hr (aa (pv 0) (aa (He uM hC hB B5 (hcl:=hcl)) af)) rfl rfl rfl rfl))),?_⟩;generalize s.heap.objs.size+1=cg;unfold Io;w_on;refine Hf (q:=fM) (params:=wX dN) (body:=wY dN) (scope:=mK dN) (cl:=[("given",cg)]) (pm:=(mg "__name__").getD .none) (hL _ hS) hls hlp (fun cc ff H1 nf Kd Jc hc1 GN=>?_);have M:=made hL hS hS1 Kd GN;w_on;intro o ho nc;have s0:aq H1 (upd H1 cg (iH o cg)):=aq.new nc;refine⟨g,ff,m,r,n,[x],(fun _=>True),(fun m r n=>px m n r x),fun H=>H ff=some (qC fM (wX dN) (wY dN) (mK dN) [("given",cg)] ((mg "__name__").getD .none) ff cc)/\H cc=some (lp fM cc)/\H cg=some (iH o cg)/\aG K H g (ax [m,r,n,x]),rfl,s0.seq (M.seq hg),
  ⟨s0 _ _ Jc,s0 _ _ hc1,aj,s0.seq (M.seq hg)⟩,fun H' s=>⟨s _ _ (s0 _ _ Jc),s _ _ (s0 _ _ hc1),s _ _ aj,s.seq (s0.seq (M.seq hg))⟩,
  ⟨_,["things","red","drawn"],(C7 (k:=3) (q:=fM) (params:=wX dN) (body:=wY dN) (scope:=mK dN) (pm:=(mg "__name__").getD .none) (c:=cc) (cg:=cg) (g:=g) (o:=o) Jf ho ?_ ?_ ?_).mono (by decide),.all (fun us hl=>match us,hl with|[_,_,_],_=>rfl),.inr ?_⟩,fun _ _=>trivial,fun z H2 hz s2 h2 pV=>?_⟩
 ·rintro vs H Q E ⟨_,m2,r2,n2,rfl,_⟩;rfl
 ·rintro vs H Q E ⟨⟨h1,h2,h3,_⟩,_⟩;exact⟨h1,h2,h3⟩
 ·rintro A2 Mc s3 H3 vs Q3 E3 hr ⟨⟨h1,h2,h3,h4⟩,m2,r2,n2,rfl,b1,b2,_,k3⟩;refine⟨_,(ak gS hr (aa (pv 0) (aa (pv 2) (aa (pv 1) (aa (aD aA (pv 3) ai (fun _ _=>rfl)) af))))),?_⟩;w_on;refine bq (aG.era h4 h3) (show cW _ _=some (V.int (x:Int))from rfl) ?_;w_on;exact⟨m2,n2,r2,x,rfl,b1.top,b2,b1.red,fun z H' s1 hz hn=>k3 z _ (ret_same h3 s1) (bF.put hz hn)⟩
 ·rintro vs H Q E h ⟨⟨h1,_⟩,_⟩ cJ;obtain⟨⟨ctv,e⟩,_⟩:=(show gv P w H h ff (qC _ _ _ _ _ _ ff cc)from cJ _ _ h1);exact⟨_,_,_,_,e⟩
 have sE:=wL nc s2;have Jd:z≠cg:=fun e=>by rw[e,aj]at hz;cases hz
 have gC:H1 z=none:=by rw[aE Jd]at hz;exact hz
 exact k z (era H2 cg) (M.lam.same sE) (fun b o e hb=>sE _ _ (M.kept b o e hb)) (M.free z gC) (by rw[fZ Jd];exact h2)
noncomputable abbrev ie:Stmt:=top 130
theorem y8:aC ["album","given"] ["album","given"] (ay ie):=aJ
noncomputable abbrev ej:Expr:=match fG ie with
 |[.Return (some (.Call _ [_,_,_,e] _ _)) _]=>e
 |_=>.Name "" ⟨0,0,0,0⟩
noncomputable def kP:Pos:=RO ej
noncomputable abbrev gu:Str:="answer_justkinds.<locals>.<lambda>"
theorem Ke:vc ["weights","draws","given"] ["weights","draws"] "given" (mK ej):=⟨rfl,rfl,rfl,by decide +kernel,rfl,by decide +kernel,by decide +kernel,rfl,by decide +kernel⟩
noncomputable def f34(t:Table)(args:List Nat):Table×List Int:=(t,fX 12 (Es (args.getD 1 0)) t.kinds (args.getD 0 0))
theorem y9{f g1 g2 c Pt:Addr}{S:dH}{ls:List (Pos×Str)}(N:eV mg)(F:bD K "answer_justkinds" "answer_justkinds" ie f fd)(aH:Cl P w K mg ae 7 "answer_of_draws" g1 bH ["album","draws","most","found"] (ib P w K mg ae C))
  (l9:Cl P w K mg ae 4 "likely_kinds" g2 cp ["weights","draws","kinds"] (yJ K))(hfd:fd.code= .ref c)(hC:CodeHd ae c Pt)(hB:BM ae mg)(hS:(Pt,ls)∈S)(hS1:∀x∈S,x.1=Pt->x=(Pt,ls))(hls:(kP,gu)∈ls)(hlp:∀x∈ls,x=(kP,gu)∨¬(x.1.line=kP.line/\x.1.col=kP.col)):
  aM P w K mg ae bo 8 f fd ef (rl K C S 2 f34):=by
 refine F.Xj y8 (fun vs H Q E h=>?_) (fun fS pU A bP s H vs Q E hr h=>?_)
 ·obtain⟨A,t,g,args,rfl,_⟩:=h;rfl
 obtain⟨A,t,g,args,rfl,ha,hL,hg,fJ,hn,k⟩:=h;obtain⟨n,x,rfl⟩:=uO hn;have uM:fS= .ref c:=pU.symm.trans hfd;have B5:("answer_justkinds":Str)++".<locals>."++"<lambda>"=gu:=by decide +kernel
 have hcl:closureFor (mK ej) (envOfC "answer_justkinds" (ay ie) s.heap.objs.size f fS)=pure [(("given":Str),s.heap.objs.size+1)]:=rfl;refine⟨_,(ah (az (C6 (x:="given") (i:=1) aH hr (aa (pv 0) (aa (aD aA (pv 1) ai (fun _ _=>rfl)) (aa (aU N.cq) (aa (He uM hC hB B5 (hcl:=hcl)) af)))) rfl rfl rfl rfl))),?_⟩;generalize s.heap.objs.size+1=cg;unfold Io;w_on;refine bq hg (ng n x) ?_;w_on;refine Hf (q:=gu) (params:=wX ej) (body:=wY ej) (scope:=mK ej) (cl:=[("given",cg)]) (pm:=(mg "__name__").getD .none) (hL _ hS) hls hlp (fun cc ff H1 nf Kd Jc hc1 GN=>?_);have M:=made hL hS hS1 Kd GN;have ha1:=M.alb ha;w_on;intro o ho nc;have s0:aq H1 (upd H1 cg (iH o cg)):=aq.new nc;refine⟨A,t,n,12,ff,(fun _=>True),Es x,fun H=>H ff=some (qC gu (wX ej) (wY ej) (mK ej) [("given",cg)] ((mg "__name__").getD .none) ff cc)/\H cc=some (lp gu cc)/\H cg=some (iH o cg)/\aG K H g (ax [n,x]),rfl,ha1.same s0,
  ⟨s0 _ _ Jc,s0 _ _ hc1,aj,s0.seq (M.seq hg)⟩,fun H' s=>⟨s _ _ (s0 _ _ Jc),s _ _ (s0 _ _ hc1),s _ _ aj,s.seq (s0.seq (M.seq hg))⟩,
  ⟨_,["weights","draws"],(C7 (k:=4) (q:=gu) (params:=wX ej) (body:=wY ej) (scope:=mK ej) (pm:=(mg "__name__").getD .none) (c:=cc) (cg:=cg) (g:=g) (o:=o) Ke ho ?_ ?_ ?_).mono (by decide),.all (fun us hl=>match us,hl with|[_,_],_=>rfl),.inr ?_⟩,by decide,fun _ _=>trivial,fun z H2 hz s2 h2 pV=>?_⟩
 ·rintro vs H Q E ⟨_,a,l,m,rfl,_⟩;rfl
 ·rintro vs H Q E ⟨⟨h1,h2,h3,_⟩,_⟩;exact⟨h1,h2,h3⟩
 ·rintro A2 Mc s3 H3 vs Q3 E3 hr ⟨⟨h1,h2,h3,h4⟩,a,l,m,rfl,hl,hw,hs,hm,_,k3⟩;refine⟨_,(ak l9 hr (aa (pv 0) (aa (pv 1) (aa (aD aA (pv 2) ai (fun _ _=>rfl)) af)))),?_⟩;w_on;refine bq (aG.era h4 h3) (nh n x) ?_;w_on;exact⟨a,l,m,x,rfl,aG.era hl h3,hw,hs,hm,fun z H' s1 hz hn=>k3 z _ (ret_same h3 s1) (bF.put hz hn)⟩
 ·rintro vs H Q E h ⟨⟨h1,_⟩,_⟩ cJ;obtain⟨⟨ctv,e⟩,_⟩:=(show gv P w H h ff (qC _ _ _ _ _ _ ff cc)from cJ _ _ h1);exact⟨_,_,_,_,e⟩
 have sE:=wL nc s2;have Jd:z≠cg:=fun e=>by rw[e,aj]at hz;cases hz
 have gC:H1 z=none:=by rw[aE Jd]at hz;exact hz
 exact k z A (era H2 cg) rfl (ha1.same sE) (M.lam.same sE) (fun b o e _ hb=>sE _ _ (M.kept b o e hb)) (fun c hc=>.inl hc) (M.free z gC) (ha1.iW gC) (by rw[fZ Jd];exact h2)
def B6:List DictEntry->List (Int×Addr)->Bool
 |[],[]=>true
 |e::es,z::r=>(match e.key with| .int m _=>decide (m=z.1)|_=>false)&&(match e.val with| .ref f=>decide (f=z.2)|_=>false)&&decide (e.hash=hashInt z.1)&&B6 es r
 |_,_=>false
theorem N5{e:DictEntry}{es:List DictEntry}{z:Int×Addr}{r:List (Int×Addr)}(h:B6 (e::es) (z::r)=true):(∃t,e.key= .int z.1 t)/\e.val= .ref z.2/\e.hash=hashInt z.1/\B6 es r=true:=by
 unfold B6 at h;rw[Bool.and_eq_true,Bool.and_eq_true,Bool.and_eq_true,decide_eq_true_eq]at h;obtain⟨⟨⟨h1,h2⟩,h3⟩,h4⟩:=h;refine⟨?_,?_,h3,h4⟩
 ·split at h1
  ·rename_i m t ek;rw[ek,of_decide_eq_true h1];exact⟨t,rfl⟩
  cases h1
 split at h2
 ·rename_i f ev;rw[ev,of_decide_eq_true h2]
 cases h2
theorem Jg{P:Program}{w:World}:∀(es:List DictEntry) (kvs:List (Int×Addr)),B6 es kvs=true->(∀e∈es,∃k,(lG P w).is k e.key=true/\e.hash=(lG P w).hash k)/\Pairs (lG P w) es (ED kvs)
 |[],[],_=>⟨fun e he=>absurd he (by simp),.nil⟩
 |[],_::_,h=>by cases h
 |_::_,[],h=>by cases h
 |e::es,z::r,h=>by
  obtain⟨⟨t,h1⟩,h2,h3,h4⟩:=N5 h;obtain⟨i1,i2⟩:=Jg (P:=P) (w:=w) es r h4;have hk:(lG P w).is (Sum.inl z.1) e.key=true:=by rw[h1];exact Ck P w z.1 t
  refine⟨fun x hx=>?_,.cons hk h2 i2⟩;rcases List.mem_cons.mp hx with rfl|hx
  ·exact⟨Sum.inl z.1,hk,h3⟩
  exact i1 x hx
theorem Xk{P:Program}{w:World}{K:Frag}{d:Addr}{es:Array DictEntry}{ep:Nat}{kvs:List (Int×Addr)}(l:K.lookup d=some ⟨.type "dict",none,.dict es ep,#[]⟩)(ns:(d==sysModules)=false)(h:B6 es.toList kvs=true)(nd:(kvs.map (·.1)).Nodup):oq P w K d kvs:=by
 obtain⟨h1,h2⟩:=Jg (P:=P) (w:=w) es.toList kvs h;refine⟨ns,fun hp X=>⟨_,es,ep,X _ _ l,⟨rfl,rfl,rfl⟩,rfl,fun e he=>h1 e (Array.mem_toList_iff.mpr he),h2,?_⟩⟩;have e:(ED kvs).map (·.1)=(kvs.map (·.1)).map Sum.inl:=by
  unfold ED;rw[List.map_map,List.map_map];rfl
 rw[e];exact nd.map _ (fun a b h q=>h (Sum.inl.inj q))
theorem mF{kvs:List (Int×Addr)}{n:Int}{f:Addr}(h:tabAt kvs n=some f):(n,f)∈kvs:=by
 unfold tabAt at h;cases e:kvs.find? fun z=>decide (z.1=n)with
 |none=>rw[e]at h;cases h
 |some z=>
  rw[e]at h;have h1:=List.mem_of_find?_eq_some e;have h2:z.1=n:=of_decide_eq_true (List.find?_some (p:=fun z:Int×Addr=>decide (z.1=n)) e);cases h;rw[<- h2];exact h1
theorem dX(kvs:List (Int×Addr))(n:Int):(tabAt kvs n).isSome=true↔n∈kvs.map (·.1):=by
 unfold tabAt;rw[Option.isSome_map,List.find?_isSome,List.mem_map];constructor
 ·rintro⟨x,hx,e⟩;exact⟨x,hx,of_decide_eq_true e⟩
 rintro⟨x,hx,rfl⟩;exact⟨x,hx,decide_eq_true rfl⟩
def Done(C:Addr)(S:dH)(A:AA)(H:Hp)(r:Table×List Int)(Q:VK):Prop:=∀z (A':AA) H',A'.a=A.a->bj C H' A' true r.1->gc S H'->Q8 S A H H'->(∀c∈A'.foot,c∈A.foot∨H c=none)->H z=none->z∉A'.foot->H' z=some (.lst (c9 r.2))->Q (.ref z) H'
def fb(K:Frag)(C:Addr)(S:dH)(nums:List Int):Sp:=fun vs H Q _=>∃(A:AA) (t:Table) (g:Addr) (args:List Nat) (n:Nat),vs=[.ref A.a,.int (n:Int),.ref g]/\bj C H A true t/\gc S H/\aG K H g (ax args)/\g∉A.foot/\args.length=arity.getD n 0/\
 ((n:Int)∉nums->Q .e7 H)/\((n:Int)∈nums->Done C S A H (oE n t args) Q)
def lS(P:Program)(w:World)(K:Frag)(mg:Str->Option Value)(ae:Heap)(C:Addr)(S:dH)(k:Nat)(kvs:List (Int×Addr)):Prop:=∀x∈kvs,∃n:Nat,x.1=(n:Int)/\Hand P w K mg ae k x.2 (rl K C S (arity.getD n 0) (oE n))
def z9(P:Program)(w:World)(K:Frag)(mg:Str->Option Value)(ae:Heap)(S:dH)(k:Nat)(kvs:List (Int×Addr)):Prop:=∀x∈kvs,∃(n:Nat) (f:List Nat->List Int),x.1=(n:Int)/\Hand P w K mg ae k x.2 (t7 K S (arity.getD n 0) f)/\∀(t:Table) (args:List Nat),args.length=arity.getD n 0->oE n t args=(t,f args)
abbrev nV:Stmt:=top 108
theorem B7:aC ["album","number","given"] ["album","number","given"] (ay nV):=aJ
theorem B8{f d:Addr}{S:dH}{kvs:List (Int×Addr)}(F:bD K "answer_holding" "answer_holding" nV f fd)(dR:mg "HOLDING_CALLS"=some (.ref d))(eX:oq P w K d kvs)(hE:lS P w K mg ae C S 8 kvs):
  aM P w K mg ae bo 9 f fd ["album","number","given"] (fb K C S (kvs.map (·.1))):=by
 refine bG F B7 fun _ A _ _ H _ Q _ hr h=>?_;obtain⟨A,t,g,args,n,rfl,ha,hL,hg,fJ,hn,k1,k2⟩:=h;refine⟨_,(ag (a9 (vX (oH eX (pv 1) (eG dR)))
   (ah (az ck))
   aI)
  (ah (az (oG (mi eX (eG dR) (pv 1) (fun _ _=>rfl)) (aa (pv 0) (aa (pv 2) af)))))),?_⟩
 w_on;simp only[tS,pI,rf];w_on;cases e:tabAt kvs (n:Int)with
 |none=>
  rw[if_pos (by rfl)];exact k1 fun q=>by
   have:=(dX kvs (n:Int)).mpr q;rw[e]at this;cases this
 |some fa=>
  rw[if_neg (by simp)];obtain⟨n',e1,hand⟩:=hE _ (mF e);have en:n'=n:=by
   have:(n:Int)=(n':Int):=e1;omega
  subst en;refine⟨fa,rfl,_,hand.Gn hr,?_⟩;w_on;have hd:=k2 (by rw[<- dX,e];rfl);exact⟨A,t,g,args,rfl,ha,hL,hg,fJ,hn,hd⟩
abbrev mG:Stmt:=top 157
theorem As:aC ["album","number","given"] ["album","number","given"] (ay mG):=aJ
theorem Au{f d:Addr}{S:dH}{kvs:List (Int×Addr)}(F:bD K "answer_swapping" "answer_swapping" mG f fd)(dE:mg "SWAPPING_CALLS"=some (.ref d))(eI:oq P w K d kvs)(hE:lS P w K mg ae C S 8 kvs):
  aM P w K mg ae bo 9 f fd ["album","number","given"] (fb K C S (kvs.map (·.1))):=by
 refine bG F As fun _ A _ _ H _ Q _ hr h=>?_;obtain⟨A,t,g,args,n,rfl,ha,hL,hg,fJ,hn,k1,k2⟩:=h;refine⟨_,(ag (a9 (vX (oH eI (pv 1) (eG dE)))
   (ah (az ck))
   aI)
  (ah (az (oG (mi eI (eG dE) (pv 1) (fun _ _=>rfl)) (aa (pv 0) (aa (pv 2) af)))))),?_⟩
 w_on;simp only[tS,pI,rf];w_on;cases e:tabAt kvs (n:Int)with
 |none=>
  rw[if_pos (by rfl)];exact k1 fun q=>by
   have:=(dX kvs (n:Int)).mpr q;rw[e]at this;cases this
 |some fa=>
  rw[if_neg (by simp)];obtain⟨n',e1,hand⟩:=hE _ (mF e);have en:n'=n:=by
   have:(n:Int)=(n':Int):=e1;omega
  subst en;refine⟨fa,rfl,_,hand.Gn hr,?_⟩;w_on;have hd:=k2 (by rw[<- dX,e];rfl);exact⟨A,t,g,args,rfl,ha,hL,hg,fJ,hn,hd⟩
abbrev nX:Stmt:=top 201
theorem B9:aC ["album","number","given"] ["album","number","given"] (ay nX):=aJ
theorem Ca{f d:Addr}{S:dH}{kvs:List (Int×Addr)}(F:bD K "answer_waiting" "answer_waiting" nX f fd)(dS:mg "WAITING_CALLS"=some (.ref d))(eY:oq P w K d kvs)(hE:lS P w K mg ae C S 8 kvs):
  aM P w K mg ae bo 9 f fd ["album","number","given"] (fb K C S (kvs.map (·.1))):=by
 refine bG F B9 fun _ A _ _ H _ Q _ hr h=>?_;obtain⟨A,t,g,args,n,rfl,ha,hL,hg,fJ,hn,k1,k2⟩:=h;refine⟨_,(ag (a9 (vX (oH eY (pv 1) (eG dS)))
   (ah (az ck))
   aI)
  (ah (az (oG (mi eY (eG dS) (pv 1) (fun _ _=>rfl)) (aa (pv 0) (aa (pv 2) af)))))),?_⟩
 w_on;simp only[tS,pI,rf];w_on;cases e:tabAt kvs (n:Int)with
 |none=>
  rw[if_pos (by rfl)];exact k1 fun q=>by
   have:=(dX kvs (n:Int)).mpr q;rw[e]at this;cases this
 |some fa=>
  rw[if_neg (by simp)];obtain⟨n',e1,hand⟩:=hE _ (mF e);have en:n'=n:=by
   have:(n:Int)=(n':Int):=e1;omega
  subst en;refine⟨fa,rfl,_,hand.Gn hr,?_⟩;w_on;have hd:=k2 (by rw[<- dX,e];rfl);exact⟨A,t,g,args,rfl,ha,hL,hg,fJ,hn,hd⟩
abbrev kQ:Stmt:=top 63
theorem xP:aC ["album","number","given"] ["album","number","given"] (ay kQ):=aJ
theorem xQ{f d:Addr}{S:dH}{kvs:List (Int×Addr)}(F:bD K "answer_alike_call" "answer_alike_call" kQ f fd)(eS:mg "ALIKE_CALLS"=some (.ref d))(gf:oq P w K d kvs)(hE:lS P w K mg ae C S 8 kvs):
  aM P w K mg ae bo 9 f fd ["album","number","given"] (fb K C S (kvs.map (·.1))):=by
 refine bG F xP fun _ A _ _ H _ Q _ hr h=>?_;obtain⟨A,t,g,args,n,rfl,ha,hL,hg,fJ,hn,k1,k2⟩:=h;refine⟨_,(ag (a9 (vX (oH gf (pv 1) (eG eS)))
   (ah (az ck))
   aI)
  (ah (az (oG (mi gf (eG eS) (pv 1) (fun _ _=>rfl)) (aa (pv 0) (aa (pv 2) af)))))),?_⟩
 w_on;simp only[tS,pI,rf];w_on;cases e:tabAt kvs (n:Int)with
 |none=>
  rw[if_pos (by rfl)];exact k1 fun q=>by
   have:=(dX kvs (n:Int)).mpr q;rw[e]at this;cases this
 |some fa=>
  rw[if_neg (by simp)];obtain⟨n',e1,hand⟩:=hE _ (mF e);have en:n'=n:=by
   have:(n:Int)=(n':Int):=e1;omega
  subst en;refine⟨fa,rfl,_,hand.Gn hr,?_⟩;w_on;have hd:=k2 (by rw[<- dX,e];rfl);exact⟨A,t,g,args,rfl,ha,hL,hg,fJ,hn,hd⟩
abbrev jo:Stmt:=top 142
theorem tI:aC ["album","number","given"] ["album","number","given"] (ay jo):=aJ
theorem tJ{f d:Addr}{S:dH}{kvs:List (Int×Addr)}(F:bD K "answer_manykinds_call" "answer_manykinds_call" jo f fd)(c5:mg "MANYKINDS_CALLS"=some (.ref d))(d9:oq P w K d kvs)(hE:lS P w K mg ae C S 8 kvs):
  aM P w K mg ae bo 9 f fd ["album","number","given"] (fb K C S (kvs.map (·.1))):=by
 refine bG F tI fun _ A _ _ H _ Q _ hr h=>?_;obtain⟨A,t,g,args,n,rfl,ha,hL,hg,fJ,hn,k1,k2⟩:=h;refine⟨_,(ag (a9 (vX (oH d9 (pv 1) (eG c5)))
   (ah (az ck))
   aI)
  (ah (az (oG (mi d9 (eG c5) (pv 1) (fun _ _=>rfl)) (aa (pv 0) (aa (pv 2) af)))))),?_⟩
 w_on;simp only[tS,pI,rf];w_on;cases e:tabAt kvs (n:Int)with
 |none=>
  rw[if_pos (by rfl)];exact k1 fun q=>by
   have:=(dX kvs (n:Int)).mpr q;rw[e]at this;cases this
 |some fa=>
  rw[if_neg (by simp)];obtain⟨n',e1,hand⟩:=hE _ (mF e);have en:n'=n:=by
   have:(n:Int)=(n':Int):=e1;omega
  subst en;refine⟨fa,rfl,_,hand.Gn hr,?_⟩;w_on;have hd:=k2 (by rw[<- dX,e];rfl);exact⟨A,t,g,args,rfl,ha,hL,hg,fJ,hn,hd⟩
abbrev mH:Stmt:=top 188
theorem Av:aC ["album","number","given"] ["album","number","given"] (ay mH):=aJ
theorem Aw{f d:Addr}{S:dH}{kvs:List (Int×Addr)}(F:bD K "answer_urn_call" "answer_urn_call" mH f fd)(gg:mg "URN_CALLS"=some (.ref d))(iw:oq P w K d kvs)(hE:z9 P w K mg ae S 8 kvs):
  aM P w K mg ae bo 9 f fd ["album","number","given"] (fb K C S (kvs.map (·.1))):=by
 refine bG F Av fun _ A _ _ H _ Q _ hr h=>?_;obtain⟨A,t,g,args,n,rfl,ha,hL,hg,fJ,hn,k1,k2⟩:=h;refine⟨_,(ag (a9 (vX (oH iw (pv 1) (eG gg)))
   (ah (az ck))
   aI)
  (ah (az (oG (mi iw (eG gg) (pv 1) (fun _ _=>rfl)) (aa (pv 2) af))))),?_⟩
 w_on;simp only[tS,pI,rf];w_on;cases e:tabAt kvs (n:Int)with
 |none=>
  rw[if_pos (by rfl)];exact k1 fun q=>by
   have:=(dX kvs (n:Int)).mpr q;rw[e]at this;cases this
 |some fa=>
  rw[if_neg (by simp)];obtain⟨n',ff,e1,hand,Ho⟩:=hE _ (mF e);have en:n'=n:=by
   have:(n:Int)=(n':Int):=e1;omega
  subst en;refine⟨fa,rfl,_,hand.Gn hr,?_⟩;w_on;have hd:=k2 (by rw[<- dX,e];rfl);rw[Ho t args hn]at hd;refine⟨g,args,rfl,hg,hL,hn,fun z H' hL' hk hz h=>?_⟩;have out:∀b o,H b=some o->(∀ps,o≠ .oA ps)->H' b=some o:=fun b o e ho=>hk b o e fun x hx q=>by
   obtain⟨ps,hP,_⟩:=hL x hx;rw[q,hP]at e;exact ho _ (Option.some.inj e).symm
  have VJ:bj C H' A true t:=⟨out _ _ ha.ins (fun _ z=>by cases z),out _ _ ha.own (fun _ z=>by cases z),out _ _ ha.fY (fun _ z=>by cases z),out _ _ ha.lst (fun _ z=>by cases z),out _ _ ha.one (fun _ z=>by cases z),out _ _ ha.two (fun _ z=>by cases z),ha.nd,ha.l1,ha.l2,ha.ok⟩;exact hd z A H' rfl VJ hL' (fun b o e _ hb=>hk b o e hb) (fun c hc=>.inl hc) hz (ha.iW hz) h
abbrev mI:Stmt:=top 94
theorem Ax:aC ["album","number","given"] ["album","number","given"] (ay mI):=aJ
theorem Ay{f d:Addr}{S:dH}{kvs:List (Int×Addr)}(F:bD K "answer_box_call" "answer_box_call" mI f fd)(gh:mg "BOX_CALLS"=some (.ref d))(iy:oq P w K d kvs)(hE:z9 P w K mg ae S 8 kvs):
  aM P w K mg ae bo 9 f fd ["album","number","given"] (fb K C S (kvs.map (·.1))):=by
 refine bG F Ax fun _ A _ _ H _ Q _ hr h=>?_;obtain⟨A,t,g,args,n,rfl,ha,hL,hg,fJ,hn,k1,k2⟩:=h;refine⟨_,(ag (a9 (vX (oH iy (pv 1) (eG gh)))
   (ah (az ck))
   aI)
  (ah (az (oG (mi iy (eG gh) (pv 1) (fun _ _=>rfl)) (aa (pv 2) af))))),?_⟩
 w_on;simp only[tS,pI,rf];w_on;cases e:tabAt kvs (n:Int)with
 |none=>
  rw[if_pos (by rfl)];exact k1 fun q=>by
   have:=(dX kvs (n:Int)).mpr q;rw[e]at this;cases this
 |some fa=>
  rw[if_neg (by simp)];obtain⟨n',ff,e1,hand,Ho⟩:=hE _ (mF e);have en:n'=n:=by
   have:(n:Int)=(n':Int):=e1;omega
  subst en;refine⟨fa,rfl,_,hand.Gn hr,?_⟩;w_on;have hd:=k2 (by rw[<- dX,e];rfl);rw[Ho t args hn]at hd;refine⟨g,args,rfl,hg,hL,hn,fun z H' hL' hk hz h=>?_⟩;have out:∀b o,H b=some o->(∀ps,o≠ .oA ps)->H' b=some o:=fun b o e ho=>hk b o e fun x hx q=>by
   obtain⟨ps,hP,_⟩:=hL x hx;rw[q,hP]at e;exact ho _ (Option.some.inj e).symm
  have VJ:bj C H' A true t:=⟨out _ _ ha.ins (fun _ z=>by cases z),out _ _ ha.own (fun _ z=>by cases z),out _ _ ha.fY (fun _ z=>by cases z),out _ _ ha.lst (fun _ z=>by cases z),out _ _ ha.one (fun _ z=>by cases z),out _ _ ha.two (fun _ z=>by cases z),ha.nd,ha.l1,ha.l2,ha.ok⟩;exact hd z A H' rfl VJ hL' (fun b o e _ hb=>hk b o e hb) (fun c hc=>.inl hc) hz (ha.iW hz) h
section
variable{g:TG}{tb:TS}{D:Ends}{σ:L2.St}{H:Hp}{K:Frag}
theorem aaz{tl:TE}{post:Addr->Hp->Prop}(Bw:∀R:VK,(∀z H1,post z H1->R (.ref z) H1)->tl σ H R)
  (body:∀z H1,post z H1->∃xs,ik K H1 z xs/\∃Pv:Nat->L2.St->Hp->Prop,Pv 0 σ H1/\(∀i σ H',i<=xs.length->Pv i σ H'->ik K H' z xs)/\
   (∀i x σ H,xs[i]? =some x->Pv i σ H->g x σ H fun σ2 H2=>tb {D with nx:=Pv (i+1),ct:=Pv (i+1),bk:=D.nx} σ2 H2)/\∀σ H,Pv xs.length σ H->D.nx σ H):Fw (YN K tl) g tb D σ H:=by
 refine Bw _ fun z H1 hp=>?_;obtain⟨xs,hl,Pv,h0,hk,hs,hd⟩:=body z H1 hp;exact⟨z,rfl,⟨xs,hl⟩,Ul Pv h0 hk hs hd⟩
end
structure ClK(P:Program)(w:World)(K:Frag)(mg:Str->Option Value)(ae:Heap)(x:Str)(C:Addr)(k:Nat)(f:Addr)(fd:FuncData)(ps:List Str)(sp:Sp):Prop where
 ok:aM P w K mg ae bo k f fd ps sp
 mkf:Mk K C f
 b:Binds K fd ps []
 mgC:mg x=some (.ref C)
theorem TV{X:Cx}{x:Str}{C:Addr}{j k:Nat}{f:Addr}{fd:FuncData}{ps:List Str}{sp:Sp}{p pos:PySem.Pos}(G:ClK X.prog X.w X.K X.mg X.ae x C j f fd ps sp)(hr:gH k X.A)(Lu:j+1<=k:=by decide)(hg:Gl X x:=by rfl)(El:(x==("__debug__":Str))=false:=by decide):
  PE X (.Call (.Name x p) [] [] pos) (OG C sp [] (fun _ _ _=>False) bK):=
 Sj G.mkf G.ok (hr.mono Lu) hg G.mgC G.b .nil (fun _ _ _ _ _ _ _ h=>h.elim) El
def RT(C:Addr):Sp:=fun vs H Q _=>∃x dx,vs=[.ref x]/\H x=some (.ins C dx [])/\H dx=some (.own x)/\dx≠x/\∀(A':AA) H',A'.a=x->bj C H' A' false ⟨[],[],[],0⟩->(∀b o,H b=some o->b≠x->H' b=some o)->(∀c∈A'.foot,c=x∨c=dx∨H c=none)->Q .e7 H'
abbrev nY:Stmt:=inClass (top 144) 0
theorem Cb:aC ["self"] ["self"] (ay nY):=aJ
theorem VO(X:gm K mg C)(F:bD K "__init__" "Album.__init__" nY f fd):aM P w K mg ae bo 1 f fd ["self"] (RT C):=by
 have T:=X.blt;refine bG F Cb fun _ _ _ _ H _ Q _ hr h=>?_;obtain⟨x,dx,rfl,hx,hdx,om,k⟩:=h;refine⟨_,(ag (qV (pv 0) Ug rfl)
  (ag (qV (pv 0) (aK af) rfl)
  (ag (qV (pv 0) (aK (aa (aK af) (aa (aK af) af))) rfl)
  (ah (qV (pv 0) ai rfl))))),?_⟩
 w_on;refine⟨C,dx,_,hx,X.cl,X.nB,by decide,?_⟩;w_on;refine⟨by decide,fun p1 u9=>⟨C,dx,fD "begun" (.bl false) [],?_,X.cl,X.nW,by decide,?_⟩⟩
 ·obtain⟨h1,_⟩:=bM u9;rw[aE (Ne.symm h1),aj]
 w_on;refine⟨by decide,fun p2 wx=>⟨by decide,fun p3 By=>⟨by decide,fun p4 Ae=>?_⟩⟩⟩;obtain⟨a1,b1⟩:=bM u9;obtain⟨a2,q2⟩:=bM wx;obtain⟨Vf,q2⟩:=bM q2;obtain⟨_,b2⟩:=bM q2;obtain⟨Vg,q3⟩:=bM By;obtain⟨a3,q3⟩:=bM q3;obtain⟨Vh,q3⟩:=bM q3;obtain⟨_,b3⟩:=bM q3;obtain⟨Vi,q4⟩:=bM Ae;obtain⟨Vj,q4⟩:=bM q4;obtain⟨a4,q4⟩:=bM q4;obtain⟨Vk,q4⟩:=bM q4;obtain⟨_,b4⟩:=bM q4;have yu:∀p,H p=none->p≠dx:=fun p h e=>by rw[e,hdx]at h;cases h
 refine⟨C,dx,fD "weights" (.ref p1) (fD "begun" (.bl false) []),by simp[upd,Ne.symm a4,Ne.symm a3,Ne.symm a2],X.cl,X.nO,Nat.lt_of_le_of_lt (show _<=2 from Nat.le_refl 2) (by decide),?_⟩;w_on;refine⟨C,dx,fD "owned" (.ref p4) (fD "weights" (.ref p1) (fD "begun" (.bl false) [])),by simp[upd],X.cl,X.nP,Nat.lt_of_le_of_lt (show _<=3 from Nat.le_refl 3) (by decide),?_⟩;have eF:fD "packets" (.int 0) (fD "owned" (.ref p4) (fD "weights" (.ref p1) (fD "begun" (.bl false) [])))=gY false p1 p4 0:=rfl;rw[eF];refine k ⟨x,dx,p1,p4,p2,p3⟩ _ rfl ⟨?_,?_,?_,?_,?_,?_,?_,rfl,rfl,⟨by decide,fun w h=>by simp at h,fun w h=>by simp at h⟩⟩ (fun b o e hb=>?_) (fun c hc=>?_)
 ·simp[upd]
 ·simp[upd,om,Ne.symm (yu _ b4),Ne.symm (yu _ b3),Ne.symm (yu _ b2),Ne.symm (yu _ b1),hdx]
 ·simp[upd,a1,Ne.symm Vk,Ne.symm Vh,Ne.symm Vf,ax]
 ·simp[upd,a4]
 ·simp[upd,a2,Ne.symm Vj,Ne.symm Vg,ax]
 ·simp[upd,a3,Ne.symm Vi,ax]
 ·unfold AA.foot;simp[Ne.symm om,Ne.symm a1,Ne.symm a2,Ne.symm a3,Ne.symm a4,Ne.symm (yu _ b1),Ne.symm (yu _ b2),Ne.symm (yu _ b3),Ne.symm (yu _ b4),Ne.symm Vk,Ne.symm Vf,Ne.symm Vh,Vj,Vi,Ne.symm Vg]
 ·have Ge:∀p,H p=none->b≠p:=fun p h q=>by rw[<- q,e]at h;cases h
  simp[upd,hb,Ge _ b4,Ge _ b3,Ge _ b2,Ge _ b1,e]
 unfold AA.foot at hc;simp only[List.mem_cons,List.not_mem_nil,or_false]at hc;rcases hc with rfl|rfl|rfl|rfl|rfl|rfl
 ·exact .inl rfl
 ·exact .inr (.inl rfl)
 ·exact .inr (.inr b1)
 ·exact .inr (.inr b4)
 ·exact .inr (.inr b2)
 exact .inr (.inr b3)
def DN(b:Bool)(t:Table):State:=if b then some t else none
def RU(K:Frag)(C:Addr)(S:dH):Sp:=fun vs H Q _=>∃(A:AA) (b:Bool) (t:Table) (g:Addr) (args:List Nat) (n:Nat),vs=[.ref A.a,.int (n:Int),.ref g]/\bj C H A b t/\gc S H/\aG K H g (ax args)/\g∉A.foot/\n<=66/\args.length=arity.getD n 0/\
 ∀z (A':AA) (b':Bool) (t':Table) H',A'.a=A.a->bj C H' A' b' t'->(ma (DN b t) n args).1=DN b' t'->gc S H'->Q8 S A H H'->(∀c∈A'.foot,c∈A.foot∨H c=none)->H z=none->z∉A'.foot->H' z=some (.lst (c9 (ma (DN b t) n args).2))->Q (.ref z) H'
abbrev sN:Stmt:=top 205
theorem j1:aC ["album","number","given","own_calls","stage_calls","answer_group","answer"] ["album","number","given"] (ay sN):=aJ
theorem GO{f g0 f1 f2 f3 f4 f5 f6 f7:Addr}{fd gd0 d1 d2 d3 d4 d5 d6 d7:FuncData}{S:dH}{n1 n2 n3 n4 n5 n6 n7:List Int}(X:gm K mg C)(N:eV mg)(F:bD K "answer_call" "answer_call" sN f fd)(N6:rg P w K mg ae C 1 "begin" g0 gd0 ["self"] (Nz C))
  (jc:Cl P w K mg ae 9 "answer_holding" f1 d1 ["album","number","given"] (fb K C S n1))(iJ:Cl P w K mg ae 9 "answer_swapping" f2 d2 ["album","number","given"] (fb K C S n2))
  (jd:Cl P w K mg ae 9 "answer_waiting" f3 d3 ["album","number","given"] (fb K C S n3))(gW:Cl P w K mg ae 9 "answer_alike_call" f4 d4 ["album","number","given"] (fb K C S n4))
  (fz:Cl P w K mg ae 9 "answer_manykinds_call" f5 d5 ["album","number","given"] (fb K C S n5))(iK:Cl P w K mg ae 9 "answer_urn_call" f6 d6 ["album","number","given"] (fb K C S n6))
  (iL:Cl P w K mg ae 9 "answer_box_call" f7 d7 ["album","number","given"] (fb K C S n7))(hall:∀n:Nat,1<=n->n<=66->∃ns∈[n1,n2,n3,n4,n5,n6,n7],(n:Int)∈ns):
  aM P w K mg ae bo 10 f fd ["album","number","given"] (RU K C S):=by
 have T:=X.blt;refine bG F j1 fun _ A _ _ H _ Q _ hr h=>?_;obtain⟨A,b,t,g,args,n,rfl,ha,hL,hg,fJ,abI,hn,k⟩:=h;refine⟨_,(ag (a9 (aP iE (pv 1) (aU N.Vn) (aV _))
   (ag (jx (QE (pv 0) N6 hr))
  (ah (az (aK (aa ai af)))))
   aI)
  (ag (a9 (fN (eU (bg (pv 0) rfl)))
   (ah (az (aK (aa (aU N.LF) af))))
   aI)
  (ag (pz 3 j1 (mW (aa (eG jc.kq) (aa (eG iJ.kq) (aa (eG jd.kq) af)))))
  (ag (pz 4 j1 (mW (aa (eG gW.kq) (aa (eG fz.kq) (aa (eG iK.kq) (aa (eG iL.kq) af))))))
  (ag (fQ PassesOwn.never rfl (Wk (aO UA (pv 3) (pv 4))) (qz 5 j1)
   (ag (pz 6 j1 (vd 5 (aa (pv 0) (aa (pv 1) (aa (pv 2) af)))))
  (ah (a9 (aP cZ (pv 6) ck (aV _))
   (ah (az (pv 6)))
   aI))))
  (ah R9)))))),?_⟩
 w_on;refine⟨dv _ _,?_⟩;by_cases h0:n=0
 ·subst h0;rw[if_pos (by rfl)];refine⟨A.dx,_,ha.ins,e9,A,b,t,rfl,ha,fun A' H1 e1 a1 kp ft fr=>?_⟩;w_on;refine⟨by decide,fun z hz=>?_⟩;have hz0:=fr z hz;refine k z A' true _ _ e1 (a1.same (aq.new hz)) rfl ((hL.kept ha kp).same (aq.new hz)) (fun c o e hc _=>?_) ft hz0 (a1.iW hz) aj;rw[aE (fun q=>by rw[q,hz0]at e;cases e)];exact kp c o e hc
 rw[if_neg (by omega)];refine fB X ha ?_;w_on;cases b with
 |false=>
  rw[if_pos (by rfl)];refine⟨by decide,fun z hz=>?_⟩;have e:ma (DN false t) n args=(none,[-11]):=by
   unfold ma;rw[if_neg h0];rfl
  rw[e]at k;exact k z A false t _ rfl (ha.same (aq.new hz)) rfl (hL.same (aq.new hz)) (fun c o e _ _=>aq.new hz _ _ e) (fun c hc=>.inl hc) hz (ha.iW hz) aj
 |true=>
  rw[if_neg (by simp)];have e:ma (DN true t) n args=(some (oE n t args).1,(oE n t args).2):=by
   unfold ma;rw[if_neg h0];rfl
  rw[e]at k;refine⟨by decide,fun p1 u9=>⟨by decide,fun p2 wx=>?_⟩⟩;have s2:aq H (upd (upd H p1 (.tup [.ref f1,.ref f2,.ref f3])) p2 (.tup [.ref f4,.ref f5,.ref f6,.ref f7])):=(aq.new u9).trans (aq.new wx);have q1:(upd (upd H p1 (.tup [.ref f1,.ref f2,.ref f3])) p2 (.tup [.ref f4,.ref f5,.ref f6,.ref f7])) p1=some (.tup [.ref f1,.ref f2,.ref f3]):=(aq.new wx) _ _ aj;have q2:(upd (upd H p1 (.tup [.ref f1,.ref f2,.ref f3])) p2 (.tup [.ref f4,.ref f5,.ref f6,.ref f7])) p2=some (.tup [.ref f4,.ref f5,.ref f6,.ref f7]):=aj;generalize upd (upd H p1 (.tup [.ref f1,.ref f2,.ref f3])) p2 (.tup [.ref f4,.ref f5,.ref f6,.ref f7])=H2 at s2 q1 q2 ⊢;w_on;refine aaz (post:=fun z H3=>aq H2 H3/\H3 z=some (.tup [.ref f1,.ref f2,.ref f3,.ref f4,.ref f5,.ref f6,.ref f7])) (fun R r=>by
    w_on;exact⟨p1,p2,_,_,rfl,rfl,ik.of q1,ik.of q2,by simp,Nat.le_trans (show _<=7 from Nat.le_refl 7) (by decide),fun q=>by simp at q,fun _ p hp=>r p _ ⟨aq.new hp,aj⟩⟩) (fun z H3 ⟨s3,h3⟩=>?_)
  have uY:=s2.trans s3;have ha3:=ha.same uY;have hL3:=hL.same uY;have hg3:=uY.seq hg;have hG:∀x∈[(f1,n1),(f2,n2),(f3,n3),(f4,n4),(f5,n5),(f6,n6),(f7,n7)],Hand P w K mg ae 9 x.1 (fb K C S x.2):=by
   intro x hx;simp only[List.mem_cons,List.not_mem_nil,or_false]at hx;rcases hx with rfl|rfl|rfl|rfl|rfl|rfl|rfl
   ·exact jc.hand
   ·exact iJ.hand
   ·exact jd.hand
   ·exact gW.hand
   ·exact fz.hand
   ·exact iK.hand
   exact iL.hand
  refine⟨([(f1,n1),(f2,n2),(f3,n3),(f4,n4),(f5,n5),(f6,n6),(f7,n7)]:List (Addr×List Int)).map fun x=>V.ref x.1,ik.of (xs:=[(.ref f1:V),.ref f2,.ref f3,.ref f4,.ref f5,.ref f6,.ref f7]) h3,fun i σ H'=>H'=H3/\(∀j,j<i->∀x,([(f1,n1),(f2,n2),(f3,n3),(f4,n4),(f5,n5),(f6,n6),(f7,n7)]:List (Addr×List Int))[j]? =some x->(n:Int)∉x.2)/\∃v3 v4 v5 v6,σ=[some (.ref A.a),some (.int (n:Int)),some (.ref g),v3,v4,v5,v6],
   ⟨rfl,fun j hj=>by omega,_,_,_,_,rfl⟩,fun i σ H' _ ⟨e,_⟩=>by rw[e];exact ik.of (xs:=[(.ref f1:V),.ref f2,.ref f3,.ref f4,.ref f5,.ref f6,.ref f7]) h3,?_,?_⟩
  ·rintro i v σ H' hv ⟨rfl,mQ,v3,v4,v5,v6,rfl⟩;rw[List.getElem?_map]at hv;cases ex:([(f1,n1),(f2,n2),(f3,n3),(f4,n4),(f5,n5),(f6,n6),(f7,n7)]:List (Addr×List Int))[i]? with
   |none=>rw[ex]at hv;cases hv
   |some x=>
    rw[ex]at hv;cases hv;w_on;refine⟨_,rfl,x.1,_,rfl,(hG x (List.mem_of_getElem? ex)).Gn hr,?_⟩;w_on;refine⟨A,t,g,args,n,rfl,ha3,hL3,hg3,fJ,hn,fun hnn=>?_,fun hyy z4 A' H4 e1 a4 l4 k4 ft4 VL nf4 Xl=>?_⟩
    ·w_on;refine fun j hj y hy=>?_;by_cases Lw:j=i
     ·subst Lw;rw[ex]at hy;cases hy;exact hnn
     exact mQ j (by omega) y hy
    w_on;exact k z4 A' true _ H4 e1 a4 rfl l4 (fun c o ec hc hs=>k4 c o (uY _ _ ec) hc hs) (fun c hc=>(ft4 c hc).imp id uY.free) (uY.free VL) nf4 Xl
  rintro σ H' ⟨rfl,mQ,v3,v4,v5,v6,rfl⟩;obtain⟨ns,QC,Q9⟩:=hall n (by omega) abI;exfalso;simp only[List.mem_cons,List.not_mem_nil,or_false]at QC;rcases QC with rfl|rfl|rfl|rfl|rfl|rfl|rfl
  ·exact mQ 0 (by simp) _ rfl Q9
  ·exact mQ 1 (by simp) _ rfl Q9
  ·exact mQ 2 (by simp) _ rfl Q9
  ·exact mQ 3 (by simp) _ rfl Q9
  ·exact mQ 4 (by simp) _ rfl Q9
  ·exact mQ 5 (by simp) _ rfl Q9
  exact mQ 6 (by simp) _ rfl Q9
theorem TX{f m:Nat}{r:List Nat}(h:Qk f (m::r)):∃f',f=f'+1/\m<=66/\arity.getD m 0<=r.length/\Qk f' (r.drop (arity.getD m 0)):=by
 cases f with
 |zero=>exact h.elim
 |succ f=>exact⟨f,rfl,h⟩
theorem N7(f:Nat)(st:State)(m:Nat)(r:List Nat):uD (f+1) st (m::r)=(((ma st m (r.take (arity.getD m 0))).2.length:Nat):Int)::(ma st m (r.take (arity.getD m 0))).2++uD f (ma st m (r.take (arity.getD m 0))).1 (r.drop (arity.getD m 0)):=rfl
theorem Ra(f:Nat)(st:State):uD f st []=[]:=by cases f <;> rfl
theorem drop_cons{l:List Nat}{i:Nat}(h:i<l.length):l.drop i=l.getD i 0::l.drop (i+1):=by
 rw[List.drop_eq_getElem_cons h,List.getD_eq_getElem?_getD,List.getElem?_eq_getElem h];rfl
def F3(K:Frag)(H:Hp)(a:Addr)(xs:List V):Prop:=(∃o,H a=some (.mR o (.lst xs)))∨aG K (fun _=>none) a xs
theorem F3.seq{K:Frag}{H:Hp}{a:Addr}{xs:List V}(h:F3 K H a xs):aG K H a xs:=by
 rcases h with⟨o,h⟩|(h|⟨o,h⟩)|h
 ·exact .inl (.inr ⟨o,h⟩)
 ·cases h
 ·cases h
 exact .inr h
theorem F3.of{K:Frag}{H H':Hp}{a:Addr}{xs:List V}(h:F3 K H a xs)(k:∀o u,H a=some (.mR o u)->H' a=some (.mR o u)):F3 K H' a xs:=by
 rcases h with⟨o,h⟩|h
 ·exact .inl ⟨o,k _ _ h⟩
 exact .inr h
theorem bj.off{C:Addr}{H:Hp}{A:AA}{b:Bool}{t:Table}{u:Addr}{o:HO}(h:bj C H A b t)(hu:u∉A.foot):bj C (upd H u o) A b t:=by
 have ne:∀c∈A.foot,c≠u:=fun c hc e=>hu (e▸hc);unfold AA.foot at ne;exact⟨(aE (ne _ (by simp))).trans h.ins,(aE (ne _ (by simp))).trans h.own,(aE (ne _ (by simp))).trans h.fY,(aE (ne _ (by simp))).trans h.lst,(aE (ne _ (by simp))).trans h.one,(aE (ne _ (by simp))).trans h.two,h.nd,h.l1,h.l2,h.ok⟩
theorem bj.Xm{C:Addr}{H:Hp}{A:AA}{b:Bool}{t:Table}(h:bj C H A b t){z:Addr}{o:Obj}{u:HO}(hz:H z=some (.mR o u)):z∉A.foot:=by
 unfold AA.foot;simp only[List.mem_cons,List.not_mem_nil,or_false,not_or];refine⟨?_,?_,?_,?_,?_,?_⟩ <;> intro e <;> subst e
 ·rw[h.ins]at hz;cases hz
 ·rw[h.own]at hz;cases hz
 ·rw[h.fY]at hz;cases hz
 ·rw[h.lst]at hz;cases hz
 ·rw[h.one]at hz;cases hz
 rw[h.two]at hz;cases hz
theorem gc.off{H:Hp}{S:dH}{u:Addr}{xs ys:List V}(h:gc S H)(hu:H u=some (.lst xs)):gc S (upd H u (.lst ys)):=fun x hx=>
 (h x hx).of (fun ps e=>by rw[aE (fun q=>by rw[q,hu]at e;cases e)];exact e) fun b q e=>by rw[aE (fun q=>by rw[q,hu]at e;cases e)];exact e
theorem gc.RV{H:Hp}{S:dH}(h:gc S H){z:Addr}{o:HO}(hz:H z=some o)(ho:∀ps,o≠ .oA ps):∀x∈S,z≠x.1:=fun x hx e=>by
 obtain⟨ps,hP,_⟩:=h x hx;rw[e,hP]at hz;exact ho _ (Option.some.inj hz).symm
def ph(K:Frag)(S:dH):Sp:=fun vs H Q _=>∃(a:Addr) (l:List Nat),vs=[.ref a]/\F3 K H a (ax l)/\gc S H/\l.length<=1500/\Qk l.length l/\(uD l.length none l).length<=10000000/\∀z H',H' z=some (.lst (c9 (uD l.length none l)))->Q (.ref z) H'
abbrev Cc:Stmt:=top 206
theorem jD:aC ["calls","album","told","place","number","behind","answer"] ["calls"] (ay Cc):=aJ
theorem N8{f g1 g2 d:Addr}{S:dH}(X:gm K mg C)(F:bD K "answers" "answers" Cc f fd)(N9:ClK P w K mg ae "Album" C 1 g1 bH ["self"] (RT C))(nZ:Cl P w K mg ae 10 "answer_call" g2 cp ["album","number","given"] (RU K C S))
  (jS:mg "ARGUMENT_COUNTS"=some (.ref d))(hd:∀H,ik K H d (ax arity)):aM P w K mg ae bo 11 f fd ["calls"] (ph K S):=by
 have T:=X.blt;refine bG F jD fun _ A _ _ H _ Q _ hr h=>?_;obtain⟨a,l,rfl,hl,hL,hlen,cJ,ab4,k⟩:=h;refine⟨_,(ag (pz 1 jD (TV N9 hr))
  (ag (pz 2 jD (aK af))
  (ag (pz 3 jD ai)
  (ag (u4 PassesOwn.never (aP xW (pv 3) (aT a6 (by rfl) T.dZ boot_len (aa (pv 0) af)) (aV _))
   (ag (pz 4 jD (aD aA (pv 0) (pv 3) (fun _ _=>rfl)))
  (ag (pz 5 jD (aO dh (aO dh (pv 3) ai) (aD gX (eG jS) (pv 4) (fun _ _=>rfl))))
  (ag (pz 6 jD (ak nZ hr (aa (pv 1) (aa (pv 4) (aa (fF gI (pv 0) (dB (aO dh (pv 3) ai)) (dB (pv 5))) af)))))
  (ag (jx (uA PySem.F.plainAttrs_list PySem.F.slot_list_append PySem.F.type_list_append rG (pv 2) (aa (aT a6 (by rfl) T.dZ boot_len (aa (pv 6) af)) af)))
  (ag (jx (uA PySem.F.plainAttrs_list PySem.F.slot_list_extend PySem.F.type_list_extend OJ (pv 2) (aa (pv 6) af)))
  (ah (pz 3 jD (pv 5)))))))))
  (ah (az (pv 2))))))),?_⟩
 simp only[OG];w_on;intro x dx nx ndx nex;refine⟨x,dx,rfl,aj,by rw[aE nex,aj],nex,fun A H1 eA ha kp ft=>?_⟩;have keep:∀b o,H b=some o->H1 b=some o:=fun b o e=>kp b o (by rw[aE (a7 e nx),aE (a7 e ndx)];exact e) (a7 e nx);have s1:aq H H1:=keep;clear kp;subst eA;w_on;refine⟨by decide,fun tl Bw=>?_⟩;have s2:aq H1 (upd H1 tl (.lst [])):=aq.new Bw;w_on;refine u5 (fun σ H'=>∃(B:AA) (b:Bool) (t:Table) (i f:Nat) (told:List Int) (v4 v5 v6:Option V),σ=[some (.ref a),some (.ref A.a),some (.ref tl),some (.int (i:Int)),v4,v5,v6]/\B.a=A.a/\bj C H' B b t/\gc S H'/\F3 K H' a (ax l)/\H' tl=some (.lst (c9 told))/\tl∉B.foot/\i<=l.length/\Qk f (l.drop i)/\told++uD f (DN b t) (l.drop i)=uD l.length none l)
  (fun σ _=>match σ with|[_,_,_,some (.int i),_,_,_]=>l.length - i.toNat|_=>0)
  ⟨A,false,_,0,l.length,[],_,_,_,rfl,rfl,ha.same s2,(hL.same s1).same s2,hl.of (fun o u e=>s2 _ _ (s1 _ _ e)),aj,ha.iW Bw,by omega,by rw[List.drop_zero];exact cJ,by rw[List.drop_zero,List.nil_append];rfl⟩ ?_ ?_
 ·rintro σ H' ⟨B,b,t,i,f,told,v4,v5,v6,rfl,eB,hB,hLB,Xn,VP,nfl,hi,Y3,heq⟩;w_on;refine⟨_,.inl Xn.seq,?_⟩;rw[aX];by_cases hlt:i<l.length
  ·rw[if_pos (by omega)];have hdr:=drop_cons hlt;rw[hdr]at Y3 heq;obtain⟨f',rfl,hm,har,aaA⟩:=TX Y3;rw[N7]at heq;have WA:l.getD i 0<arity.length:=by
    show l.getD i 0<67;omega
   w_on;refine bq Xn.seq (du hlt) ?_;w_on;generalize hmm:l.getD i 0=m at*;refine xB (hd H') (du WA) ?_;w_on;have ab5:arity.getD m 0<=1500:=by
    rw[List.length_drop]at har;omega
   have e1:(i:Int)+1+((arity.getD m 0:Nat):Int)=((i+1+arity.getD m 0:Nat):Int):=by omega
   have e2:(i:Int)+1=((i+1:Nat):Int):=by omega
   rw[e1,e2];refine⟨a,_,rfl,Xn.seq,fun q hq=>?_⟩;rw[Ds,show i+1+arity.getD m 0 - (i+1)=arity.getD m 0 by omega];generalize aaB:(l.drop (i+1)).take (arity.getD m 0)=args at*;have W9:args.length=arity.getD m 0:=by rw[<- aaB,List.length_take];omega
   have s3:aq H' (upd H' q (.lst (ax args))):=aq.new hq;have q3:(upd H' q (.lst (ax args))) q=some (.lst (ax args)):=aj;have nfq:=hB.iW hq;generalize upd H' q (.lst (ax args))=H3 at s3 q3 ⊢;rw[<- eB];refine⟨B,b,t,q,args,m,rfl,hB.same s3,hLB.same s3,aG.of q3,nfq,hm,W9,fun z B' b' t' H4 e4 h4 WE l4 k4 ft4 VL nf4 Xl=>?_⟩;have Xo:=s3 _ _ VP;have Xp:H4 tl=some (.lst (c9 told)):=k4 _ _ Xo nfl ((hLB.same s3).RV Xo fun _ z=>by cases z);have ntl:tl∉B'.foot:=fun hc=>by
    rcases ft4 tl hc with q|q
    ·exact nfl q
    rw[Xo]at q;cases q
   have abJ:z≠tl:=fun e=>by rw[e,Xo]at VL;cases VL
   have rq4:F3 K H4 a (ax l):=(Xn.of (fun o u e=>s3 _ _ e)).of (fun o u e=>k4 _ _ e ((hB.same s3).Xm e) ((hLB.same s3).RV e fun _ z=>by cases z));have hsz:told.length+(ma (DN b t) m args).2.length+1<=10000000:=by
    have:=congrArg List.length heq;simp only[List.length_append,List.length_cons]at this;omega
   w_on;refine⟨.inl ⟨rfl,_,aG.of Xp⟩,_,.inl (aG.of Xl),NJ Xp (by rw[mh,sizeLine_eq];omega) ?_⟩;w_on;rw[mh];refine⟨.inl ⟨rfl,_,aG.of aj⟩,tl,z,_,_,rfl,rfl,aj,by rw[aE abJ];exact Xl,?_,?_⟩
   ·rw[List.length_append,mh,mh,sizeLine_eq];simp;omega
   rw[T7];w_on;refine⟨⟨B',b',t',i+1+arity.getD m 0,rfl,e4,h4.off ntl,l4.off Xp,rq4.of (fun o u e=>by rw[aE (fun q=>by rw[q,Xp]at e;cases e)];exact e),f',told++((((ma (DN b t) m args).2.length:Nat):Int)::(ma (DN b t) m args).2),?_,ntl,?_,?_,?_⟩,?_⟩
   ·rw[aj];simp[c9]
   ·rw[List.length_drop]at har;omega
   ·rw[<- List.drop_drop];exact aaA
   ·rw[<- List.drop_drop,List.append_assoc,List.cons_append,<- WE];exact heq
   omega
  rw[if_neg (by omega)];have e:i=l.length:=by omega
  subst e;rw[List.drop_length,Ra,List.append_nil]at heq;rw[heq]at VP;exact k tl H' VP
 intro σ H1 Q1 Q2 hq;w_on;rintro⟨v,h1,v1,h2,p,h3,x,h4,i,h5,h⟩;exact⟨v,h1,v1,h2,p,h3,x,h4,i,h5,hq _ _ h⟩
open PySem.W (WData Codec OpenSpec Well WellAll ReadsW ReadsAllW)
def t9(h ae:Heap):Prop:=∀b o,h.get? b=some o->o.cls≠ .none->(∀xs n,o.data≠ .seq xs n)->ae.get? b=some o
theorem t9.code{h ae:Heap}(B:t9 h ae){c P:Addr}(x:CodeHd h c P):CodeHd ae c P:=by
 obtain⟨o,vs,file,tf,flags,tg,inF,text,tt,e,hc,hd,r⟩:=x;exact⟨o,vs,file,tf,flags,tg,inF,text,tt,B c o e (by rw[hc];intro z;cases z) (fun xs n z=>by rw[hd]at z;cases z),hc,hd,r⟩
def lT(Ts:List (Addr×Addr))(H:Hp):Hp:=fun b=>if b∈Ts.map (·.2)then some (.oA #[])else H b
theorem Rc{P:Program}{w:World}{K:Frag}{mg mb:Str->Option Value}{k:Nat}{fa:Addr}{fd:FuncData}{ps:List Str}{sp:Sp}{s₁:Shared}{vals:List Value}{ds:List WData}{R:WRecords}{cl:Str->Option Addr}{d0:WData}{Ts:List (Addr×Addr)}
  (KX:K.In s₁.heap)(QC:s₁.heap.Ns mainGlobals mg)(hb:s₁.heap.Ns builtinsNs mb)(hbb:∀x:Str,x≠"__name__"->mb x=bootBuiltins x)(abM:s₁.heap.NoLimit)(hg:s₁.gens= #[])(Xt:∀q∈Ts,s₁.heap.TableAt q.1 q.2 #[])(Od:noTabs K=true)
  (VS:WellAll w.params s₁.heap vals ds)(hpl:xc ds=true)(hwt:∀d∈ds,d.weight<=1048576)(hr:gH k callerA)
  (F:∀ae:Heap,K.In ae->ae.Ns mainGlobals mg->t9 s₁.heap ae->aM P w K mg ae bo k fa fd ps sp)(aaC:∀(s:Shared) (us:List Value),us.length=ps.length->BindsTo s fd ⟨us,[]⟩ (ps.zip us))(hlen:ds.length=ps.length)
  (Cs:∀(H0 H:Hp) (xs:List V),Jk H0->(∀b o,H0 b=some o->H b=some o)->(∀q∈Ts,H q.2=some (.oA #[]))->qy K H0 xs ds->sp xs H (fun v H'=>Dw K H' v d0) fun _ _ _=>False):
  codeAny (model P w) callerA (.call (.ref fa) ⟨vals,[]⟩) (fun r s'=>∃u as,r= .ok (.ret u)/\ReadsW R cl s'.heap u d0 as/\OldK s₁.heap s'.heap/\s'.os=s₁.os/\AllBare s'.gens) s₁:=by
 obtain⟨A,ho,ar⟩:=Aa ds vals VS hpl hwt;have tabAt:∀{b:Addr},b∈Ts.map (·.2)->s₁.heap.get? b=some (tabObj #[])/\isCodeTable s₁.heap b:=fun{b} h=>by
  obtain⟨q,hq,rfl⟩:=List.mem_map.mp h;exact⟨(Xt q hq).2,(Xt q hq).isCodeTable⟩
 have apart:∀{b:Addr} {u:HO},ig K s₁.heap A b=some u->b∉Ts.map (·.2):=fun{b u} q h=>by
  have e:=(tabAt h).1;obtain⟨_,vs,_,_,⟨e2,_⟩|⟨e2,_⟩⟩:=vy ar q <;> (rw[e]at e2;cases e2)
 have DR:∀b o,ig K s₁.heap A b=some o->lT Ts (ig K s₁.heap A) b=some o:=fun b o e=>by
  unfold lT;rw[if_neg (apart e)];exact e
 have abN:∀q∈Ts,lT Ts (ig K s₁.heap A) q.2=some (.oA #[]):=fun q hq=>by
  unfold lT;rw[if_pos (List.mem_map_of_mem hq)]
 have hO:Jk (ig K s₁.heap A):=Rb ar;have Ab:∀b,lT Ts (ig K s₁.heap A) b=none∨(b∈Ts.map (·.2)/\lT Ts (ig K s₁.heap A) b=some (.oA #[]))∨(b∉Ts.map (·.2)/\∃o u,lT Ts (ig K s₁.heap A) b=some (.mR o u)):=fun b=>by
  by_cases h:b∈Ts.map (·.2)
  ·exact .inr (.inl ⟨h,by unfold lT;rw[if_pos h]⟩)
  have e:lT Ts (ig K s₁.heap A) b=ig K s₁.heap A b:=by unfold lT;rw[if_neg h]
  rw[e];rcases hO b with z|z
  ·exact .inl z
  exact .inr (.inr ⟨h,z⟩)
 have cJ:kU P w (lT Ts (ig K s₁.heap A)) s₁.heap:=fun b u e=>by
  by_cases h:b∈Ts.map (·.2)
  ·have e2:lT Ts (ig K s₁.heap A) b=some (.oA #[]):=by unfold lT;rw[if_pos h]
   rw[e2]at e;cases e;exact(tabAt h).1
  have e2:ig K s₁.heap A b=some u:=by unfold lT at e;rw[if_neg h]at e;exact e
  exact(VR (P:=P) (w:=w) ar b u e2).xS (fun _ _ _ q=>q) (fun c q=>DR c _ q) fun c xs q=>DR c _ q
 have hS:=Hk KX ar ds vals VS hpl ho;have hV:=rC ho;have free:∀{b:Addr} {o:Obj},s₁.heap.get? b=some o->o.cls≠ .none->(∀xs n,o.data≠ .seq xs n)->lT Ts (ig K s₁.heap A) b=none:=fun{b o} e hc hd=>by
  rcases Ab b with z|⟨z,_⟩|⟨z,ob,u,e2⟩
  ·exact z
  ·have e1:=(tabAt z).1;rw[e]at e1;cases e1;exact(hc rfl).elim
  have e3:ig K s₁.heap A b=some (.mR ob u):=by unfold lT at e2;rw[if_neg z]at e2;exact e2
  obtain⟨_,vs,_,_,⟨e4,_⟩|⟨e4,_⟩⟩:=vy ar e3 <;> (rw[e]at e4;cases e4;exact(hd _ _ rfl).elim)
 have nK:∀b o,K.lookup b=some o->lT Ts (ig K s₁.heap A) b=none:=fun b o e=>by
  rcases Ab b with z|⟨z,_⟩|⟨z,ob,u,e2⟩
  ·exact z
  ·have e1:=KX b o e;rw[(tabAt z).1]at e1;have h2:=List.all_eq_true.mp Od (b,o) (mem_of_lookupK e);cases e1;exact absurd (show false=true from h2) Bool.false_ne_true
  have e3:ig K s₁.heap A b=some (.mR ob u):=by unfold lT at e2;rw[if_neg z]at e2;exact e2
  have:=(vy ar e3).1;rw[e]at this;cases this
 have VT:∀{b:Addr} {o:Obj} {es:Array DictEntry} {ep:Nat},s₁.heap.get? b=some o->o.data= .dict es ep->lT Ts (ig K s₁.heap A) b=none:=fun{b o es ep} e d=>by
  rcases Ab b with z|⟨z,_⟩|⟨z,ob,u,e2⟩
  ·exact z
  ·have e1:=(tabAt z).1;rw[e]at e1;cases e1;cases d
  have e3:ig K s₁.heap A b=some (.mR ob u):=by unfold lT at e2;rw[if_neg z]at e2;exact e2
  obtain⟨_,vs,_,_,⟨e4,_⟩|⟨e4,_⟩⟩:=vy ar e3 <;> (rw[e]at e4;cases e4;cases d)
 have Y4:=Cs _ _ _ hO DR abN hS;generalize lT Ts (ig K s₁.heap A)=H at Ab cJ free nK VT Y4;have Xu:∀{b:Addr} {m:Str->Option Value},s₁.heap.Ns b m->(Cm s₁.heap H).Ns b m:=fun{b m} ⟨o,es,ep,e,d,r⟩=>⟨o,es,ep,Ee e (VT e d),d,r⟩;have hKb:K.In (Cm s₁.heap H):=fun b o e=>Ee (KX b o e) (nK b o e);have hBO:t9 s₁.heap (Cm s₁.heap H):=fun b o e hc hd=>Ee e (free e hc hd);have hM:Mod K mg (Cm s₁.heap H):=⟨hKb,Xu QC,⟨mb,Xu hb,hbb⟩,let⟨mc,h1,h2⟩:=abM;⟨mc,Xu h1,h2⟩⟩;have e0:FA P w K mg (Cm s₁.heap H) callerA [] s₁ H:=⟨rfl,hM,fun b o e=>T8 e,Nat.le_of_eq (Oo _ _),trivial,fun b hb=>absurd (show b∈([]:List Addr)from hb) (by simp),cJ,.of_eq hg⟩;have hl:vals.length=ps.length:=by rw[rm VS];exact hlen
 refine codeAny_mono ((F _ hKb (Xu QC) hBO).run callerA [] s₁ H ⟨vals,[]⟩ vals (vals.map toV) _ _ hr e0 (aaC s₁ vals hl) hV Y4) fun r s' x=>?_;cases r with
 |error e=>exact False.elim x
 |ok fl=>
  cases fl with
  |next=>exact False.elim x
  |brk=>exact False.elim x
  |cont=>exact False.elim x
  |ret u=>
   obtain⟨v,H',os,bare,un,VU,r',q⟩:=x;have kept:∀b o,b∉Ts.map (·.2)->s₁.heap.get? b=some o->s'.heap.get? b=some o:=fun b o hb e=>by
    rcases Ab b with z|⟨z,_⟩|⟨_,ob,u3,z⟩
    ·exact un.keep b o e z (by intro z;exact absurd (show b∈([]:List Addr)from z) (by simp)) (by simp)
    ·exact(hb z).elim
    obtain⟨e1,_⟩:=cJ b _ z;obtain⟨e2,_⟩:=VU b _ (un.wO b ob _ z);rw[e]at e1;cases e1;exact e2
   have grown:∀b o,b∈Ts.map (·.2)->s₁.heap.get? b=some o->o=tabObj #[]/\∃more,s'.heap.get? b=some (tabObj (#[]++more)):=fun b o hb e=>by
    have e1:=(tabAt hb).1;rw[e]at e1;refine⟨Option.some.inj e1,?_⟩;rcases Ab b with z|⟨_,z⟩|⟨z,_⟩
    ·have:=cJ b;obtain⟨q,hq,rfl⟩:=List.mem_map.mp hb;exact⟨#[],by have:=un.keep q.2 o e z (by intro z;exact absurd (show q.2∈([]:List Addr)from z) (by simp)) (by simp);rw[this,Option.some.inj e1];rfl⟩
    ·obtain⟨more,z2⟩:=un.xT b _ z;exact⟨more,VU b _ z2⟩
    exact(z hb).elim
   have KX':K.In s'.heap:=fun b o e=>kept b o (fun hb=>by
    have e1:=KX b o e;rw[(tabAt hb).1]at e1;have h2:=List.all_eq_true.mp Od (b,o) (mem_of_lookupK e);cases e1;exact absurd (show false=true from h2) Bool.false_ne_true) (KX b o e)
   obtain⟨as,hrd⟩:=Dw.reads (R:=R) (cl:=cl) VU KX' d0 v u q r';refine⟨u,as,rfl,hrd,⟨fun b o e=>?_,fun b o e=>?_⟩,os,bare⟩
   ·by_cases hb:b∈Ts.map (·.2)
    ·obtain⟨rfl,more,e2⟩:=grown b o hb e;exact .inr (.inl ⟨(tabAt hb).2,rfl,#[],more,rfl,e2⟩)
    exact .inl (kept b o hb e)
   by_cases hb:b∈Ts.map (·.2)
   ·obtain⟨_,more,e2⟩:=grown b o hb e;exact⟨_,e2⟩
   exact⟨o,kept b o hb e⟩
theorem Jl{r:OpenSpec}{k:Nat}{q:Program}{loose:List Str}{XP:(Str->Option Value)->Heap->Prop}{YP:World->Heap->Prop}{d:DefRec}{K:Params->Frag}{ps:List Str}(Jm:List DefRec){sp:Frag->List (Addr×Addr)->Sp}
  (aaD:r.wellSaid=true)(hdf:d.params.defaults=[])(hlen:r.args.length=ps.length)(hr:gH k callerA)(hld:∀x∈Jm,x∈recsOf q)(Od:∀w:World,noTabs (K w.params)=true)
  (hY:∀(w:World) (h:Heap),YP w h->(K w.params).In h)
  (F:∀(w:World) (mg:Str->Option Value) (fa:Addr) (h:Heap) (Ts:List (Addr×Addr)),YP w h->(K w.params).In h->h.Ns mainGlobals mg->mg d.name=some (.ref fa)->BM h mg->
   Paired (fun(x:DefRec) (t:Addr×Addr)=>∃a o fd,mg x.name=some (.ref a)/\h.get? a=some o/\o.data= .func fd/\fd.code= .ref t.1/\CodeHd h t.1 t.2) Jm Ts->
   ∃fd:FuncData,(∀(s:Shared) (us:List Value),us.length=ps.length->BindsTo s fd ⟨us,[]⟩ (ps.zip us))/\
    ∀ae:Heap,(K w.params).In ae->ae.Ns mainGlobals mg->t9 h ae->aM r.prog w (K w.params) mg ae bo k fa fd ps (sp (K w.params) Ts))
  (Cs:∀(K:Frag) (Ts:List (Addr×Addr)) (H0 H:Hp) (xs:List V) (a:Codec.denoteAll r.args),Jk H0->(∀b o,H0 b=some o->H b=some o)->(∀t∈Ts,H t.2=some (.oA #[]))->Codec.withinAll r.args a=true->Codec.app r.args r.asked a=true->qy K H0 xs (Codec.encAll r.args a)->
   sp K Ts xs H (fun v H'=>Dw K H' v (r.ret.enc (Codec.app r.args r.f a))) fun _ _ _=>False):
  PySem.W.WalkOS q loose XP YP r d [] (fun f vs=>PySem.call f vs):=by
 intro w tw s₁ mg mb G Y fa o pm cd doc dV kV ho hd pU hD Rf hg args vals as abO abP hrd VS hlo;obtain⟨a,e1,e2⟩:=PySem.W.os_pre_some abO;obtain⟨e3,T2⟩:=Codec.encAll_of_decAll r.args args a e1;subst e3;have KX:=hY w _ Y;obtain⟨bm,ob,b1,b2,b3,b4,b5,b6⟩:=G.T.bmain;have hbG:bm≠mainGlobals:=fun q=>by
  obtain⟨o,es,ep,e,hd,_⟩:=G.T.g;rw[q,e]at b3;cases b3;rw[hd]at b6;cases b6
 have mk:∀l:List DefRec,(∀x∈l,x∈recsOf q)->∃Ts:List (Addr×Addr),Paired (fun(x:DefRec) (t:Addr×Addr)=>∃a o fd,mg x.name=some (.ref a)/\s₁.heap.get? a=some o/\o.data= .func fd/\fd.code= .ref t.1/\CodeHd s₁.heap t.1 t.2) l Ts/\∀t∈Ts,s₁.heap.TableAt t.1 t.2 #[]:=by
  intro l
  induction l with
  |nil=>intro _;exact⟨[],.nil,fun t ht=>absurd ht (by simp)⟩
  |cons x l ih=>
   intro hx;obtain⟨Ts,p,ht⟩:=ih fun y hy=>hx y (List.mem_cons_of_mem _ hy);obtain⟨a,o,fd,c,Pt,h1,h2,h3,h4,h5,h6⟩:=G.T.tab x (hx x List.mem_cons_self);refine⟨(c,Pt)::Ts,.cons ⟨a,o,fd,h1,h2,h3,h4,PySem.W.CodeHd.of h5 h6⟩ p,fun t ht'=>?_⟩;rcases List.mem_cons.mp ht' with rfl|ht'
   ·exact h6
   exact ht t ht'
 obtain⟨Ts,pr,Xt⟩:=mk Jm hld;obtain⟨fd,hb,hF⟩:=F w mg fa _ Ts Y KX G.T.g Rf ⟨bm,ob,b1,b2,hbG,b3,b4,b5,b6⟩ pr;refine PySem.W.enter_call (codeAny_mono (Rc (R:=[]) (cl:=classAt tw.heap) (d0:=r.ret.enc (Codec.app r.args r.f a)) KX G.T.g G.T.b G.T.builtins G.T.nolimit hg Xt (Od w) VS (Jh _ _) (GP abP) hr hF hb (by rw[F5];exact hlen)
  (fun H0 H xs hO hs hT hS=>Cs (K w.params) Ts H0 H xs a hO hs hT T2 e2 hS)) fun r' s' hq=>?_)
 obtain⟨u,as',rfl,h1,h2,h3,h4⟩:=hq;exact⟨.inl ⟨u,_,as',rfl,fun _=>rfl,h1,(OpenSpec.post_iff aaD T2 _ _).mpr rfl,fun z=>Bool.noConfusion (show false=true from z)⟩,h2,h3,h4⟩
structure aL(K:Frag)(mg:Str->Option Value)(x:Str)(st:Stmt)(f:Addr)(fd:FuncData):Prop where
 F:bD K x x st f fd
 kq:mg x=some (.ref f)
theorem RX{K:Frag}{h:Heap}{mg:Str->Option Value}{x:Str}{st:Stmt}{f:Addr}{oc:Value}{od an:Option Addr}{xY:Array (Option Value)}{kV doc pm fS ct:Value}(KX:K.In h)(G:h.Ns mainGlobals mg)(a:nsIn K mainGlobals x=some (some (.ref f)):=by k_is)
  (l:K.lookup f=some ⟨oc,od,.func (fnOf x x (gJ st) (fG st) (ay st) .none kV doc pm an fS ct),xY⟩:=by k_is)(c:codeIn K fS x=true:=by k_is)(k:keepIn K (.ref f)=true:=by k_is):aL K mg x st f (fnOf x x (gJ st) (fG st) (ay st) .none kV doc pm an fS ct):=⟨RC l c k,mg_of KX G a⟩
structure MethAt(K:Frag)(C:Addr)(m qual:Str)(st:Stmt)(f:Addr)(fd:FuncData):Prop where
 F:bD K m qual st f fd
 KO:Meth K C m f
theorem VV{K:Frag}{C:Addr}{m qual:Str}{st:Stmt}{f:Addr}{oc:Value}{od an:Option Addr}{xY:Array (Option Value)}{kV doc pm fS ct:Value}(a:findIn K (.ref C) m=some (some (.ref f)))(i:isFn K (.ref f)=true)
  (l:K.lookup f=some ⟨oc,od,.func (fnOf m qual (gJ st) (fG st) (ay st) .none kV doc pm an fS ct),xY⟩)(c:codeIn K fS qual=true)(k:keepIn K (.ref f)=true):MethAt K C m qual st f (fnOf m qual (gJ st) (fG st) (ay st) .none kV doc pm an fS ct):=⟨RC l c k,⟨a,i,k⟩⟩
theorem aN(P:Program)(w:World){K:Frag}{mg:Str->Option Value}(ae:Heap){k:Nat}{x:Str}{st:Stmt}{f:Addr}{fd:FuncData}{ps:List Str}{sp:Sp}(h:aM P w K mg ae bo k f fd ps sp)(d:aL K mg x st f fd)(b:wk (gJ st) ps=true:=by decide +kernel):Cl P w K mg ae k x f fd ps sp:=⟨h,d.kq,d.F.kp,Eo d.F b⟩
theorem ua(P:Program)(w:World){K:Frag}(mg:Str->Option Value)(ae:Heap){C:Addr}{k:Nat}{m qual:Str}{st:Stmt}{f:Addr}{fd:FuncData}{ps:List Str}{sp:Sp}(h:aM P w K mg ae bo k f fd ps sp)(d:MethAt K C m qual st f fd)(c:Ek K C)(b:wk (gJ st) ps=true:=by decide +kernel):rg P w K mg ae C k m f fd ps sp:=⟨h,Eo d.F b,d.KO,c⟩
theorem dJ{K:Frag}{h:Heap}{mg:Str->Option Value}{x:Str}{n:Int}{t:Tok}(KX:K.In h)(G:h.Ns mainGlobals mg)(a:nsIn K mainGlobals x=some (some (.int n t)):=by k_is):∃t,mg x=some (.int n t):=⟨_,mg_of KX G a⟩
theorem t9.bm{h ae:Heap}{mg:Str->Option Value}(B:t9 h ae)(x:BM h mg):BM ae mg:=by
 obtain⟨bm,o,h1,h2,h3,h4,h5,h6,h7⟩:=x;exact⟨bm,o,h1,h2,h3,B bm o h4 (by rw[h5];intro z;cases z) (fun xs n z=>by rw[h7]at z;cases z),h5,h6,h7⟩
theorem T3{k:Nat}{f0:Addr}{fd:FuncData}{n:Nat}{F G:Table->List Nat->Table×List Int}(h:aM P w K mg ae bo k f0 fd ef (cQ K C n F))(e:∀A H t args,bj C H A true t->args.length=n->F t args=G t args):aM P w K mg ae bo k f0 fd ef (cQ K C n G):=h.imp fun vs H Q E q=>by
 obtain⟨A,t,g,args,rfl,ha,hg,fJ,hn,k⟩:=q;rw[<- e A H t args ha hn]at k;exact⟨A,t,g,args,rfl,ha,hg,fJ,hn,k⟩
theorem Cl.jq{k:Nat}{x:Str}{f0:Addr}{fd:FuncData}{a:Nat}{F:Table->List Nat->Table×List Int}(c:Cl P w K mg ae k x f0 fd ef (cQ K C a F))(S:dH)(n:Nat)(hk:k<=8)(ha:arity.getD n 0=a)(e:∀A H t args,bj C H A true t->args.length=a->F t args=oE n t args):
  Hand P w K mg ae 8 f0 (rl K C S (arity.getD n 0) (oE n)):=by
 subst ha;exact⟨fd,_,(okT (T3 c.ok e)).mono hk,c.b,.inl c.kp⟩
theorem Rg{k:Nat}{f0:Addr}{fd:FuncData}{n:Nat}{S:dH}{F G:Table->List Nat->Table×List Int}(h:aM P w K mg ae bo k f0 fd ef (rl K C S n F))(e:∀A H t args,bj C H A true t->args.length=n->F t args=G t args):aM P w K mg ae bo k f0 fd ef (rl K C S n G):=h.imp fun vs H Q E q=>by
 obtain⟨A,t,g,args,rfl,ha,hL,hg,fJ,hn,k⟩:=q;rw[<- e A H t args ha hn]at k;exact⟨A,t,g,args,rfl,ha,hL,hg,fJ,hn,k⟩
theorem Cl.abQ{k:Nat}{x:Str}{f0:Addr}{fd:FuncData}{a:Nat}{S:dH}{F:Table->List Nat->Table×List Int}(c:Cl P w K mg ae k x f0 fd ef (rl K C S a F))(n:Nat)(hk:k<=8)(ha:arity.getD n 0=a)(e:∀A H t args,bj C H A true t->args.length=a->F t args=oE n t args):
  Hand P w K mg ae 8 f0 (rl K C S (arity.getD n 0) (oE n)):=by
 subst ha;exact⟨fd,_,(Rg c.ok e).mono hk,c.b,.inl c.kp⟩
theorem Cl.zb{k:Nat}{x:Str}{f0:Addr}{fd:FuncData}{a:Nat}{f:List Nat->List Int}(c:Cl P w K mg ae k x f0 fd iD (jm K a f))(S:dH)(n:Nat)(hk:k<=8)(ha:arity.getD n 0=a):Hand P w K mg ae 8 f0 (t7 K S (arity.getD n 0) f):=by
 subst ha;exact⟨fd,_,(Mb c.ok).mono hk,c.b,.inl c.kp⟩
theorem Cl.VW{k:Nat}{x:Str}{f0:Addr}{fd:FuncData}{a:Nat}{S:dH}{f:List Nat->List Int}(c:Cl P w K mg ae k x f0 fd iD (t7 K S a f))(n:Nat)(hk:k<=8)(ha:arity.getD n 0=a):Hand P w K mg ae 8 f0 (t7 K S (arity.getD n 0) f):=by
 subst ha;exact⟨fd,_,c.ok.mono hk,c.b,.inl c.kp⟩
theorem DS{h:Heap}{x:Str}{st:Stmt}{f c Pt:Addr}{fd:FuncData}(KX:K.In h)(F:bD K x x st f fd)(m:mg x=some (.ref f))(q:∃a o fd,mg x=some (.ref a)/\h.get? a=some o/\o.data= .func fd/\fd.code= .ref c/\CodeHd h c Pt):fd.code= .ref c/\CodeHd h c Pt:=by
 obtain⟨a,o,fd',q1,q2,q3,q4,q5⟩:=q;obtain⟨oc,od,kV,doc,pm,an,fS,ct,xY,e,lk,pU⟩:=F.ex;have e1:=m.symm.trans q1;cases e1;have e2:=(KX _ _ lk).symm.trans q2;cases e2;cases q3;exact⟨q4,q5⟩
def vz:List (Pos×Str):=[(nU,iC),(jZ,fL),(j0,fM),(kP,gu)]
abbrev dF(C:Addr)(n:Nat)(F:Table->List Nat->Table×List Int)(k:Nat):Prop:=∀(A:AA) (H:Hp) (t:Table) (args:List Nat),bj C H A true t->args.length=n->F t args=oE k t args
abbrev iP(k:Nat)(f:List Nat->List Int):Prop:=∀(t:Table) (args:List Nat),args.length=arity.getD k 0->oE k t args=(t,f args)
theorem aaE:dF C 1 LJ 1:=fun _ _ t _ ha hn=>by
 obtain⟨a,rfl⟩:=dY hn;rfl
theorem aaF:dF C 2 Vt 2:=fun _ _ t _ ha hn=>by
 obtain⟨a,b,rfl⟩:=iO hn;rfl
theorem aaG:dF C 2 QM 3:=fun _ _ t _ ha hn=>by
 obtain⟨a,b,rfl⟩:=iO hn;rfl
theorem aaH:dF C 4 IX 5:=fun _ _ t _ ha hn=>by
 obtain⟨a,b,c,d,rfl⟩:=iF hn;rfl
theorem Xv:dF C 1 EH 15:=fun _ _ t _ ha hn=>by
 obtain⟨a,rfl⟩:=dY hn;rfl
theorem Xw:dF C 1 EI 16:=fun _ _ t _ ha hn=>by
 obtain⟨a,rfl⟩:=dY hn;rfl
theorem Xx:dF C 0 NL 19:=fun _ _ t _ ha hn=>by
 obtain rfl:=jJ hn;rfl
theorem Xy:dF C 1 QF 20:=fun _ _ t _ ha hn=>by
 obtain⟨a,rfl⟩:=dY hn;rfl
theorem aaI:dF C 2 Q5 4:=fun _ _ t _ ha hn=>by
 obtain⟨a,b,rfl⟩:=iO hn;rfl
theorem Xz:dF C 0 Hj 10:=fun _ _ t _ ha hn=>by
 obtain rfl:=jJ hn;rfl
theorem XA:dF C 0 z8 11:=fun _ _ t _ ha hn=>by
 obtain rfl:=jJ hn;rfl
theorem XB:dF C 0 Ma 12:=fun _ _ t _ ha hn=>by
 obtain rfl:=jJ hn;rfl
theorem XC:dF C 2 L4 13:=fun _ _ t _ ha hn=>by
 obtain⟨a,b,rfl⟩:=iO hn;rfl
theorem aaJ:dF C 1 QH 6:=fun _ _ t _ ha hn=>by
 obtain⟨a,rfl⟩:=dY hn;rfl
theorem aaK:dF C 0 BJ 7:=fun _ _ t _ ha hn=>by
 obtain rfl:=jJ hn;rfl
theorem aaL:dF C 2 (jV 20 pk) 8:=fun _ _ t _ ha hn=>by
 obtain⟨a,b,rfl⟩:=iO hn;exact NO ha a b
theorem aaM:dF C 1 QJ 9:=fun _ _ t _ ha hn=>by
 obtain⟨a,rfl⟩:=dY hn;rfl
theorem XD:dF C 2 LN 14:=fun _ _ t _ ha hn=>by
 obtain⟨a,b,rfl⟩:=iO hn;rfl
theorem XE:dF C 0 LO 17:=fun _ _ t _ ha hn=>by
 obtain rfl:=jJ hn;rfl
theorem XF:dF C 2 (jV 12 fun s l n=>mkRat ((rS s l n:Nat):Int) (s ^ n)) 18:=fun _ _ t _ ha hn=>by
 obtain⟨a,b,rfl⟩:=iO hn;exact NP ha a b
theorem XG:dF C 1 (gk 10 fU) 21:=fun _ _ t _ ha hn=>by
 obtain⟨a,rfl⟩:=dY hn;exact(ZA ha.ok a).symm
theorem XH:dF C 1 (gk 10 (fun l n=>1 - fU l n)) 22:=fun _ _ t _ ha hn=>by
 obtain⟨a,rfl⟩:=dY hn;exact(ZC ha.ok a).symm
theorem XI:dF C 1 (gk 10 CJ) 23:=fun _ _ t _ ha hn=>by
 obtain⟨a,rfl⟩:=dY hn;exact(ZD ha.ok a).symm
theorem XJ:dF C 0 yC 24:=fun _ _ t _ ha hn=>by
 obtain rfl:=jJ hn;exact(ZE t).symm
theorem XM:dF C 1 EY 25:=fun _ _ t _ ha hn=>by
 obtain⟨a,rfl⟩:=dY hn;exact(ZG ha.ok a).symm
theorem XN:dF C 0 yF 26:=fun _ _ t _ ha hn=>by
 obtain rfl:=jJ hn;exact(ZH ha.ok).symm
theorem XO:dF C 1 (gk 10 Er) 27:=fun _ _ t _ ha hn=>by
 obtain⟨a,rfl⟩:=dY hn;exact(ZI ha.ok a).symm
theorem XQ:dF C 1 (gk 10 CK) 28:=fun _ _ t _ ha hn=>by
 obtain⟨a,rfl⟩:=dY hn;exact(ZJ ha.ok a).symm
theorem XR:dF C 1 BN 29:=fun _ _ t _ ha hn=>by
 obtain⟨a,rfl⟩:=dY hn;exact(ZK t a).symm
theorem XS:dF C 0 E2 30:=fun _ _ t _ ha hn=>by
 obtain rfl:=jJ hn;exact(ZL t).symm
theorem XT:dF C 2 QQ 31:=fun _ _ t _ ha hn=>by
 obtain⟨a,b,rfl⟩:=iO hn;exact(ZN ha.ok a b).symm
theorem XU:dF C 1 IE 32:=fun _ _ t _ ha hn=>by
 obtain⟨a,rfl⟩:=dY hn;exact(ZP ha.ok a).symm
theorem XW:dF C 3 (zW 10 fU) 33:=fun _ _ t _ ha hn=>by
 obtain⟨a,b,c,rfl⟩:=iq hn;exact(ZQ ha.ok a b c).symm
theorem XX:dF C 2 f34 34:=fun _ _ t _ ha hn=>by
 obtain⟨a,b,rfl⟩:=iO hn;exact(ZR ha.ok a b).symm
theorem XY:dF C 1 f35 35:=fun _ _ t _ ha hn=>by
 obtain⟨a,rfl⟩:=dY hn;exact(ZS t a).symm
theorem XZ:dF C 1 (gk 12 ke) 36:=fun _ _ t _ ha hn=>by
 obtain⟨a,rfl⟩:=dY hn;exact(ZT ha.ok a).symm
theorem X0:dF C 1 (gk 12 HW) 37:=fun _ _ t _ ha hn=>by
 obtain⟨a,rfl⟩:=dY hn;exact(ZU ha.ok a).symm
theorem X1:dF C 1 f38 38:=fun _ _ t _ ha hn=>by
 obtain⟨a,rfl⟩:=dY hn;exact(ZV t a).symm
theorem X2:dF C 2 f39 39:=fun _ _ t _ ha hn=>by
 obtain⟨a,b,rfl⟩:=iO hn;exact(ZX ha.ok a b).symm
theorem X3:dF C 1 (gk 12 zR) 40:=fun _ _ t _ ha hn=>by
 obtain⟨a,rfl⟩:=dY hn;exact(ZY ha.ok a).symm
theorem X4:dF C 3 f41 41:=fun _ _ t _ ha hn=>by
 obtain⟨a,b,c,rfl⟩:=iq hn;exact(ZZ ha.ok a b c).symm
theorem X5:dF C 2 f42 42:=fun _ _ t _ ha hn=>by
 obtain⟨a,b,rfl⟩:=iO hn;exact(Z0 t a b).symm
theorem X6:dF C 3 (zW 12 ke) 43:=fun _ _ t _ ha hn=>by
 obtain⟨a,b,c,rfl⟩:=iq hn;exact(Z1 ha.ok a b c).symm
theorem X7:dF C 1 f44 44:=fun _ _ t _ ha hn=>by
 obtain⟨a,rfl⟩:=dY hn;exact(Z3 t a).symm
theorem X8:iP 45 (fun l=>UU (l.getD 0 0) (l.getD 1 0) (l.getD 2 0) (l.getD 3 0)):=fun t _ (hn:_=4)=>by
 obtain⟨a,b,c,d,rfl⟩:=iF hn;exact Z4 t a b c d
theorem X9:iP 46 (f46):=fun t _ (hn:_=10)=>by
 obtain⟨a,b,c,d,e,f,g,h,i,j,rfl⟩:=Lp hn;exact Z5 t a b c d e f g h i j
theorem Ya:iP 47 (f47):=fun t _ (hn:_=7)=>by
 obtain⟨a,b,c,d,e,f,g,rfl⟩:=O4 hn;exact Z6 t a b c d e f g
theorem Yb:iP 48 (f48):=fun t _ (hn:_=6)=>by
 obtain⟨a,b,c,d,e,f,rfl⟩:=O3 hn;exact Z7 t a b c d e f
theorem Yc:iP 49 (f49):=fun t _ (hn:_=5)=>by
 obtain⟨a,b,c,d,e,rfl⟩:=j9 hn;exact Z8 t a b c d e
theorem Yd:iP 50 (fun l=>UW (l.getD 0 0) (l.getD 1 0) (l.getD 2 0) (l.getD 3 0) (l.getD 4 0)):=fun t _ (hn:_=5)=>by
 obtain⟨a,b,c,d,e,rfl⟩:=j9 hn;exact Z9 t a b c d e
theorem Ye:iP 51 (f51):=fun t _ (hn:_=5)=>by
 obtain⟨a,b,c,d,e,rfl⟩:=j9 hn;exact aaa t a b c d e
theorem Yf:iP 52 (f52):=fun t _ (hn:_=5)=>by
 obtain⟨a,b,c,d,e,rfl⟩:=j9 hn;exact aab t a b c d e
theorem Yg:iP 53 (f53):=fun t _ (hn:_=5)=>by
 obtain⟨a,b,c,d,e,rfl⟩:=j9 hn;exact aac t a b c d e
theorem Yh:iP 54 (f54):=fun t _ (hn:_=4)=>by
 obtain⟨a,b,c,d,rfl⟩:=iF hn;exact aad t a b c d
theorem Yi:iP 55 (f55):=fun t _ (hn:_=4)=>by
 obtain⟨a,b,c,d,rfl⟩:=iF hn;exact aae t a b c d
theorem Yj:iP 56 (f56):=fun t _ (hn:_=3)=>by
 obtain⟨a,b,c,rfl⟩:=iq hn;exact aaf t a b c
theorem Yk:iP 57 (f57):=fun t _ (hn:_=3)=>by
 obtain⟨a,b,c,rfl⟩:=iq hn;exact aag t a b c
theorem Yl:iP 58 (f58):=fun t _ (hn:_=3)=>by
 obtain⟨a,b,c,rfl⟩:=iq hn;exact aah t a b c
theorem Ym:iP 59 (f59):=fun t _ (hn:_=3)=>by
 obtain⟨a,b,c,rfl⟩:=iq hn;exact aai t a b c
theorem Yn:iP 60 (f60):=fun t _ (hn:_=4)=>by
 obtain⟨a,b,c,d,rfl⟩:=iF hn;exact aaj t a b c d
theorem Yo:iP 61 (f61):=fun t _ (hn:_=5)=>by
 obtain⟨a,b,c,d,e,rfl⟩:=j9 hn;exact aak t a b c d e
theorem Yp:iP 62 (f62):=fun t _ (hn:_=4)=>by
 obtain⟨a,b,c,d,rfl⟩:=iF hn;exact aal t a b c d
theorem Yq:iP 63 (f63):=fun t _ (hn:_=3)=>by
 obtain⟨a,b,c,rfl⟩:=iq hn;exact aam t a b c
theorem Yr:iP 64 (f64):=fun t _ (hn:_=4)=>by
 obtain⟨a,b,c,d,rfl⟩:=iF hn;exact aan t a b c d
theorem Ys:iP 65 (f65):=fun t _ (hn:_=4)=>by
 obtain⟨a,b,c,d,rfl⟩:=iF hn;exact aao t a b c d
theorem Yt:iP 66 (f66):=fun t _ (hn:_=3)=>by
 obtain⟨a,b,c,rfl⟩:=iq hn;exact aap t a b c
theorem VX:∀n:Nat,1<=n->n<=66->∃ns∈[([1,2,3,5,15,16,19,20]:List Int),([4,10,11,12,13]:List Int),([6,7,8,9,14,17,18]:List Int),([21,22,23,24,25,26,27,28,29,30,31,32,33]:List Int),([34,35,36,37,38,39,40,41,42,43,44]:List Int),([45,46,47,48,49,50,51,52,53,54]:List Int),([55,56,57,58,59,60,61,62,63,64,65,66]:List Int)],(n:Int)∈ns:=by
 have h:∀n:Nat,n<67->1<=n->([([1,2,3,5,15,16,19,20]:List Int),([4,10,11,12,13]:List Int),([6,7,8,9,14,17,18]:List Int),([21,22,23,24,25,26,27,28,29,30,31,32,33]:List Int),([34,35,36,37,38,39,40,41,42,43,44]:List Int),([45,46,47,48,49,50,51,52,53,54]:List Int),([55,56,57,58,59,60,61,62,63,64,65,66]:List Int)]).any (fun ns=>decide ((n:Int)∈ns))=true:=by decide +kernel
 intro n h1 h2;have q:=h n (by omega) h1;rw[List.any_eq_true]at q;obtain⟨ns,m,c⟩:=q;exact⟨ns,m,of_decide_eq_true c⟩
structure Tx0(P:Program)(w:World)(K:Frag)(mg:Str->Option Value)(C:Addr)(A:Nat->Addr)(D:Nat->FuncData)(E:Nat->Addr):Prop where
 X:gm K mg C
 N:eV mg
 mkC:makesIn K C=true
 kC:keepIn K (.ref C)=true
 zc:aL K mg "common_part" U2 (A 0) (D 0)
 Oe:aL K mg "power" U3 (A 1) (D 1)
 F6:aL K mg "fraction" Qm (A 2) (D 2)
 A4:aL K mg "difference" Qn (A 3) (D 3)
 pj:aL K mg "is_less" Qo (A 4) (D 4)
 vA:aL K mg "told_fraction" Qp (A 5) (D 5)
 xf:aL K mg "set_products" p0 (A 6) (D 6)
 sO:aL K mg "product_of_size" me (A 7) (D 7)
 ub:aL K mg "different_rows" m4 (A 8) (D 8)
 qI:aL K mg "likely_different" ll (A 9) (D 9)
 xg:aL K mg "likely_alike" qa (A 10) (D 10)
 A5:aL K mg "square_sum" uF (A 11) (D 11)
 A6:aL K mg "mean_pairs" uG (A 12) (D 12)
 xh:aL K mg "likely_first" qb (A 13) (D 13)
 A7:aL K mg "least_half" uH (A 14) (D 14)
 A8:aL K mg "mean_first" uI (A 15) (D 15)
 lU:aL K mg "likely_even_different" jl (A 16) (D 16)
 Jn:aL K mg "choices" BB (A 17) (D 17)
 F7:aL K mg "levelled" yr (A 18) (D 18)
 oy:aL K mg "twice_at_most_rows" ka (A 19) (D 19)
 xi:aL K mg "likely_three" qc (A 20) (D 20)
 sP:aL K mg "lacking_weights" mf (A 21) (D 21)
 zd:aL K mg "signed_sets" rR (A 22) (D 22)
 A9:aL K mg "mean_draws" uJ (A 23) (D 23)
 uc:aL K mg "collector_mean" m6 (A 24) (D 24)
 vB:aL K mg "likely_all_by" oF (A 25) (D 25)
 Ba:aL K mg "mean_fresh" uK (A 26) (D 26)
 Bc:aL K mg "half_draws" uL (A 27) (D 27)
 DT:aL K mg "is_weight" wz (A 28) (D 28)
 ze:aL K mg "answer_kind" rU (A 29) (D 29)
 Bd:aL K mg "answer_got" uP (A 30) (D 30)
 vC:aL K mg "answer_bought" oJ (A 31) (D 31)
 zf:aL K mg "answer_told" rW (A 32) (D 32)
 vD:aL K mg "lacking_kinds" oK (A 33) (D 33)
 ud:aL K mg "answer_lacking" nj (A 34) (D 34)
 ue:aL K mg "answer_doubles" nk (A 35) (D 35)
 zg:aL K mg "answer_mean" rY (A 36) (D 36)
 sQ:aL K mg "answer_meanboth" ml (A 37) (D 37)
 sR:aL K mg "answer_by_draws" mm (A 38) (D 38)
 xj:aL K mg "answer_allby" qe (A 39) (D 39)
 xk:aL K mg "answer_fresh" qf (A 40) (D 40)
 zh:aL K mg "answer_half" rZ (A 41) (D 41)
 xl:aL K mg "answer_worth" qh (A 42) (D 42)
 xm:aL K mg "answer_ahead" qi (A 43) (D 43)
 zi:aL K mg "answer_give" se (A 44) (D 44)
 vE:aL K mg "refused_draws" oO (A 45) (D 45)
 sS:aL K mg "answer_of_draws" mn (A 46) (D 46)
 vF:aL K mg "refused_kinds" oP (A 47) (D 47)
 xn:aL K mg "refused_pair" qj (A 48) (D 48)
 oa:aL K mg "answer_behind_level" jN (A 49) (D 49)
 qJ:aL K mg "answer_different" lq (A 50) (D 50)
 xo:aL K mg "answer_alike" qk (A 51) (D 51)
 xp:aL K mg "answer_pairs" ql (A 52) (D 52)
 xq:aL K mg "answer_three" qm (A 53) (D 53)
 mP:aL K mg "answer_evendifferent" jz (A 54) (D 54)
 xr:aL K mg "answer_first" qo (A 55) (D 55)
 qK:aL K mg "answer_alikehalf" lr (A 56) (D 56)
 qL:aL K mg "answer_meanfirst" lu (A 57) (D 57)
 sT:aL K mg "answer_products" mq (A 58) (D 58)
 uf:aL K mg "answer_squares" nt (A 59) (D 59)
 vG:aL K mg "answer_chance" oQ (A 60) (D 60)
 qM:aL K mg "answer_with_more" lx (A 61) (D 61)
 xt:aL K mg "answer_would" qp (A 62) (D 62)
 vH:aL K mg "answer_packet" o7 (A 63) (D 63)
 zj:aL K mg "is_sellable" sH (A 64) (D 64)
 ug:aL K mg "sellable_kinds" nR (A 65) (D 65)
 xu:aL K mg "answer_sells" qv (A 66) (D 66)
 vJ:aL K mg "serving_swaps" pb (A 67) (D 67)
 zk:aL K mg "behind_swap" sJ (A 68) (D 68)
 xw:aL K mg "greater_mean" qw (A 69) (D 69)
 zl:aL K mg "answer_swap" sL (A 70) (D 70)
 xx:aL K mg "answer_swaps" qx (A 71) (D 71)
 uh:aL K mg "answer_fairest" nS (A 72) (D 72)
 zm:aL K mg "answer_most" sM (A 73) (D 73)
 ui:aL K mg "first_greatest" nv (A 74) (D 74)
 DU:aL K mg "with_kind" wB (A 75) (D 75)
 vK:aL K mg "rows_by_kinds" oR (A 76) (D 76)
 xy:aL K mg "likely_kinds" qr (A 77) (D 77)
 Be:aL K mg "mean_kinds" uT (A 78) (D 78)
 DV:aL K mg "mean_even" wC (A 79) (D 79)
 Bf:aL K mg "mean_added" uU (A 80) (D 80)
 zo:aL K mg "least_draws" sh (A 81) (D 81)
 qN:aL K mg "answer_meankinds" lB (A 82) (D 82)
 zp:aL K mg "answer_adds" sy (A 83) (D 83)
 qO:aL K mg "answer_evenkinds" lC (A 84) (D 84)
 pN:aL K mg "answer_allnumbers" kL (A 85) (D 85)
 qP:aL K mg "answer_likeliest" lE (A 86) (D 86)
 zq:aL K mg "answer_seen" sF (A 87) (D 87)
 zr:aL K mg "answer_both" sG (A 88) (D 88)
 vL:aL K mg "answer_needed" o6 (A 89) (D 89)
 pO:aL K mg "answer_wouldkinds" kO (A 90) (D 90)
 qQ:aL K mg "answer_mostkinds" lF (A 91) (D 91)
 zt:aL K mg "heavy_draws" si (A 92) (D 92)
 DW:aL K mg "heavy_row" wD (A 93) (D 93)
 Bg:aL K mg "likely_row" uV (A 94) (D 94)
 vM:aL K mg "rows_by_times" oS (A 95) (D 95)
 xA:aL K mg "likely_times" qt (A 96) (D 96)
 pP:aL K mg "likely_one_colour" kH (A 97) (D 97)
 Bh:aL K mg "mean_times" uW (A 98) (D 98)
 Bi:aL K mg "mean_balls" uX (A 99) (D 99)
 DX:aL K mg "is_colour" wG (A 100) (D 100)
 zu:aL K mg "refused_urn" sj (A 101) (D 101)
 sU:aL K mg "refused_colours" mr (A 102) (D 102)
 kR:aL K mg "refused_draws_of_colour" iI (A 103) (D 103)
 oe:aL K mg "answer_next_colours" jO (A 104) (D 104)
 vN:aL K mg "answer_urnrow" oU (A 105) (D 105)
 qR:aL K mg "answer_urncounts" ly (A 106) (D 106)
 uj:aL K mg "answer_urnjust" nE (A 107) (D 107)
 vO:aL K mg "answer_urnall" oV (A 108) (D 108)
 uk:aL K mg "answer_urnmean" nG (A 109) (D 109)
 um:aL K mg "answer_urnthen" nH (A 110) (D 110)
 og:aL K mg "answer_urnlikeliest" jP (A 111) (D 111)
 vP:aL K mg "answer_urnone" oW (A 112) (D 112)
 DY:aL K mg "sets_with" wH (A 113) (D 113)
 zw:aL K mg "sets_by_red" sq (A 114) (D 114)
 zx:aL K mg "likely_just" sr (A 115) (D 115)
 sV:aL K mg "likely_at_least" mv (A 116) (D 116)
 F8:aL K mg "mean_red" yN (A 117) (D 117)
 Bj:aL K mg "red_spread" uZ (A 118) (D 118)
 vQ:aL K mg "likely_kth_at" oX (A 119) (D 119)
 F9:aL K mg "mean_kth" yP (A 120) (D 120)
 vR:aL K mg "likeliest_red" oY (A 121) (D 121)
 zy:aL K mg "refused_box" sv (A 122) (D 122)
 vS:aL K mg "refused_drawn" oZ (A 123) (D 123)
 zz:aL K mg "refused_kth" sx (A 124) (D 124)
 sW:aL K mg "answer_of_drawn" mx (A 125) (D 125)
 vT:aL K mg "answer_boxall" o5 (A 126) (D 126)
 oh:aL K mg "answer_boxlikeliest" jQ (A 127) (D 127)
 uo:aL K mg "answer_boxmean" nM (A 128) (D 128)
 qS:aL K mg "answer_boxspread" lz (A 129) (D 129)
 qT:aL K mg "answer_boxneeded" lA (A 130) (D 130)
 sX:aL K mg "answer_boxkthat" mB (A 131) (D 131)
 pQ:aL K mg "answer_boxkthmean" kJ (A 132) (D 132)
 sY:aL K mg "answer_boxguess" mC (A 133) (D 133)
 pR:aL K mg "answer_boxcertain" kK (A 134) (D 134)
 kl:aL K mg "answer_boxjust" jb (A 135) (D 135)
 je:aL K mg "answer_boxatleast" gT (A 136) (D 136)
 jf:aL K mg "answer_boxswapped" gU (A 137) (D 137)
 jw:aL K mg "answer_justkinds" ie (A 138) (D 138)
 uq:aL K mg "answer_holding" nV (A 139) (D 139)
 sZ:aL K mg "answer_swapping" mG (A 140) (D 140)
 ur:aL K mg "answer_waiting" nX (A 141) (D 141)
 pS:aL K mg "answer_alike_call" kQ (A 142) (D 142)
 lV:aL K mg "answer_manykinds_call" jo (A 143) (D 143)
 tj:aL K mg "answer_urn_call" mH (A 144) (D 144)
 tq:aL K mg "answer_box_call" mI (A 145) (D 145)
 zA:aL K mg "answer_call" sN (A 146) (D 146)
 Cd:aL K mg "answers" Cc (A 147) (D 147)
 oi:MethAt K C "has_collector" "Album.has_collector" jL (A 148) (D 148)
 uu:MethAt K C "has_kind" "Album.has_kind" m7 (A 149) (D 149)
 zB:MethAt K C "begin" "Album.begin" rT (A 150) (D 150)
 uv:MethAt K C "has_pair" "Album.has_pair" m8 (A 151) (D 151)
 uw:MethAt K C "add_kind" "Album.add_kind" m9 (A 152) (D 152)
 pT:MethAt K C "add_picture" "Album.add_picture" ky (A 153) (D 153)
 oz:MethAt K C "take_picture" "Album.take_picture" kb (A 154) (D 154)
 km:MethAt K C "__init__" "Album.__init__" nY (A 155) (D 155)
 dR:mg "HOLDING_CALLS"=some (.ref (E 0))
 eX:oq P w K (E 0) [(1,A 29),(2,A 30),(3,A 44),(5,A 63),(15,A 34),(16,A 35),(19,A 31),(20,A 32)]
 dE:mg "SWAPPING_CALLS"=some (.ref (E 1))
 eI:oq P w K (E 1) [(4,A 70),(10,A 71),(11,A 72),(12,A 73),(13,A 66)]
 dS:mg "WAITING_CALLS"=some (.ref (E 2))
 eY:oq P w K (E 2) [(6,A 36),(7,A 37),(8,A 39),(9,A 41),(14,A 42),(17,A 43),(18,A 40)]
 eS:mg "ALIKE_CALLS"=some (.ref (E 3))
 gf:oq P w K (E 3) [(21,A 50),(22,A 51),(23,A 52),(24,A 56),(25,A 55),(26,A 57),(27,A 54),(28,A 53),(29,A 58),(30,A 59),(31,A 61),(32,A 60),(33,A 62)]
 c5:mg "MANYKINDS_CALLS"=some (.ref (E 4))
 d9:oq P w K (E 4) [(34,A 138),(35,A 85),(36,A 82),(37,A 83),(38,A 86),(39,A 87),(40,A 84),(41,A 88),(42,A 89),(43,A 90),(44,A 91)]
 gg:mg "URN_CALLS"=some (.ref (E 5))
 iw:oq P w K (E 5) [(45,A 104),(46,A 105),(47,A 106),(48,A 107),(49,A 108),(50,A 104),(51,A 109),(52,A 110),(53,A 111),(54,A 112)]
 gh:mg "BOX_CALLS"=some (.ref (E 6))
 iy:oq P w K (E 6) [(55,A 135),(56,A 126),(57,A 127),(58,A 128),(59,A 129),(60,A 136),(61,A 130),(62,A 131),(63,A 132),(64,A 137),(65,A 133),(66,A 134)]
 jS:mg "ARGUMENT_COUNTS"=some (.ref (E 7))
 hd:∀H,ik K H (E 7) (ax arity)
structure Tx(P:Program)(w:World)(K:Frag)(mg:Str->Option Value)(ae:Heap)(C:Addr)(S:dH)(A:Nat->Addr)(D:Nat->FuncData)(E c p:Nat->Addr):Prop extends Tx0 P w K mg C A D E where
 hB:BM ae mg
 Rh:(D 135).code= .ref (c 0)
 Ri:CodeHd ae (c 0) (p 0)
 Rj:(p 0,vz)∈S
 Of:∀x∈S,x.1=p 0->x=(p 0,vz)
 Kf:(D 136).code= .ref (c 1)
 Kg:CodeHd ae (c 1) (p 1)
 Kh:(p 1,vz)∈S
 Jo:∀x∈S,x.1=p 1->x=(p 1,vz)
 Ki:(D 137).code= .ref (c 2)
 Kj:CodeHd ae (c 2) (p 2)
 Kk:(p 2,vz)∈S
 Jp:∀x∈S,x.1=p 2->x=(p 2,vz)
 Md:(D 138).code= .ref (c 3)
 Me:CodeHd ae (c 3) (p 3)
 Mf:(p 3,vz)∈S
 Kl:∀x∈S,x.1=p 3->x=(p 3,vz)
section
variable{P:Program}{w:World}{K:Frag}{mg:Str->Option Value}{ae:Heap}{C:Addr}{S:dH}{A:Nat->Addr}{D:Nat->FuncData}{E c p:Nat->Addr}(Z:Tx P w K mg ae C S A D E c p)
include Z
def ux:=ua P w mg ae (VO (X:=Z.X) (F:=Z.km.F)) Z.km Z.X.cl
def Jq:=ua P w mg ae (S9 (X:=Z.X) (F:=Z.zB.F)) Z.zB Z.X.cl
def iX:=aN P w ae (JZ (N:=Z.N) (F:=Z.DT.F)) Z.DT
def DZ:=ua P w mg ae (LI (X:=Z.X) (F:=Z.uw.F)) Z.uw Z.X.cl
def Jr:=aN P w ae (Gj (X:=Z.X) (N:=Z.N) (F:=Z.ze.F) (iX:=iX Z) (FT:=DZ Z)) Z.ze
def ee:=ua P w mg ae (C5 (X:=Z.X) (F:=Z.oi.F)) Z.oi Z.X.cl
def oj:=ua P w mg ae (LD (X:=Z.X) (F:=Z.uu.F)) Z.uu Z.X.cl
def jg:=ua P w mg ae (LH (X:=Z.X) (F:=Z.uv.F) (bI:=ee Z) (iV:=oj Z)) Z.uv Z.X.cl
def kS:=ua P w mg ae (Gi (X:=Z.X) (F:=Z.pT.F)) Z.pT Z.X.cl
def Km:=aN P w ae (IA (X:=Z.X) (N:=Z.N) (F:=Z.Bd.F) (fk:=jg Z) (gP:=kS Z)) Z.Bd
def xR:=ua P w mg ae (EG (X:=Z.X) (F:=Z.oz.F)) Z.oz Z.X.cl
def Js:=aN P w ae (Gq (X:=Z.X) (N:=Z.N) (F:=Z.zi.F) (fk:=jg Z) (gP:=kS Z) (w8:=xR Z)) Z.zi
def fK:=aN P w ae (Dd (T:=Z.X.blt) (F:=Z.vD.F)) Z.vD
def Fj:=aN P w ae (DK (X:=Z.X) (N:=Z.N) (F:=Z.vH.F) (fk:=jg Z) (gP:=kS Z) (fK:=fK Z)) Z.vH
def D0:=aN P w ae (BH (X:=Z.X) (N:=Z.N) (F:=Z.ud.F) (bI:=ee Z) (fK:=fK Z)) Z.ud
def D1:=aN P w ae (BI (X:=Z.X) (N:=Z.N) (F:=Z.ue.F) (bI:=ee Z)) Z.ue
def Fl:=aN P w ae (Dc (X:=Z.X) (F:=Z.vC.F)) Z.vC
def Jt:=aN P w ae (Gk (X:=Z.X) (N:=Z.N) (F:=Z.zf.F) (bI:=ee Z)) Z.zf
theorem Fm:lS P w K mg ae C S 8 [(1,A 29),(2,A 30),(3,A 44),(5,A 63),(15,A 34),(16,A 35),(19,A 31),(20,A 32)]:=by
 intro x hx;simp only[List.mem_cons,List.not_mem_nil,or_false]at hx;rcases hx with rfl|rfl|rfl|rfl|rfl|rfl|rfl|rfl
 ·exact⟨1,rfl,(Jr Z).jq S 1 (by decide) rfl aaE⟩
 ·exact⟨2,rfl,(Km Z).jq S 2 (by decide) rfl aaF⟩
 ·exact⟨3,rfl,(Js Z).jq S 3 (by decide) rfl aaG⟩
 ·exact⟨5,rfl,(Fj Z).jq S 5 (by decide) rfl aaH⟩
 ·exact⟨15,rfl,(D0 Z).jq S 15 (by decide) rfl Xv⟩
 ·exact⟨16,rfl,(D1 Z).jq S 16 (by decide) rfl Xw⟩
 ·exact⟨19,rfl,(Fl Z).jq S 19 (by decide) rfl Xx⟩
 exact⟨20,rfl,(Jt Z).jq S 20 (by decide) rfl Xy⟩
theorem jc:Cl P w K mg ae 9 "answer_holding" (A 139) (D 139) ["album","number","given"] (fb K C S [1,2,3,5,15,16,19,20]):=aN P w ae (B8 (F:=Z.uq.F) (dR:=Z.dR) (eX:=Z.eX) (hE:=Fm Z)) Z.uq
def gR:=aN P w ae (GI (F:=Z.zj.F)) Z.zj
def ja:=aN P w ae (B1 (T:=Z.X.blt) (F:=Z.ug.F) (gR:=gR Z)) Z.ug
def cu:=aN P w ae (DM (T:=Z.X.blt) (F:=Z.vJ.F) (ja:=ja Z)) Z.vJ
def ei:=aN P w ae (GJ (T:=Z.X.blt) (F:=Z.zk.F)) Z.zk
def Ju:=aN P w ae (GK (X:=Z.X) (N:=Z.N) (F:=Z.zl.F) (iV:=oj Z) (cu:=cu Z) (ei:=ei Z)) Z.zl
theorem GQ:Cl P w K mg ae 4 "answer_swaps" (A 71) (D 71) ["album","given"] (cQ K C 0 Hj):=aN P w ae (Fh (X:=Z.X) (F:=Z.xx.F) (cu:=cu Z)) Z.xx
def eg:=aN P w ae (Gf (T:=Z.X.blt) (F:=Z.zd.F)) Z.zd
def Jv:=aN P w ae (WW (F:=Z.zc.F)) Z.zc
def aF:=aN P w ae (U4 (F:=Z.F6.F) (G:=Jv Z)) Z.F6
def pA:=aN P w ae (Ic (T:=Z.X.blt) (F:=Z.A9.F) (eg:=eg Z) (aF:=aF Z)) Z.A9
def cR:=aN P w ae (Ag (T:=Z.X.blt) (F:=Z.sP.F)) Z.sP
def bC:=aN P w ae (BD (T:=Z.X.blt) (F:=Z.uc.F) (pA:=pA Z) (cR:=cR Z)) Z.uc
theorem zC:Cl P w K mg ae 1 "is_less" (A 4) (D 4) ["one","other"] (CO K):=⟨U7 Z.pj.F,Z.pj.kq,Z.pj.F.kp,Eo Z.pj.F (by decide +kernel)⟩
theorem fe:Cl P w K mg ae 1 "is_less" (A 4) (D 4) ["one","other"] (CP K):=⟨(zC Z).ok.imp U6,Z.pj.kq,Z.pj.F.kp,(zC Z).b⟩
def l8:=aN P w ae (Fg (F:=Z.xw.F) (bC:=bC Z) (fe:=fe Z)) Z.xw
theorem D3:Cl P w K mg ae 6 "answer_fairest" (A 72) (D 72) ["album","given"] (cQ K C 0 z8):=aN P w ae (B2 (X:=Z.X) (N:=Z.N) (F:=Z.uh.F) (cu:=cu Z) (ei:=ei Z) (l8:=l8 Z) (fe:=fe Z)) Z.uh
theorem Jw:Cl P w K mg ae 4 "answer_most" (A 73) (D 73) ["album","given"] (cQ K C 0 Ma):=aN P w ae (GL (X:=Z.X) (F:=Z.zm.F) (cu:=cu Z) (ei:=ei Z)) Z.zm
def GR:=aN P w ae (Ff (X:=Z.X) (N:=Z.N) (F:=Z.xu.F) (fk:=jg Z) (gR:=gR Z)) Z.xu
theorem D4:lS P w K mg ae C S 8 [(4,A 70),(10,A 71),(11,A 72),(12,A 73),(13,A 66)]:=by
 intro x hx;simp only[List.mem_cons,List.not_mem_nil,or_false]at hx;rcases hx with rfl|rfl|rfl|rfl|rfl
 ·exact⟨4,rfl,(Ju Z).jq S 4 (by decide) rfl aaI⟩
 ·exact⟨10,rfl,(GQ Z).jq S 10 (by decide) rfl Xz⟩
 ·exact⟨11,rfl,(D3 Z).jq S 11 (by decide) rfl XA⟩
 ·exact⟨12,rfl,(Jw Z).jq S 12 (by decide) rfl XB⟩
 exact⟨13,rfl,(GR Z).jq S 13 (by decide) rfl XC⟩
theorem iJ:Cl P w K mg ae 9 "answer_swapping" (A 140) (D 140) ["album","number","given"] (fb K C S [4,10,11,12,13]):=aN P w ae (Au (F:=Z.sZ.F) (dE:=Z.dE) (eI:=Z.eI) (hE:=D4 Z)) Z.sZ
def aB:=aN P w ae (U8 (F:=Z.vA.F)) Z.vA
def Jx:=aN P w ae (Gm (X:=Z.X) (N:=Z.N) (F:=Z.zg.F) (bI:=ee Z) (bC:=bC Z) (aB:=aB Z)) Z.zg
def Ce:=aN P w ae (Ah (X:=Z.X) (F:=Z.sQ.F) (bC:=bC Z) (aB:=aB Z)) Z.sQ
def eO:=aN P w ae (Ai (X:=Z.X) (N:=Z.N) (F:=Z.sR.F) (bI:=ee Z) (cR:=cR Z) (aB:=aB Z)) Z.sR
def cC:=aN P w ae (WX (F:=Z.Oe.F) (hR:=Z.X.blt.gA)) Z.Oe
def eW:=aN P w ae (C1 (T:=Z.X.blt) (F:=Z.vB.F) (eg:=eg Z) (aF:=aF Z) (cC:=cC Z)) Z.vB
def GS:=aN P w ae (EK (N:=Z.N) (F:=Z.xj.F) (eO:=eO Z) (eW:=eW Z)) Z.xj
def pC:=aN P w ae (Ij (T:=Z.X.blt) (F:=Z.Bc.F) (eg:=eg Z)) Z.Bc
def Jy:=aN P w ae (Gp (X:=Z.X) (N:=Z.N) (F:=Z.zh.F) (bI:=ee Z) (cR:=cR Z) (pC:=pC Z)) Z.zh
def da:=aN P w ae (U5 (F:=Z.A4.F) (G:=aF Z)) Z.A4
def GU:=aN P w ae (EN (X:=Z.X) (N:=Z.N) (F:=Z.xl.F) (fk:=jg Z) (bC:=bC Z) (aB:=aB Z) (da:=da Z)) Z.xl
def GV:=aN P w ae (EO (X:=Z.X) (F:=Z.xm.F) (bC:=bC Z) (fe:=fe Z)) Z.xm
def eD:=aN P w ae (Ig (T:=Z.X.blt) (F:=Z.Ba.F) (aF:=aF Z) (cC:=cC Z)) Z.Ba
def GW:=aN P w ae (EM (N:=Z.N) (F:=Z.xk.F) (eO:=eO Z) (eD:=eD Z)) Z.xk
theorem Fn:lS P w K mg ae C S 8 [(6,A 36),(7,A 37),(8,A 39),(9,A 41),(14,A 42),(17,A 43),(18,A 40)]:=by
 intro x hx;simp only[List.mem_cons,List.not_mem_nil,or_false]at hx;rcases hx with rfl|rfl|rfl|rfl|rfl|rfl|rfl
 ·exact⟨6,rfl,(Jx Z).jq S 6 (by decide) rfl aaJ⟩
 ·exact⟨7,rfl,(Ce Z).jq S 7 (by decide) rfl aaK⟩
 ·exact⟨8,rfl,(GS Z).jq S 8 (by decide) rfl aaL⟩
 ·exact⟨9,rfl,(Jy Z).jq S 9 (by decide) rfl aaM⟩
 ·exact⟨14,rfl,(GU Z).jq S 14 (by decide) rfl XD⟩
 ·exact⟨17,rfl,(GV Z).jq S 17 (by decide) rfl XE⟩
 exact⟨18,rfl,(GW Z).jq S 18 (by decide) rfl XF⟩
theorem jd:Cl P w K mg ae 9 "answer_waiting" (A 141) (D 141) ["album","number","given"] (fb K C S [6,7,8,9,14,17,18]):=aN P w ae (Ca (F:=Z.ur.F) (dS:=Z.dS) (eY:=Z.eY) (hE:=Fn Z)) Z.ur
def cz:=aN P w ae (Dh (X:=Z.X) (N:=Z.N) (F:=Z.vE.F)) Z.vE
def aH:=aN P w ae (Aj (X:=Z.X) (F:=Z.sS.F) (cz:=cz Z) (aB:=aB Z)) Z.sS
def lZ:=aN P w ae (Ew (T:=Z.X.blt) (F:=Z.xf.F)) Z.xf
def eM:=aN P w ae (Af (T:=Z.X.blt) (F:=Z.sO.F) (lZ:=lZ Z)) Z.sO
def cY:=aN P w ae (Bz (T:=Z.X.blt) (F:=Z.ub.F) (eM:=eM Z)) Z.ub
def aY:=aN P w ae (yn (T:=Z.X.blt) (F:=Z.qI.F) (cY:=cY Z) (aF:=aF Z) (cC:=cC Z)) Z.qI
def Az:=aN P w ae (yB (N:=Z.N) (F:=Z.qJ.F) (aH:=aH Z) (aY:=aY Z)) Z.qJ
def jW:=aN P w ae (Ey (T:=Z.X.blt) (F:=Z.xg.F) (aY:=aY Z) (da:=da Z)) Z.xg
def GX:=aN P w ae (ET (N:=Z.N) (F:=Z.xo.F) (aH:=aH Z) (jW:=jW Z)) Z.xo
def iA:=aN P w ae (HX (T:=Z.X.blt) (F:=Z.A5.F)) Z.A5
def lO:=aN P w ae (HY (T:=Z.X.blt) (F:=Z.A6.F) (iA:=iA Z) (aF:=aF Z)) Z.A6
def GY:=aN P w ae (EV (N:=Z.N) (F:=Z.xp.F) (aH:=aH Z) (lO:=lO Z)) Z.xp
def pD:=aN P w ae (HZ (T:=Z.X.blt) (F:=Z.A7.F) (cY:=cY Z) (cC:=cC Z)) Z.A7
def AB:=aN P w ae (yE (X:=Z.X) (N:=Z.N) (F:=Z.qK.F) (pD:=pD Z)) Z.qK
def jY:=aN P w ae (EA (T:=Z.X.blt) (F:=Z.xh.F) (aY:=aY Z) (da:=da Z)) Z.xh
def GZ:=aN P w ae (E1 (X:=Z.X) (N:=Z.N) (F:=Z.xr.F) (aH:=aH Z) (jY:=jY Z)) Z.xr
def pE:=aN P w ae (Ia (T:=Z.X.blt) (F:=Z.A8.F) (cY:=cY Z) (cC:=cC Z) (aF:=aF Z)) Z.A8
def AD:=aN P w ae (yH (X:=Z.X) (N:=Z.N) (F:=Z.qL.F) (pE:=pE Z) (aB:=aB Z)) Z.qL
def fw:=aN P w ae (tG (T:=Z.X.blt) (F:=Z.lU.F) (aY:=aY Z)) Z.lU
def vU:=aN P w ae (uS (N:=Z.N) (F:=Z.mP.F) (aH:=aH Z) (fw:=fw Z)) Z.mP
def cv:=aN P w ae (Nl (T:=Z.X.blt) (F:=Z.Jn.F)) Z.Jn
def iM:=aN P w ae (S6 (T:=Z.X.blt) (F:=Z.oy.F) (cv:=cv Z) (cC:=cC Z)) Z.oy
def jX:=aN P w ae (EB (T:=Z.X.blt) (F:=Z.xi.F) (iM:=iM Z) (cC:=cC Z) (aF:=aF Z)) Z.xi
def G0:=aN P w ae (EX (N:=Z.N) (F:=Z.xq.F) (aH:=aH Z) (jX:=jX Z)) Z.xq
def Cf:=aN P w ae (Ak (X:=Z.X) (N:=Z.N) (F:=Z.sT.F) (cz:=cz Z) (eM:=eM Z)) Z.sT
def D6:=aN P w ae (BQ (X:=Z.X) (N:=Z.N) (F:=Z.uf.F) (iA:=iA Z)) Z.uf
def AE:=aN P w ae (yI (X:=Z.X) (N:=Z.N) (F:=Z.qM.F) (iX:=iX Z) (aY:=aY Z) (aB:=aB Z)) Z.qM
def dw:=aN P w ae (Di (X:=Z.X) (N:=Z.N) (F:=Z.vF.F) (iV:=oj Z)) Z.vF
def Fo:=aN P w ae (Dj (X:=Z.X) (F:=Z.vG.F) (dw:=dw Z) (aF:=aF Z) (aB:=aB Z)) Z.vG
def gp:=aN P w ae (ER (X:=Z.X) (N:=Z.N) (F:=Z.xn.F) (dw:=dw Z)) Z.xn
def tY:=aN P w ae (Lx (T:=Z.X.blt) (F:=Z.F7.F)) Z.F7
def dD:=aN P w ae (vh (X:=Z.X) (N:=Z.N) (F:=Z.oa.F) (gp:=gp Z) (aB:=aB Z) (tY:=tY Z)) Z.oa
def G1:=aN P w ae (E5 (N:=Z.N) (F:=Z.xt.F) (dD:=dD Z) (aY:=aY Z)) Z.xt
theorem Jz:lS P w K mg ae C S 8 [(21,A 50),(22,A 51),(23,A 52),(24,A 56),(25,A 55),(26,A 57),(27,A 54),(28,A 53),(29,A 58),(30,A 59),(31,A 61),(32,A 60),(33,A 62)]:=by
 intro x hx;simp only[List.mem_cons,List.not_mem_nil,or_false]at hx;rcases hx with rfl|rfl|rfl|rfl|rfl|rfl|rfl|rfl|rfl|rfl|rfl|rfl|rfl
 ·exact⟨21,rfl,(Az Z).jq S 21 (by decide) rfl XG⟩
 ·exact⟨22,rfl,(GX Z).jq S 22 (by decide) rfl XH⟩
 ·exact⟨23,rfl,(GY Z).jq S 23 (by decide) rfl XI⟩
 ·exact⟨24,rfl,(AB Z).jq S 24 (by decide) rfl XJ⟩
 ·exact⟨25,rfl,(GZ Z).jq S 25 (by decide) rfl XM⟩
 ·exact⟨26,rfl,(AD Z).jq S 26 (by decide) rfl XN⟩
 ·exact⟨27,rfl,(vU Z).jq S 27 (by decide) rfl XO⟩
 ·exact⟨28,rfl,(G0 Z).jq S 28 (by decide) rfl XQ⟩
 ·exact⟨29,rfl,(Cf Z).jq S 29 (by decide) rfl XR⟩
 ·exact⟨30,rfl,(D6 Z).jq S 30 (by decide) rfl XS⟩
 ·exact⟨31,rfl,(AE Z).jq S 31 (by decide) rfl XT⟩
 ·exact⟨32,rfl,(Fo Z).jq S 32 (by decide) rfl XU⟩
 exact⟨33,rfl,(G1 Z).jq S 33 (by decide) rfl XW⟩
theorem gW:Cl P w K mg ae 9 "answer_alike_call" (A 142) (D 142) ["album","number","given"] (fb K C S [21,22,23,24,25,26,27,28,29,30,31,32,33]):=aN P w ae (xQ (F:=Z.pS.F) (eS:=Z.eS) (gf:=Z.gf) (hE:=Jz Z)) Z.pS
def rh:=aN P w ae (J3 (T:=Z.X.blt) (F:=Z.DU.F) (cC:=cC Z) (cv:=cv Z)) Z.DU
def dy:=aN P w ae (Dm (T:=Z.X.blt) (F:=Z.vK.F) (rh:=rh Z)) Z.vK
def l9:=aN P w ae (E7 (T:=Z.X.blt) (F:=Z.xy.F) (dy:=dy Z) (aF:=aF Z) (cC:=cC Z)) Z.xy
def AF:=aN P w ae (y9 (N:=Z.N) (F:=Z.jw.F) (aH:=aH Z) (l9:=l9 Z) (hfd:=Z.Md) (hC:=Z.Me) (hB:=Z.hB) (hS:=Z.Mf) (hS1:=Z.Kl) (ls:=vz) (hls:=by decide +kernel) (hlp:=by decide +kernel)) Z.jw
def zD:=aN P w ae (xH (X:=Z.X) (N:=Z.N) (F:=Z.pN.F) (cz:=cz Z) (dy:=dy Z)) Z.pN
def cN:=aN P w ae (IG (T:=Z.X.blt) (F:=Z.Be.F) (eD:=eD Z)) Z.Be
def AG:=aN P w ae (yU (N:=Z.N) (F:=Z.qN.F) (aH:=aH Z) (cN:=cN Z)) Z.qN
def lQ:=aN P w ae (II (T:=Z.X.blt) (F:=Z.Bf.F) (cN:=cN Z) (da:=da Z)) Z.Bf
def JA:=aN P w ae (GD (N:=Z.N) (F:=Z.zp.F) (aH:=aH Z) (lQ:=lQ Z)) Z.zp
def cw:=aN P w ae (BS (T:=Z.X.blt) (F:=Z.ui.F)) Z.ui
def AH:=aN P w ae (yX (X:=Z.X) (N:=Z.N) (F:=Z.qP.F) (cz:=cz Z) (dy:=dy Z) (cw:=cw Z)) Z.qP
def JB:=aN P w ae (GF (X:=Z.X) (N:=Z.N) (F:=Z.zq.F) (dw:=dw Z) (eD:=eD Z) (aB:=aB Z)) Z.zq
def nN:=aN P w ae (J5 (T:=Z.X.blt) (F:=Z.DV.F) (cN:=cN Z)) Z.DV
def AI:=aN P w ae (yW (N:=Z.N) (F:=Z.qO.F) (aH:=aH Z) (nN:=nN Z)) Z.qO
def JC:=aN P w ae (GG (X:=Z.X) (N:=Z.N) (F:=Z.zr.F) (gp:=gp Z) (eW:=eW Z) (aB:=aB Z)) Z.zr
def nQ:=aN P w ae (Gr (T:=Z.X.blt) (N:=Z.N) (F:=Z.zo.F)) Z.zo
def Fp:=aN P w ae (DJ (X:=Z.X) (N:=Z.N) (F:=Z.vL.F) (nQ:=nQ Z)) Z.vL
def zE:=aN P w ae (xJ (N:=Z.N) (F:=Z.pO.F) (dD:=dD Z) (cN:=cN Z)) Z.pO
def AJ:=aN P w ae (yZ (X:=Z.X) (N:=Z.N) (F:=Z.qQ.F)) Z.qQ
theorem Cg:lS P w K mg ae C S 8 [(34,A 138),(35,A 85),(36,A 82),(37,A 83),(38,A 86),(39,A 87),(40,A 84),(41,A 88),(42,A 89),(43,A 90),(44,A 91)]:=by
 intro x hx;simp only[List.mem_cons,List.not_mem_nil,or_false]at hx;rcases hx with rfl|rfl|rfl|rfl|rfl|rfl|rfl|rfl|rfl|rfl|rfl
 ·exact⟨34,rfl,(AF Z).abQ 34 (by decide) rfl XX⟩
 ·exact⟨35,rfl,(zD Z).jq S 35 (by decide) rfl XY⟩
 ·exact⟨36,rfl,(AG Z).jq S 36 (by decide) rfl XZ⟩
 ·exact⟨37,rfl,(JA Z).jq S 37 (by decide) rfl X0⟩
 ·exact⟨38,rfl,(AH Z).jq S 38 (by decide) rfl X1⟩
 ·exact⟨39,rfl,(JB Z).jq S 39 (by decide) rfl X2⟩
 ·exact⟨40,rfl,(AI Z).jq S 40 (by decide) rfl X3⟩
 ·exact⟨41,rfl,(JC Z).jq S 41 (by decide) rfl X4⟩
 ·exact⟨42,rfl,(Fp Z).jq S 42 (by decide) rfl X5⟩
 ·exact⟨43,rfl,(zE Z).jq S 43 (by decide) rfl X6⟩
 exact⟨44,rfl,(AJ Z).jq S 44 (by decide) rfl X7⟩
theorem fz:Cl P w K mg ae 9 "answer_manykinds_call" (A 143) (D 143) ["album","number","given"] (fb K C S [34,35,36,37,38,39,40,41,42,43,44]):=aN P w ae (tJ (F:=Z.lV.F) (c5:=Z.c5) (d9:=Z.d9) (hE:=Cg Z)) Z.lV
def cS:=aN P w ae (Gv (N:=Z.N) (F:=Z.zu.F)) Z.zu
def iZ:=aN P w ae (J9 (N:=Z.N) (F:=Z.DX.F)) Z.DX
def eQ:=aN P w ae (Am (T:=Z.X.blt) (N:=Z.N) (F:=Z.sU.F) (cS:=cS Z) (iZ:=iZ Z)) Z.sU
def cy:=aN P w ae (Gs (T:=Z.X.blt) (F:=Z.zt.F)) Z.zt
def iY:=aN P w ae (J7 (F:=Z.DW.F) (cy:=cy Z)) Z.DW
def iB:=aN P w ae (IJ (T:=Z.X.blt) (F:=Z.Bg.F) (iY:=iY Z) (cy:=cy Z) (aF:=aF Z)) Z.Bg
def eZ:=aN P w ae (vt (F:=Z.oe.F) (eQ:=eQ Z) (iB:=iB Z) (aB:=aB Z)) Z.oe
def Fq:=aN P w ae (Dy (T:=Z.X.blt) (N:=Z.N) (F:=Z.vN.F) (cS:=cS Z) (iZ:=iZ Z) (iB:=iB Z) (aB:=aB Z)) Z.vN
def dz:=aN P w ae (Dv (T:=Z.X.blt) (F:=Z.vM.F) (iY:=iY Z) (cv:=cv Z)) Z.vM
def gq:=aN P w ae (E9 (T:=Z.X.blt) (F:=Z.xA.F) (dz:=dz Z) (cy:=cy Z) (aF:=aF Z)) Z.xA
def AK:=aN P w ae (yM (N:=Z.N) (F:=Z.qR.F) (cS:=cS Z) (gq:=gq Z) (aB:=aB Z)) Z.qR
def aW:=aN P w ae (rk (N:=Z.N) (F:=Z.kR.F) (eQ:=eQ Z)) Z.kR
def D8:=aN P w ae (BV (T:=Z.X.blt) (N:=Z.N) (F:=Z.uj.F) (aW:=aW Z) (gq:=gq Z) (aB:=aB Z)) Z.uj
def Fs:=aN P w ae (Dz (T:=Z.X.blt) (N:=Z.N) (F:=Z.vO.F) (aW:=aW Z) (dz:=dz Z)) Z.vO
def pG:=aN P w ae (IM (T:=Z.X.blt) (F:=Z.Bh.F) (aF:=aF Z)) Z.Bh
def D9:=aN P w ae (BX (T:=Z.X.blt) (N:=Z.N) (F:=Z.uk.F) (aW:=aW Z) (pG:=pG Z) (aB:=aB Z)) Z.uk
def pH:=aN P w ae (IQ (T:=Z.X.blt) (F:=Z.Bi.F) (aF:=aF Z)) Z.Bi
def Ea:=aN P w ae (BY (T:=Z.X.blt) (N:=Z.N) (F:=Z.um.F) (aW:=aW Z) (pH:=pH Z) (aB:=aB Z)) Z.um
def wM:=aN P w ae (vv (T:=Z.X.blt) (N:=Z.N) (F:=Z.og.F) (aW:=aW Z) (dz:=dz Z) (cw:=cw Z)) Z.og
def i8:=aN P w ae (xE (T:=Z.X.blt) (F:=Z.pP.F) (cy:=cy Z) (aF:=aF Z)) Z.pP
def Ft:=aN P w ae (DA (N:=Z.N) (F:=Z.vP.F) (cS:=cS Z) (i8:=i8 Z) (aB:=aB Z)) Z.vP
theorem Mg:z9 P w K mg ae S 8 [(45,A 104),(46,A 105),(47,A 106),(48,A 107),(49,A 108),(50,A 104),(51,A 109),(52,A 110),(53,A 111),(54,A 112)]:=by
 intro x hx;simp only[List.mem_cons,List.not_mem_nil,or_false]at hx;rcases hx with rfl|rfl|rfl|rfl|rfl|rfl|rfl|rfl|rfl|rfl
 ·exact⟨45,_,rfl,⟨_,_,(Mb (Tt (eZ Z).ok)).mono (by decide),(eZ Z).b,.inl (eZ Z).kp⟩,X8⟩
 ·exact⟨46,_,rfl,(Fq Z).zb S 46 (by decide) rfl,X9⟩
 ·exact⟨47,_,rfl,(AK Z).zb S 47 (by decide) rfl,Ya⟩
 ·exact⟨48,_,rfl,(D8 Z).zb S 48 (by decide) rfl,Yb⟩
 ·exact⟨49,_,rfl,(Fs Z).zb S 49 (by decide) rfl,Yc⟩
 ·exact⟨50,_,rfl,⟨_,_,(Mb (Tu (eZ Z).ok)).mono (by decide),(eZ Z).b,.inl (eZ Z).kp⟩,Yd⟩
 ·exact⟨51,_,rfl,(D9 Z).zb S 51 (by decide) rfl,Ye⟩
 ·exact⟨52,_,rfl,(Ea Z).zb S 52 (by decide) rfl,Yf⟩
 ·exact⟨53,_,rfl,(wM Z).zb S 53 (by decide) rfl,Yg⟩
 exact⟨54,_,rfl,(Ft Z).zb S 54 (by decide) rfl,Yh⟩
theorem iK:Cl P w K mg ae 9 "answer_urn_call" (A 144) (D 144) ["album","number","given"] (fb K C S [45,46,47,48,49,50,51,52,53,54]):=aN P w ae (Aw (F:=Z.tj.F) (gg:=Z.gg) (iw:=Z.iw) (hE:=Mg Z)) Z.tj
def cU:=aN P w ae (GA (N:=Z.N) (F:=Z.zy.F)) Z.zy
def bJ:=aN P w ae (DH (N:=Z.N) (F:=Z.vS.F) (cU:=cU Z)) Z.vS
def bE:=aN P w ae (Ap (F:=Z.sW.F) (bJ:=bJ Z) (aB:=aB Z)) Z.sW
def fA:=aN P w ae (Kb (F:=Z.DY.F) (cv:=cv Z)) Z.DY
def gS:=aN P w ae (Gy (F:=Z.zx.F) (fA:=fA Z) (cv:=cv Z) (aF:=aF Z)) Z.zx
def Eb:=aN P w ae (B4 (F:=Z.kl.F) (bE:=bE Z) (gS:=gS Z) (hfd:=Z.Rh) (hC:=Z.Ri) (hB:=Z.hB) (hS:=Z.Rj) (hS1:=Z.Of) (ls:=vz) (hls:=by decide +kernel) (hlp:=by decide +kernel)) Z.kl
def eh:=aN P w ae (Gw (T:=Z.X.blt) (F:=Z.zw.F) (fA:=fA Z)) Z.zw
def Fu:=aN P w ae (DI (T:=Z.X.blt) (F:=Z.vT.F) (bJ:=bJ Z) (eh:=eh Z)) Z.vT
def wN:=aN P w ae (vx (T:=Z.X.blt) (F:=Z.oh.F) (bJ:=bJ Z) (eh:=eh Z) (cw:=cw Z)) Z.oh
def pL:=aN P w ae (LZ (F:=Z.F8.F) (aF:=aF Z)) Z.F8
def Ec:=aN P w ae (B0 (F:=Z.uo.F) (bE:=bE Z) (pL:=pL Z)) Z.uo
def lP:=aN P w ae (IV (F:=Z.Bj.F) (aF:=aF Z)) Z.Bj
def AL:=aN P w ae (yR (N:=Z.N) (F:=Z.qS.F) (bE:=bE Z) (lP:=lP Z) (bJ:=bJ Z)) Z.qS
def eR:=aN P w ae (Ao (T:=Z.X.blt) (F:=Z.sV.F) (eh:=eh Z) (cv:=cv Z) (aF:=aF Z)) Z.sV
def zF:=aN P w ae (xM (F:=Z.je.F) (bE:=bE Z) (eR:=eR Z) (hfd:=Z.Kf) (hC:=Z.Kg) (hB:=Z.hB) (hS:=Z.Kh) (hS1:=Z.Jo) (ls:=vz) (hls:=by decide +kernel) (hlp:=by decide +kernel)) Z.je
def AM:=aN P w ae (yS (T:=Z.X.blt) (N:=Z.N) (F:=Z.qT.F) (cU:=cU Z) (fe:=zC Z) (eR:=eR Z)) Z.qT
def gQ:=aN P w ae (GB (N:=Z.N) (F:=Z.zz.F) (cU:=cU Z)) Z.zz
def k7:=aN P w ae (DD (F:=Z.vQ.F) (cv:=cv Z) (aF:=aF Z)) Z.vQ
def Ci:=aN P w ae (Aq (N:=Z.N) (F:=Z.sX.F) (gQ:=gQ Z) (k7:=k7 Z) (aB:=aB Z)) Z.sX
def t6:=aN P w ae (L1 (F:=Z.F9.F) (aF:=aF Z)) Z.F9
def zG:=aN P w ae (xF (F:=Z.pQ.F) (gQ:=gQ Z) (t6:=t6 Z) (aB:=aB Z)) Z.pQ
def zH:=aN P w ae (xO (F:=Z.jf.F) (bE:=bE Z) (gS:=gS Z) (hfd:=Z.Ki) (hC:=Z.Kj) (hB:=Z.hB) (hS:=Z.Kk) (hS1:=Z.Jp) (ls:=vz) (hls:=by decide +kernel) (hlp:=by decide +kernel)) Z.jf
def k8:=aN P w ae (DE (T:=Z.X.blt) (F:=Z.vR.F) (fA:=fA Z) (cw:=cw Z)) Z.vR
def Cj:=aN P w ae (Ar (N:=Z.N) (F:=Z.sY.F) (bJ:=bJ Z) (k8:=k8 Z)) Z.sY
def zI:=aN P w ae (xG (N:=Z.N) (F:=Z.pR.F) (cU:=cU Z)) Z.pR
theorem Mh:z9 P w K mg ae S 8 [(55,A 135),(56,A 126),(57,A 127),(58,A 128),(59,A 129),(60,A 136),(61,A 130),(62,A 131),(63,A 132),(64,A 137),(65,A 133),(66,A 134)]:=by
 intro x hx;simp only[List.mem_cons,List.not_mem_nil,or_false]at hx;rcases hx with rfl|rfl|rfl|rfl|rfl|rfl|rfl|rfl|rfl|rfl|rfl|rfl
 ·exact⟨55,_,rfl,(Eb Z).VW 55 (by decide) rfl,Yi⟩
 ·exact⟨56,_,rfl,(Fu Z).zb S 56 (by decide) rfl,Yj⟩
 ·exact⟨57,_,rfl,(wN Z).zb S 57 (by decide) rfl,Yk⟩
 ·exact⟨58,_,rfl,(Ec Z).zb S 58 (by decide) rfl,Yl⟩
 ·exact⟨59,_,rfl,(AL Z).zb S 59 (by decide) rfl,Ym⟩
 ·exact⟨60,_,rfl,(zF Z).VW 60 (by decide) rfl,Yn⟩
 ·exact⟨61,_,rfl,(AM Z).zb S 61 (by decide) rfl,Yo⟩
 ·exact⟨62,_,rfl,(Ci Z).zb S 62 (by decide) rfl,Yp⟩
 ·exact⟨63,_,rfl,(zG Z).zb S 63 (by decide) rfl,Yq⟩
 ·exact⟨64,_,rfl,(zH Z).VW 64 (by decide) rfl,Yr⟩
 ·exact⟨65,_,rfl,(Cj Z).zb S 65 (by decide) rfl,Ys⟩
 exact⟨66,_,rfl,(zI Z).zb S 66 (by decide) rfl,Yt⟩
theorem iL:Cl P w K mg ae 9 "answer_box_call" (A 145) (D 145) ["album","number","given"] (fb K C S [55,56,57,58,59,60,61,62,63,64,65,66]):=aN P w ae (Ay (F:=Z.tq.F) (gh:=Z.gh) (iy:=Z.iy) (hE:=Mh Z)) Z.tq
def nZ:=aN P w ae (GO (X:=Z.X) (N:=Z.N) (F:=Z.zA.F) (N6:=Jq Z) (jc:=jc Z) (iJ:=iJ Z) (jd:=jd Z) (gW:=gW Z) (fz:=fz Z) (iK:=iK Z) (iL:=iL Z) (hall:=VX)) Z.zA
theorem T4:aM P w K mg ae bo 11 (A 147) (D 147) ["calls"] (ph K S):=N8 (X:=Z.X) (F:=Z.Cd.F) (N9:=⟨(ux Z).ok,⟨Z.mkC,Z.km.KO.at_,Z.km.KO.fn,Z.kC⟩,(ux Z).b,Z.X.mgC⟩) (nZ:=nZ Z) (jS:=Z.jS) (hd:=Z.hd)
end
theorem u1{mg:Str->Option Value}{h:Heap}:∀{l:List DefRec} {Ts:List (Addr×Addr)},Paired (fun(x:DefRec) (t:Addr×Addr)=>∃a o fd,mg x.name=some (.ref a)/\h.get? a=some o/\o.data= .func fd/\fd.code= .ref t.1/\CodeHd h t.1 t.2) l Ts->Paired (fun(x:Str) (t:Addr×Addr)=>∃a o fd,mg x=some (.ref a)/\h.get? a=some o/\o.data= .func fd/\fd.code= .ref t.1/\CodeHd h t.1 t.2) (l.map (·.name)) Ts
 |[],_,h=>by cases h;exact .nil
 |x::l,_,h=>by
  cases h with
  |cons a b=>exact .cons a (u1 b)
theorem VY{α β:Type}{R:α->β->Prop}{a b c d:α}{Ts:List β}(h:Paired R [a,b,c,d] Ts):∃t0 t1 t2 t3,Ts=[t0,t1,t2,t3]/\R a t0/\R b t1/\R c t2/\R d t3:=by
 cases h with
 |cons h0 h=>cases h with
  |cons h1 h=>cases h with
   |cons h2 h=>cases h with
    |cons h3 h=>
     cases h;exact⟨_,_,_,_,rfl,h0,h1,h2,h3⟩
theorem all_mk{P:Program}{w:World}{K:Frag}{h:Heap}{mg:Str->Option Value}{C fa:Addr}{A:Nat->Addr}{D:Nat->FuncData}{E:Nat->Addr}{Ts:List (Addr×Addr)}(KX:K.In h)(hfa:mg "answers"=some (.ref fa))(VZ:BM h mg)
  (hP:Paired (fun(x:Str) (t:Addr×Addr)=>∃a o fd,mg x=some (.ref a)/\h.get? a=some o/\o.data= .func fd/\fd.code= .ref t.1/\CodeHd h t.1 t.2) ["answer_boxjust","answer_boxatleast","answer_boxswapped","answer_justkinds"] Ts)(Z:Tx0 P w K mg C A D E):
  ∃fd:FuncData,(∀(s:Shared) (us:List Value),us.length=(["calls"]:List Str).length->BindsTo s fd ⟨us,[]⟩ ((["calls"]:List Str).zip us))/\∀ae:Heap,K.In ae->ae.Ns mainGlobals mg->t9 h ae->aM P w K mg ae bo 11 fa fd ["calls"] (ph K (Ts.map fun t=>(t.2,vz))):=by
 have e:=hfa.symm.trans Z.Cd.kq;cases e;have one:∀{t:Addr×Addr} {Ts:List (Addr×Addr)},t∈Ts->(t.2,vz)∈Ts.map fun t=>(t.2,vz):=fun h=>List.mem_map_of_mem h;have two:∀{p:Addr} {Ts:List (Addr×Addr)},∀x∈Ts.map (fun t=>(t.2,vz)),x.1=p->x=(p,vz):=fun x hx e=>by
  obtain⟨t,_,rfl⟩:=List.mem_map.mp hx;rw[<- e]
 obtain⟨oc,od,kV,doc,pm,an,fS,ct,xY,e,lk,pU⟩:=Z.Cd.F.ex;refine⟨D 147,?_,fun ae KB NB BO=>?_⟩
 ·intro s us hu;rw[e]
  match us,hu with
  |[_],_=>exact .of_eq rfl
 obtain⟨t0,t1,t2,t3,rfl,h0,h1,h2,h3⟩:=VY hP;have k0:=DS KX Z.kl.F Z.kl.kq h0;have k1:=DS KX Z.je.F Z.je.kq h1;have k2:=DS KX Z.jf.F Z.jf.kq h2;have k3:=DS KX Z.jw.F Z.jw.kq h3;exact T4 (c:=fun i=>match i with|0=>t0.1|1=>t1.1|2=>t2.1|_=>t3.1) (p:=fun i=>match i with|0=>t0.2|1=>t1.2|2=>t2.2|_=>t3.2) ⟨Z,BO.bm VZ,k0.1,BO.code k0.2,one (by simp),two,k1.1,BO.code k1.2,one (by simp),two,k2.1,BO.code k2.2,one (by simp),two,k3.1,BO.code k3.2,one (by simp),two⟩
open PySem.W (WData)
noncomputable def Mi:List DictEntry->List (Int×Addr)
 |[]=>[]
 |e::es=>(match e.key,e.val with| .int m _,.ref f=>(m,f)|_,_=>(0,0))::Mi es
noncomputable def vV:List Value->List Nat->Bool
 |[],[]=>true
 | .int m _::us,n::l=>decide (m=(n:Int))&&vV us l
 |_,_=>false
theorem Rk:∀(us:List Value) (l:List Nat),vV us l=true->Vals (ax l) us:=by
 intro us
 induction us with
 |nil=>
  intro l h;cases l with
  |nil=>exact .nil
  |cons n l=>cases h
 |cons u us ih=>
  intro l h;cases l with
  |nil=>cases u <;> cases h
  |cons n l=>
   cases u with
   |int m t=>
    have h2:(decide (m=(n:Int))&&vV us l)=true:=h;rw[Bool.and_eq_true,decide_eq_true_eq]at h2;obtain⟨rfl,h3⟩:=h2;exact .cons ⟨t,rfl⟩ (ih l h3)
   |_=>cases h
theorem Yu{K:Frag}{d:Addr}{its:Array Value}{n:Nat}{od:Option Addr}{sl:Array (Option Value)}{l:List Nat}(h:K.lookup d=some ⟨.type "tuple",od,.seq its n,sl⟩:=by k_is)(hs:its.size<=sizeLine:=by decide +kernel)(hv:vV its.toList l=true:=by decide +kernel):∀H,ik K H d (ax l):=fun H=>
 .inr ⟨_,its,n,h,rfl,rfl,hs,Rk its.toList l hv⟩
theorem V0{K:Frag}{h:Heap}{mg:Str->Option Value}{C:Addr}(KX:K.In h)(G:h.Ns mainGlobals mg)(hC:mg "Album"=some (.ref C))(b1:nsIn K mainGlobals "range"=some none:=by k_is)(b2:nsIn K mainGlobals "enumerate"=some none:=by k_is)(b3:nsIn K mainGlobals "zip"=some none:=by k_is)(b4:nsIn K mainGlobals "len"=some none:=by k_is)(b5:nsIn K mainGlobals "sum"=some none:=by k_is)
  (b6:nsIn K mainGlobals "min"=some none:=by k_is)(b7:nsIn K mainGlobals "list"=some none:=by k_is)(b8:nsIn K mainGlobals "all"=some none:=by k_is)(b9:nsIn K mainGlobals "any"=some none:=by k_is)(b10:nsIn K mainGlobals "max"=some none:=by k_is)
  (pg:plainGet K C Str.empty=true:=by k_is)(hd:hasDictIn K C=true:=by k_is)(po:plainOver K C=true:=by k_is)(sa:findIn K (.ref C) "__setattr__"=some (some (.builtin "object.__setattr__")):=by k_is)
  (n1:findIn K (.ref C) "begun"=some none:=by k_is)(n2:findIn K (.ref C) "weights"=some none:=by k_is)(n3:findIn K (.ref C) "owned"=some none:=by k_is)(n4:findIn K (.ref C) "packets"=some none:=by k_is):gm K mg C:=
 ⟨⟨mg_none_of KX G b1,mg_none_of KX G b2,mg_none_of KX G b3,mg_none_of KX G b4,mg_none_of KX G b5,mg_none_of KX G b6,mg_none_of KX G b7,mg_none_of KX G b8,mg_none_of KX G b9,mg_none_of KX G b10⟩,⟨pg,hd,po,sa⟩,n1,n2,n3,n4,hC⟩
theorem K8{K:Frag}{h:Heap}{mg:Str->Option Value}{C:Addr}{m qual:Str}{st:Stmt}{f:Addr}{oc:Value}{od an:Option Addr}{xY:Array (Option Value)}{kV doc pm fS ct:Value}(KX:K.In h)(hC:mg "Album"=some (.ref C))(a:findIn K (.ref C) m=some (some (.ref f)):=by k_is)(i:isFn K (.ref f)=true:=by k_is)
  (l:K.lookup f=some ⟨oc,od,.func (fnOf m qual (gJ st) (fG st) (ay st) .none kV doc pm an fS ct),xY⟩:=by k_is)(c:codeIn K fS qual=true:=by k_is)(k:keepIn K (.ref f)=true:=by k_is):MethAt K C m qual st f (fnOf m qual (gJ st) (fG st) (ay st) .none kV doc pm an fS ct):=VV a i l c k
theorem RY{K:Frag}{mg:Str->Option Value}{x:Str}{st:Stmt}{f f':Addr}{fd fd':FuncData}(d:aL K mg x st f fd)(e:f'=f)(e2:fd'=fd):aL K mg x st f' fd':=e▸e2▸d
theorem Og{K:Frag}{C:Addr}{m qual:Str}{st:Stmt}{f f':Addr}{fd fd':FuncData}(d:MethAt K C m qual st f fd)(e:f'=f)(e2:fd'=fd):MethAt K C m qual st f' fd':=e▸e2▸d
theorem jh{P:Program}{w:World}{K:Frag}{h:Heap}{mg:Str->Option Value}{x:Str}{d:Addr}{es:Array DictEntry}{ep:Nat}(KX:K.In h)(t:mg x=some (.ref d))(l:K.lookup d=some ⟨.type "dict",none,.dict es ep,#[]⟩:=by k_is)(ns:(d==sysModules)=false:=by decide +kernel)(h1:B6 es.toList (Mi es.toList)=true:=by decide +kernel)(nd:((Mi es.toList).map (·.1)).Nodup:=by decide +kernel):oq P w K d (Mi es.toList):=Xk l ns h1 nd
theorem RZ{K:Frag}{h:Heap}{mg:Str->Option Value}{x:Str}{d:Addr}{its:Array Value}{n:Nat}{od:Option Addr}{sl:Array (Option Value)}{l:List Nat}(KX:K.In h)(t:mg x=some (.ref d))(h:K.lookup d=some ⟨.type "tuple",od,.seq its n,sl⟩:=by k_is)(hs:its.size<=sizeLine:=by decide +kernel)(hv:vV its.toList l=true:=by decide +kernel):∀H,ik K H d (ax l):=Yu h hs hv
noncomputable def Fv{α:Type}(x:α)(xs:List α)(i:Nat):α:=(x::xs).getD i x
theorem JD{α β:Type}{R:α->β->Prop}{l l':List α}{Ts:List β}(h:Paired R l Ts)(e:l=l'):Paired R l' Ts:=e▸h
theorem Yv(ns:List Nat):(vI ns).map V.int=ax ns:=by
 unfold vI ax;rw[List.map_map];rfl
theorem Oh{K:Frag}{Ts:List (Addr×Addr)}{H0 H:Hp}{xs:List V}(a:List Int)(hO:Jk H0)(DR:∀b o,H0 b=some o->H b=some o)(hT:∀t∈Ts,H t.2=some (.oA #[]))(hlen:a.length<=1500)(h0:∀x∈a,0<=x)(Bk:answers_asked a=true)(hx:qy K H0 xs [WData.list (a.map WData.int)]):
  ph K (Ts.map fun t=>(t.2,vz)) xs H (fun v H'=>Dw K H' v (WData.list ((answers a).map WData.int))) fun _ _ _=>False:=by
 cases hx with
 |cons h1 h2=>
  cases h2;cases h1 with
  |lst hs ha=>
   have e:=Ob a _ ha;subst e;obtain⟨ns,rfl⟩:=UZ a h0;obtain⟨cJ,heq⟩:=Ni Bk;have el:(vI ns).length=ns.length:=List.length_map ..;rw[Yv]at hs;have hsh:(answers (vI ns)).length<=10000000:=by
    unfold answers_asked at Bk;split at Bk
    ·cases Bk
    rw[Bool.and_eq_true]at Bk;exact of_decide_eq_true Bk.2
   rw[heq]at hsh;refine⟨_,ns,rfl,?_,fun x hx=>?_,by rw[<- el];exact hlen,cJ,hsh,fun z H' hz=>?_⟩
   ·rcases hs with(q|⟨o,q⟩)|q
    ·rcases hO _ with z|⟨o,u,z⟩
     ·rw[q]at z;cases z
     rw[q]at z;cases z
    ·exact .inl ⟨o,DR _ _ q⟩
    exact .inr (.inr q)
   ·obtain⟨t,ht,rfl⟩:=List.mem_map.mp hx;exact uN.none (hT t ht)
   rw[heq];exact .lst (aG.of hz) (Oa _)
end Al
open PySem PySem.W PyProof.Rows
set_option maxRecDepth 100000 in
set_option maxHeartbeats 0 in
theorem PySem.Challenge.cw_albumwhole_s01_answers_holds : PySem.Challenge.rw_albumwhole_s01_answers.Holds := by
 refine Hd.head ⟨[.list [.int 0]],by decide +kernel,by decide +kernel⟩ ?_
 k_fillS
 refine Al.Jl (r:=PySem.Challenge.rw_albumwhole_s01_answers) (K:=Hd.K) (k:=11) (ps:=["calls"]) ((recsOf _).filter fun x=>(["answer_boxjust","answer_boxatleast","answer_boxswapped","answer_justkinds"]:List Str).contains x.name) (sp:=fun K Ts=>Al.ph K (Ts.map fun t=>(t.2,Al.vz))) Hd.Mj Hd.Y5 rfl ⟨rfl,by decide,by decide⟩ (fun x hx=>(List.mem_filter.mp hx).1) ?Od (fun w h Y=>Y) ?F ?S
 case S=>
  intro K Ts H0 H xs a hO DR hT T2 Bk hx;have q:((Codec.inLen 0 1500 a.1&&a.1.all (Codec.inInt 0 4294967295))&&true)=true:=T2;rw[Bool.and_eq_true,Bool.and_eq_true]at q;exact Al.Oh a.1 hO DR hT (Codec.inNat_iff.mp q.1.1).2 (fun x hx=>(Codec.inInt_iff.mp (List.all_eq_true.mp q.1.2 x hx)).1) Bk hx
 case Od=>exact fun w=>rfl
 case F=>
  intro w mg fa h Ts Y KX G Rf VZ hP;rw[Hd.R3]at Rf;have hP2:=Al.JD (l':=(["answer_boxjust","answer_boxatleast","answer_boxswapped","answer_justkinds"]:List Str)) (Al.u1 hP) (by decide +kernel);have hC:=mg_of (n:="Album") KX G (by k_is);have X:=Al.V0 KX G hC;have N:Al.eV mg:=by constructor <;> exact Al.dJ KX G
  have dR:=mg_of (n:="HOLDING_CALLS") KX G (by k_is);have eX:=Al.jh (P:=Hd.tE.prog) (w:=w) KX dR;have dE:=mg_of (n:="SWAPPING_CALLS") KX G (by k_is);have eI:=Al.jh (P:=Hd.tE.prog) (w:=w) KX dE;have dS:=mg_of (n:="WAITING_CALLS") KX G (by k_is);have eY:=Al.jh (P:=Hd.tE.prog) (w:=w) KX dS;have eS:=mg_of (n:="ALIKE_CALLS") KX G (by k_is);have gf:=Al.jh (P:=Hd.tE.prog) (w:=w) KX eS;have c5:=mg_of (n:="MANYKINDS_CALLS") KX G (by k_is);have d9:=Al.jh (P:=Hd.tE.prog) (w:=w) KX c5;have gg:=mg_of (n:="URN_CALLS") KX G (by k_is);have iw:=Al.jh (P:=Hd.tE.prog) (w:=w) KX gg;have gh:=mg_of (n:="BOX_CALLS") KX G (by k_is);have iy:=Al.jh (P:=Hd.tE.prog) (w:=w) KX gh;have Oi:=mg_of (n:="ARGUMENT_COUNTS") KX G (by k_is);have hd:=Al.RZ (l:=Al.arity) KX Oi
  refine' Al.all_mk (A:=fun i=>Al.Fv _ [_,_,_,_,_,_,_,_,_,_,_,_,_,_,_,_,_,_,_,_,_,_,_,_,_,_,_,_,_,_,_,_,_,_,_,_,_,_,_,_,_,_,_,_,_,_,_,_,_,_,_,_,_,_,_,_,_,_,_,_,_,_,_,_,_,_,_,_,_,_,_,_,_,_,_,_,_,_,_,_,_,_,_,_,_,_,_,_,_,_,_,_,_,_,_,_,_,_,_,_,_,_,_,_,_,_,_,_,_,_,_,_,_,_,_,_,_,_,_,_,_,_,_,_,_,_,_,_,_,_,_,_,_,_,_,_,_,_,_,_,_,_,_,_,_,_,_,_,_,_,_,_,_,_,_] i) (D:=fun i=>Al.Fv _ [_,_,_,_,_,_,_,_,_,_,_,_,_,_,_,_,_,_,_,_,_,_,_,_,_,_,_,_,_,_,_,_,_,_,_,_,_,_,_,_,_,_,_,_,_,_,_,_,_,_,_,_,_,_,_,_,_,_,_,_,_,_,_,_,_,_,_,_,_,_,_,_,_,_,_,_,_,_,_,_,_,_,_,_,_,_,_,_,_,_,_,_,_,_,_,_,_,_,_,_,_,_,_,_,_,_,_,_,_,_,_,_,_,_,_,_,_,_,_,_,_,_,_,_,_,_,_,_,_,_,_,_,_,_,_,_,_,_,_,_,_,_,_,_,_,_,_,_,_,_,_,_,_,_,_] i) (E:=fun i=>Al.Fv _ [_,_,_,_,_,_,_] i) KX Rf VZ hP2 ⟨X,N,by k_is,by k_is,?_,?_,?_,?_,?_,?_,?_,?_,?_,?_,?_,?_,?_,?_,?_,?_,?_,?_,?_,?_,?_,?_,?_,?_,?_,?_,?_,?_,?_,?_,?_,?_,?_,?_,?_,?_,?_,?_,?_,?_,?_,?_,?_,?_,?_,?_,?_,?_,?_,?_,?_,?_,?_,?_,?_,?_,?_,?_,?_,?_,?_,?_,?_,?_,?_,?_,?_,?_,?_,?_,?_,?_,?_,?_,?_,?_,?_,?_,?_,?_,?_,?_,?_,?_,?_,?_,?_,?_,?_,?_,?_,?_,?_,?_,?_,?_,?_,?_,?_,?_,?_,?_,?_,?_,?_,?_,?_,?_,?_,?_,?_,?_,?_,?_,?_,?_,?_,?_,?_,?_,?_,?_,?_,?_,?_,?_,?_,?_,?_,?_,?_,?_,?_,?_,?_,?_,?_,?_,?_,?_,?_,?_,?_,?_,?_,?_,?_,?_,?_,?_,?_,?_,?_,?_,?_,?_,dR,eX,dE,eI,dS,eY,eS,gf,c5,d9,gg,iw,gh,iy,Oi,hd⟩
  all_goals first|exact Al.RY (Al.RX KX G (by k_is) (by k_is) (by k_is) (by k_is)) (by rfl) (by rfl)|exact Al.Og (Al.K8 KX hC (by k_is) (by k_is) (by k_is) (by k_is) (by k_is)) (by rfl) (by rfl)|skip
