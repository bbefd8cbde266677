import PyProof.Rows.All
import Wide.All
import OpenK.AllK
import Wide.FinOn
import Lean
import PyProof.EqAt
import PyProof.EqKinds
import PyProof.TupleCall
import PyProof.NeData
import PyProof.P3In
import PyProof.FactsAll.set
import PyProof.CollectWalk
import PyProof.FactsAll.range
import PyProof.MinMaxWalk
import KE.KMinKey
import PyProof.WalkInts
import PyProof.Rows.CallKwBuiltin
import KE.KSortTup
import PyProof.Rows.Range3
import PyProof.ListRange
import PyProof.DictRoadsH
import KE.KDictList
import PyProof.Rows.SortKeyStr
import PyProof.DictCompW
import PyProof.DictWalks
import PyProof.Rows.CompDC
import PyProof.SumAny
import PyProof.TupleOfGen
import PyProof.CollectIter
import PySem.Challenge.RW_twinmoulds_k03_whole_lives_where_no_faul
set_option bootstrap.genMatcherCode false
set_option genInjectivity false
set_option genSizeOfSpec false
set_option Elab.async false
set_option linter.all false
set_option maxRecDepth 100000
set_option maxHeartbeats 4000000
local macro_rules | `(tactic| omega) => `(tactic| lia)
open PySem.W (Frag)
namespace L2
open PySem PySem.Spec PyProof.Rows
noncomputable abbrev Key:=Sum Int Str
noncomputable def xQ:Key->Value->Bool
 | .inl k,v=>Value.isInt k v
 | .inr x,v=>Value.isStrOf x v
noncomputable def PL (w:World):Key->Int
 | .inl k=>hashInt k
 | .inr x=>hashStr w x
theorem jt:∀{k:Key} {v:Value},xQ k v=true->(∃i t,k=Sum.inl i/\v=Value.int i t)\/(∃x t,k=Sum.inr x/\v=Value.str x t)
 | .inl i,v,h=>by
  obtain⟨t,e⟩:=Value.isInt_shape (k:=i) (v:=v) h
  exact .inl ⟨i,t,rfl,e⟩
 | .inr x,v,h=>by
  obtain⟨t,e⟩:=Value.isStrOf_shape (x:=x) (v:=v) h
  exact .inr ⟨x,t,rfl,e⟩
theorem M3 (a b:Int):decide ((Sum.inl a:Key)=Sum.inl b)=(a==b):=by
 by_cases e:a=b
 ·subst e;simp
 ·have h:¬ (Sum.inl a:Key)=Sum.inl b:=λq=>e (Sum.inl.inj q)
  rw[decide_eq_false h]
  exact(beq_eq_false_iff_ne.mpr e).symm
theorem M4 (a b:Str):decide ((Sum.inr a:Key)=Sum.inr b)=decide (a=b):=by
 by_cases e:a=b
 ·subst e;simp
 ·have h:¬ (Sum.inr a:Key)=Sum.inr b:=λq=>e (Sum.inr.inj q)
  rw[decide_eq_false h,decide_eq_false e]
theorem M5 (a:Int) (b:Str):decide ((Sum.inl a:Key)=Sum.inr b)=false:=decide_eq_false (λq=>nomatch q)
theorem M6 (a:Str) (b:Int):decide ((Sum.inr a:Key)=Sum.inl b)=false:=decide_eq_false (λq=>nomatch q)
noncomputable def tj (prog:Program) (w:World):PySem.KeyKind prog w Key where
 is:=xQ
 hash:=PL w
 inj:=λv a b ha hb=>by
  rcases jt ha with ⟨i,t,rfl,rfl⟩ | ⟨x,t,rfl,rfl⟩
  ·rcases jt hb with ⟨j,u,rfl,e⟩ | ⟨y,u,rfl,e⟩
   ·injection e with e1 _;rw[e1]
   ·exact nomatch e
  ·rcases jt hb with ⟨j,u,rfl,e⟩ | ⟨y,u,rfl,e⟩
   ·exact nomatch e
   ·injection e with e1 _;rw[e1]
 byValue:=λk v h=>by
  rcases jt h with ⟨i,t,rfl,rfl⟩ | ⟨x,t,rfl,rfl⟩<;>rfl
 pyHash:=λhv h=>by
  rcases jt hv with ⟨i,t,rfl,rfl⟩ | ⟨x,t,rfl,rfl⟩
  ·exact wpAny_pyHash_int h
  ·exact wpAny_pyHash_str h
 eqBool:=λhu hv h=>by
  rcases jt hu with ⟨i,t,rfl,rfl⟩ | ⟨x,t,rfl,rfl⟩
  ·rcases jt hv with ⟨j,u,rfl,rfl⟩ | ⟨y,u,rfl,rfl⟩
   ·rw[M3] at h;exact wpAny_eqBool_int h
   ·rw[M5] at h;exact SeqAt.EqAt.int_str i t y u _ _ _ _ h
  ·rcases jt hv with ⟨j,u,rfl,rfl⟩ | ⟨y,u,rfl,rfl⟩
   ·rw[M6] at h;exact SeqAt.EqAt.str_int x t j u _ _ _ _ h
   ·rw[M4] at h;exact wpAny_eqBool_str h
 «strs»:=λk x t v h=>by
  rcases jt h with ⟨i,u,rfl,e⟩ | ⟨y,u,rfl,e⟩
  ·exact nomatch e
  ·injection e with e1 _
   subst e1
   cases v<;>rfl
end L2
namespace L2
open PySem PySem.Spec PyProof.Rows
set_option genInjectivity true in
inductive V where
 |aB|bl (b:Bool)|int (i:Int)|str (x:Str)|ij (b:Array UInt8)|qQ (b:UInt64)|ref (a:Addr)|ty (n:String)
 deriving DecidableEq
noncomputable def RelV:V->Value->Prop
 | .aB,u=>u=Value.none
 | .bl b,u=>u=Value.bool b
 | .int i,u=>∃t,u=Value.int i t
 | .str x,u=>∃t,u=Value.str x t
 | .ij b,u=>∃t,u=Value.bytes b t
 | .qQ b,u=>∃t,u=Value.float b t
 | .ref a,u=>u=Value.ref a
 | .ty n,u=>u=Value.type n
noncomputable abbrev Vals:List V->List Value->Prop:=Paired RelV
theorem Vals.length {xs:List V} {us:List Value} (r:Vals xs us):xs.length=us.length:=Paired.length r
theorem Vals.get:∀{xs:List V} {us:List Value} {i:Nat} {x:V},Vals xs us->xs[i]?=some x->∃u,us[i]?=some u/\RelV x u
 |_,_,_,_,.nil,e=>by simp at e
 |_,_,0,_,.cons r _,e=>by simp at e;subst e;exact⟨_,rfl,r⟩
 |_,_,i+1,x,.cons _ t,e=>by
  obtain⟨u,h1,h2⟩:=Vals.get (i:=i) (x:=x) t (by simpa using e)
  exact⟨u,by simpa using h1,h2⟩
theorem Vals.set {x:V} {u:Value} (r:RelV x u):∀{xs:List V} {us:List Value} (i:Nat),Vals xs us->Vals (xs.set i x) (us.set i u)
 |_,_,_,.nil=>.nil
 |_,_,0,.cons _ t=>.cons r t
 |_,_,i+1,.cons q t=>.cons q (Vals.set r i t)
theorem Vals.append:∀{xs ys:List V} {us ws:List Value},Vals xs us->Vals ys ws->Vals (xs++ys) (us++ws)
 |_,_,_,_,.nil,s=>s
 |_,_,_,_,.cons r t,s=>.cons r (Vals.append t s)
theorem Vals.take:∀{xs:List V} {us:List Value} (n:Nat),Vals xs us->Vals (xs.take n) (us.take n)
 |_,_,0,_=>.nil
 |_,_,_ + 1,.nil=>.nil
 |_,_,n+1,.cons r t=>.cons r (Vals.take n t)
theorem Vals.drop:∀{xs:List V} {us:List Value} (n:Nat),Vals xs us->Vals (xs.drop n) (us.drop n)
 |_,_,0,r=>r
 |_,_,_ + 1,.nil=>.nil
 |_,_,n+1,.cons _ t=>Vals.drop n t
noncomputable def FF:Option V->Option Value->Prop
 |some v,some u=>RelV v u
 |none,none=>True
 |_,_=>False
noncomputable def KV {κ:Type}:List (κ×V)->List (κ×Value)->Prop:=Paired λ(p:κ×V) (q:κ×Value)=>p.1=q.1/\RelV p.2 q.2
noncomputable def kV:Key->V
 | .inl i=>.int i
 | .inr x=>.str x
inductive HO where
 |lst (xs:List V)
 |tup (xs:List V)
 |dK (ao:List (Key×V))|dT (ao:List (List Key×V))
 |set (S:Int->Bool) (n:Nat)
 |ins (C dx:Addr) (fs:List (Str×V))
 |own (x:Addr)
 |xd (fs:List (Str×V))
 |met (f x:Addr)
 |bR (lo hi:Int)
 |cH (o:Obj) (u:HO)
 |mU (ps:Array Value)
 |ext (φ:Heap->Prop)
noncomputable abbrev Hp:=Addr->Option HO
noncomputable def upd (H:Hp) (a:Addr) (o:HO):Hp:=λb=>if b=a then some o else H b
theorem dU {H:Hp} {a:Addr} {o:HO}:upd H a o a=some o:=by unfold upd;rw[if_pos rfl]
theorem bx {H:Hp} {a b:Addr} {o:HO} (h:b≠a):upd H a o b=H b:=by unfold upd;rw[if_neg h]
theorem dJ {H:Hp} {a b:Addr} {o:HO} (h:H a=some o) (h':H b=none):a≠b:=by
 intro e;subst e;rw[h] at h';cases h'
section
variable (P:Program) (w:World)
noncomputable def dC (H:Hp) (h:Heap) (a:Addr):HO->Prop
 | .lst xs=>xs.length<=sizeLine/\∃(its:List Value) (n:Nat),Vals xs its/\h.get? a=some { cls:=.type "list",data:=.seq its.toArray n }
 | .tup xs=>xs.length<=sizeLine/\∃its:List Value,Vals xs its/\IsTup h a its.toArray
 | .dK ao=>ao.length<=sizeLine/\(a==sysModules)=false/\∃vs,KV ao vs/\h.DictOf (tj P w) a vs
 | .dT ao=>ao.length<=sizeLine/\(a==sysModules)=false/\∃xs:List (List Key×Addr×Value),
   Paired (λ(p:List Key×V) (q:List Key×Addr×Value)=>p.1=q.1/\H q.2.1=some (.tup (p.1.map kV))/\RelV p.2 q.2.2) ao xs /\
   ∃o es ep,h.get? a=some o/\o.ExactDict/\o.data=.dict es ep/\es.toList=xs.map (entryOfKey (tupleKind (tj P w)))/\(xs.map (·.1)).Nodup
 | .set S n=>h.SetOf (intKind P w) a S n
 | .ins C dx fs=>H dx=some (.own a)/\fs.length<=1000/\dx≠a/\h.get? a=some (PySem.W.instObj C dx) /\
   ∃mA,h.Ns1 dx mA/\(∀f,FF (fs.lookup f) (mA f))/\PySem.Within mA (fs.map (·.1))
 | .own _=>∃o,h.get? a=some o
 | .xd fs=>∃mA,h.Ns1 a mA/\∀f,FF (fs.lookup f) (mA f)
 | .bR lo hi=>∃t u v,h.get? a=some { cls:=.type "range",data:=.fields #[.int lo t,.int hi u,.int 1 v] }
 | .cH o u=>h.get? a=some o/\dC H h a u
 | .mU ps=>h.get? a=some { cls:=.none,data:=.fields ps }
 | .met f x=>h.get? a=some (PySem.W.methodObj (.ref f) (.ref x))
 | .ext φ=>φ h/\(∃o,h.get? a=some o)/\∀h1 h2:Heap,φ h1->(∀o,h1.get? a=some o->h2.get? a=some o)->φ h2
def cb (H:Hp) (h:Heap):Prop:=∀a o,H a=some o->dC P w H h a o
end
section
variable {P:Program} {w:World} {H H':Hp} {h h':Heap} {a:Addr} {o:HO}
theorem dC.lt (x:dC P w H h a o):a<h.objs.size:=by
 cases o with
 |lst xs=>obtain⟨_,_,_,_,e⟩:=x;exact Heap.lt_size e
 |tup xs=>obtain⟨_,_,_,p⟩:=x;exact p.lt
 |dK ao=>obtain⟨_,_,_,_,o,_,_,e,_⟩:=x;exact Heap.lt_size e
 |dT ao=>obtain⟨_,_,_,_,o,_,_,e,_⟩:=x;exact Heap.lt_size e
 |set S n=>obtain⟨o,_,_,_,e,_⟩:=x;exact Heap.lt_size e
 |ins C dx fs=>obtain⟨_,_,_,e,_⟩:=x;exact Heap.lt_size e
 |own y=>obtain⟨_,e⟩:=x;exact Heap.lt_size e
 |xd fs=>obtain⟨_,⟨_,_,_,e,_⟩,_⟩:=x;exact Heap.lt_size e
 |bR lo hi=>obtain⟨_,_,_,e⟩:=x;exact Heap.lt_size e
 |cH ob u=>obtain⟨e,_⟩:=x;exact Heap.lt_size e
 |mU ps=>exact Heap.lt_size (show h.get? a=some _ from x)
 |met f y=>exact Heap.lt_size (show h.get? a=some _ from x)
 |ext φ=>obtain⟨_,⟨_,e⟩,_⟩:=x;exact Heap.lt_size e
theorem Paired.FG {α β:Type} {F G:α->β->Prop}:∀{FH:List α} {FI:List β},Paired F FH FI->(∀a b,F a b->G a b)->Paired G FH FI
 |_,_,.nil,_=>.nil
 |_,_,.cons r t,f=>.cons (f _ _ r) (Paired.FG t f)
theorem dC.fS (x:dC P w H h a o) (k:∀b u,(b=a\/H b=some (.own a))->h.get? b=some u->h'.get? b=some u)
  (ho:∀b,H b=some (.own a)->H' b=some (.own a)) (ht:∀b xs,H b=some (.tup xs)->H' b=some (.tup xs)):dC P w H' h' a o:=by
 induction o with
 |lst xs=>obtain⟨z,its,n,r,e⟩:=x;exact⟨z,its,n,r,k _ _ (.inl rfl) e⟩
 |tup xs=>obtain⟨z,its,r,ob,e,c⟩:=x;exact⟨z,its,r,ob,k _ _ (.inl rfl) e,c⟩
 |dK ao=>obtain⟨z,y,vs,r,ob,es,ep,e,c⟩:=x;exact⟨z,y,vs,r,ob,es,ep,k _ _ (.inl rfl) e,c⟩
 |dT ao =>
  obtain⟨z,y,xs,r,ob,es,ep,e,c⟩:=x
  exact⟨z,y,xs,Paired.FG r λp q z=>⟨z.1,ht _ _ z.2.1,z.2.2⟩,ob,es,ep,k _ _ (.inl rfl) e,c⟩
 |set S n=>obtain⟨ob,es,ep,t,e,c⟩:=x;exact⟨ob,es,ep,t,k _ _ (.inl rfl) e,c⟩
 |ins C dx fs =>
  obtain⟨d,z,ne,e,mA,⟨od,es,ep,e2,c⟩,r⟩:=x
  exact⟨ho _ d,z,ne,k _ _ (.inl rfl) e,mA,⟨od,es,ep,k _ _ (.inr d) e2,c⟩,r⟩
 |own y=>obtain⟨ob,e⟩:=x;exact⟨ob,k _ _ (.inl rfl) e⟩
 |xd fs=>obtain⟨mA,⟨od,es,ep,e,c⟩,r⟩:=x;exact⟨mA,⟨od,es,ep,k _ _ (.inl rfl) e,c⟩,r⟩
 |bR lo hi=>obtain⟨t,u,v,e⟩:=x;exact⟨t,u,v,k _ _ (.inl rfl) e⟩
 |cH ob u ih=>obtain⟨e,q⟩:=x;exact⟨k _ _ (.inl rfl) e,ih q⟩
 |mU ps =>
  have e:h.get? a=some { cls:=.none,data:=.fields ps }:=x
  show h'.get? a=some { cls:=.none,data:=.fields ps }
  exact k a _ (.inl rfl) e
 |met f y =>
  have e:h.get? a=some (PySem.W.methodObj (.ref f) (.ref y)):=x
  show h'.get? a=some (PySem.W.methodObj (.ref f) (.ref y))
  exact k a _ (.inl rfl) e
 |ext φ=>obtain⟨p,⟨o,e⟩,st⟩:=x;exact⟨st _ _ p λo q=>k _ _ (.inl rfl) q,⟨o,k _ _ (.inl rfl) e⟩,st⟩
theorem cb.lt (x:cb P w H h) (e:H a=some o):a<h.objs.size:=(x a o e).lt
theorem cb.fresh (x:cb P w H h) (e:h.objs.size<=a):H a=none:=by
 cases q:H a with
 |none=>rfl
 |some u=>exact absurd (Nat.lt_of_lt_of_le (x.lt q) e) (Nat.lt_irrefl _)
theorem cb.kept (x:cb P w H h) (k:∀b u,h.get? b=some u->h'.get? b=some u):cb P w H h':=λa o e =>
 (x a o e).fS (λb u _ q=>k b u q) (λ_ q=>q) λ_ _ q=>q
theorem cb.laid (x:cb P w H h) (k:∀b u,h.get? b=some u->h'.get? b=some u) (hp:h.objs.size<=a) (new:dC P w (upd H a o) h' a o):cb P w (upd H a o) h':=λb u e=>by
 have hn:=x.fresh hp
 by_cases hb:b=a
 ·subst hb;rw[dU] at e;cases e;exact new
 ·rw[bx hb] at e
  exact(x b u e).fS (λc v _ q=>k c v q) (λc q=>by rw[bx (dJ q hn)];exact q) λc xs q=>by rw[bx (dJ q hn)];exact q
end
def Rd (H:Hp) (a:Addr) (u:HO):Prop:=H a=some u\/∃o,H a=some (.cH o u)
theorem Rd.ok {P:Program} {w:World} {H:Hp} {h:Heap} {a:Addr} {u:HO} (r:Rd H a u) (x:cb P w H h):dC P w H h a u:=by
 rcases r with r | ⟨o,r⟩
 ·exact x a u r
 ·obtain⟨_,q⟩:=x a _ r
  exact q
noncomputable def qR:Option HO->Prop
 |some (.lst _)=>True
 |some (.dK _)=>True
 |some (.dT _)=>True
 |some (.set _ _)=>True
 |some (.ins _ _ _)=>True
 |some (.ext _)=>True
 |_=>False
section
variable {P:Program} {w:World} {H:Hp} {h h':Heap} {x e:Addr} {o':HO}
theorem cb.write (ok:cb P w H h) (mu:qR (H x)) (he:e=x\/H e=some (.own x)) (k:∀b u,b≠e->h.get? b=some u->h'.get? b=some u) (oU:∃u,h'.get? e=some u)
  (new:dC P w (upd H x o') h' x o'):cb P w (upd H x o') h':=λb u q=>by
 have FJ:∀c y,H c=some (.own y)->c≠x:=λc y r z=>by subst z;rw[r] at mu;exact mu
 have PM:∀c xs,H c=some (.tup xs)->c≠x:=λc xs r z=>by subst z;rw[r] at mu;exact mu
 by_cases hb:b=x
 ·subst hb;rw[dU] at q;cases q;exact new
 ·rw[bx hb] at q
  by_cases mV:b=e
  ·have q':H b=some (.own x):=by
    rcases he with z|z
    ·exact absurd (mV.trans z) hb
    ·rw[mV];exact z
   rw[q] at q';cases q'
   obtain⟨v,hv⟩:=oU
   exact⟨v,by rw[mV];exact hv⟩
  ·refine(ok b u q).fS (λc v hc r=>k c v ?_ r) (λc r=>by rw[bx (FJ c b r)];exact r) λc xs r=>by rw[bx (PM c xs r)];exact r
   rcases hc with rfl|hc
   ·exact mV
   ·rintro rfl
    rcases he with z|z
    ·exact FJ c b hc z
    ·rw[hc] at z;cases z;exact hb rfl
end
structure Un (fs ex:List Addr) (H H':Hp) (h h':Heap):Prop where
 keep:∀b o,h.get? b=some o->H b=none->b∉fs->b∉ex->h'.get? b=some o
 slot:∀b o,h.get? b=some o->H b=none->b∈fs->b∉ex->∃sl,h'.get? b=some { o with slots:=sl }
 free:∀b o,h.get? b=some o->H b=none->b∉ex->H' b=none
 there:∀b o,h.get? b=some o->b∉ex->∃o',h'.get? b=some o'
 iE:∀b xs,H b=some (.tup xs)->H' b=some (.tup xs)
 hU:∀b o u,H b=some (.cH o u)->H' b=some (.cH o u)
 iY:∀b ps,H b=some (.mU ps)->∃more,H' b=some (.mU (ps++more))
section
variable {fs QM ex Tr:List Addr} {H H1 H2:Hp} {h h1 h2 h':Heap} {a x e:Addr} {o:HO}
theorem Un.any (u:Un fs ex H H1 h h1) {b:Addr} {ob:Obj} (q:h.get? b=some ob) (n:H b=none) (hx:b∉ex):∃sl,h1.get? b=some { ob with slots:=sl }:=by
 by_cases hb:b∈fs
 ·exact u.slot b ob q n hb hx
 ·exact⟨ob.slots,u.keep b ob q n hb hx⟩
theorem Un.kept (k:∀b u,h.get? b=some u->h'.get? b=some u):Un fs ex H H h h' :=
 ⟨λb ob q _ _ _=>k b ob q,λb ob q _ _ _=>⟨ob.slots,k b ob q⟩,λ_ _ _ n _=>n,λb ob q _=>⟨ob,k b ob q⟩,λ_ _ q=>q,λ_ _ _ q=>q,λ_ ps q=>⟨#[],by rw[q];simp⟩⟩
theorem Un.refl:Un fs ex H H h h:=Un.kept λ_ _ q=>q
theorem Un.laid (k:∀b u,h.get? b=some u->h'.get? b=some u) (hp:h.objs.size<=a) (hn:H a=none):Un fs ex H (upd H a o) h h' where
 keep:=λb u q _ _ _=>k b u q
 slot:=λb u q _ _ _=>⟨u.slots,k b u q⟩
 free:=λb u q n _=>by rw[bx (Nat.ne_of_lt (Nat.lt_of_lt_of_le (Heap.lt_size q) hp))];exact n
 there:=λb u q _=>⟨u,k b u q⟩
 iE:=λb xs q=>by rw[bx (dJ q hn)];exact q
 hU:=λb u xs q=>by rw[bx (dJ q hn)];exact q
 iY:=λb ps q=>⟨#[],by rw[bx (dJ q hn),q];simp⟩
theorem Un.write (mu:qR (H x)) (he:e=x\/H e=some (.own x)) (k:∀b u,b≠e->h.get? b=some u->h'.get? b=some u) (oU:∃u,h'.get? e=some u):Un fs ex H (upd H x o) h h':=by
 have hx:∀b,H b=none->b≠x:=λb n z=>by subst z;rw[n] at mu;exact mu
 have hb:∀b,H b=none->b≠e:=λb n z=>by
  subst z
  rcases he with r|r
  ·exact hx b n r
  ·rw[n] at r;cases r
 have hm:∀b u,H b=some u->¬ qR (some u)->b≠x:=λb u q nm z=>by subst z;rw[q] at mu;exact nm mu
 refine⟨λb u q n _ _=>k b u (hb b n) q,λb u q n _ _=>⟨u.slots,k b u (hb b n) q⟩,λb u q n _=>by rw[bx (hx b n)];exact n,λb u q _=>?_,
  λb xs q=>by rw[bx (hm b _ q λz=>z)];exact q,λb u xs q=>by rw[bx (hm b _ q λz=>z)];exact q,λb ps q=>⟨#[],by rw[bx (hm b _ q λz=>z),q];simp⟩⟩
 by_cases mV:b=e
 ·subst mV;exact oU
 ·exact⟨u,k b u mV q⟩
end
noncomputable def uX (h:Heap) (H:Hp):List Addr:=(List.range h.objs.size).filter λa=>(H a).isSome
noncomputable def kq (h:Heap) (H:Hp):Heap:=PySem.W.hideAll h (uX h H)
theorem Jh (h:Heap) (H:Hp):(kq h H).objs.size=h.objs.size:=PySem.W.hideAll_size _ _
theorem Kl {h:Heap} {H:Hp} {b:Addr} {o:Obj} (e:h.get? b=some o) (n:H b=none):(kq h H).get? b=some o :=
 PySem.W.hideAll_get _ e λhm=>by
  have q:(H b).isSome=true:=(List.mem_filter.mp hm).2
  rw[n] at q;simp at q
theorem LA {h:Heap} {H:Hp} {b:Addr} {o:Obj} (e:(kq h H).get? b=some o):h.get? b=some o/\H b=none:=by
 have e':h.get? b=some o:=PySem.W.of_hideAll (uX h H) e
 refine⟨e',?_⟩
 cases q:H b with
 |none=>rfl
 |some x =>
  have hm:b∈uX h H:=List.mem_filter.mpr ⟨List.mem_range.mpr (Heap.lt_size e'),by simp[q]⟩
  have z:(kq h H).get? b=none:=PySem.W.hideAll_none (uX h H) hm
  rw[z] at e;cases e
noncomputable def LB (g h:Heap) (L:Addr):List (Addr×Obj):=(List.range h.objs.size).filterMap λa=>if a=L\/(g.get? a).isSome=true then none else (h.get? a).map λo=>(a,o)
noncomputable def rest (g h:Heap) (L d:Addr):List (Addr×Obj):=(LB g h L).filter λp=>decide (p.1≠d)
end L2
namespace L2
open PySem PySem.Spec PyProof.Rows
structure Mod (K:Frag) (mg:Str->Option Value) (base:Heap):Prop where
 uY:K.In base
 glob:base.Ns mainGlobals mg
 blt:∃mb,base.Ns builtinsNs mb/\∀x:Str,x≠"__name__"->mb x=bootBuiltins x
 nolimit:base.NoLimit
structure Cx where
 prog:Program
 w:World
 K:Frag
 mg:Str->Option Value
 base:Heap
 A:Around
 N:List Str
 cS:Shared
 qE:Hp
 env:Env
 outer:List Env
 stack:List Env
 ex:List Addr
 fn:Str->Bool
 calm:Bool
 pn:List (Addr×Obj)
 xe:Value->Shared->Prop
noncomputable def fZ (l:List Env):List Addr:=l.filterMap (·.frame)
noncomputable abbrev Cx.fs (X:Cx):List Addr:=fZ X.outer
def qS (sc:Scope) (x:Str):Prop:=sc.names.lookup x=some .local\/sc.names.lookup x=some .cell\/sc.names.lookup x=some .free
def Loc (sc:Scope) (x:Str):Prop:=sc.names.lookup x=some .local\/sc.names.lookup x=some .cell
def Look (env:Env) (h:Heap) (m:Str->Option Value) (x:Str) (u:Value):Prop :=
 (env.kindOf x=some .local/\m x=some u)\/((env.kindOf x=some .cell\/env.kindOf x=some .free)/\∃c,env.cells.lookup x=some c/\h.IsCell c (some u))
structure Cx.Ok (X:Cx):Prop where
 mod:Mod X.K X.mg X.base
 kind:X.env.scope.kind=.function
 glob:X.env.globals=mainGlobals
 blt:X.env.builtins=builtinsNs
 above:X.cS.heap.objs.size<=X.env.locals
 inj:∀x y c,X.env.cells.lookup x=some c->X.env.cells.lookup y=some c->x=y
 has:∀x,(X.env.kindOf x=some .cell\/X.env.kindOf x=some .free)->∃c,X.env.cells.lookup x=some c
 qT:∀x c,X.fn x=true->X.env.cells.lookup x=some c->X.cS.heap.objs.size<=c
 hd:X.calm=true->X.A.handled=none
 frames:X.A.frames=some X.stack
 uZ:X.stack=X.outer\/(X.stack=X.env::X.outer/\X.env.frame=some X.env.locals)
 Ge:∀b∈X.ex,b≠X.env.locals/\∀x c,X.env.cells.lookup x=some c->c≠b
 bs:∀b o,X.base.get? b=some o->X.cS.heap.get? b=some o/\X.qE b=none
 jc:X.base.objs.size<=X.cS.heap.objs.size
 mL:∀b o,X.base.get? b=some o->b∉X.ex
 uy:∀b∈X.ex,b∉X.fs
 iZ:X.cS.heap.FunFrames X.base X.outer
 oV:∀b∈X.fs,X.qE b=none
structure Inv (X:Cx) (pins:List (Addr×Obj)) (σ:List (Option V)) (H:Hp) (s:Shared):Prop where
 ok:X.Ok
 os:s.os=X.cS.os
 bare:AllBare s.gens
 base:Un X.fs X.ex X.qE H X.cS.heap s.heap
 loc:∃m,s.heap.Ns X.env.locals m/\∀(i:Nat) (x:Str) (v:V),X.N[i]?=some x->σ[i]?=some (some v)->qS X.env.scope x->∃u,RelV v u/\Look X.env s.heap m x u
 cell:∀x c,X.env.cells.lookup x=some c->∃v,s.heap.IsCell c v
 free:H X.env.locals=none
 eD:∀x c,X.env.cells.lookup x=some c->H c=none
 pin:∀p∈X.pn++pins,s.heap.get? p.1=some p.2/\H p.1=none/\p.1≠X.env.locals/\p.1∉X.fs/\∀v,p.2.data≠.cell v
 aJ:cb X.prog X.w H s.heap
 len:σ.length=X.N.length
section
variable {X:Cx} {pins:List (Addr×Obj)} {σ:List (Option V)} {H H':Hp} {s:Shared} {h':Heap}
theorem Cx.Ok.PN (ok:X.Ok) {b:Addr} {o:Obj} (e:X.base.get? b=some o):b∉X.fs:=λhb=>by
 have:=(ok.iZ.mem hb).1
 rw[e] at this;cases this
theorem Inv.bs (I:Inv X pins σ H s):∀b o,X.base.get? b=some o->s.heap.get? b=some o/\H b=none:=λb o e =>
 ⟨I.base.keep b o (I.ok.bs b o e).1 (I.ok.bs b o e).2 (I.ok.PN e) (I.ok.mL b o e),I.base.free b o (I.ok.bs b o e).1 (I.ok.bs b o e).2 (I.ok.mL b o e)⟩
theorem Inv.bk (I:Inv X pins σ H s):∀b o,X.base.get? b=some o->s.heap.get? b=some o:=λb o e=>(I.bs b o e).1
theorem Inv.mod (I:Inv X pins σ H s):Mod X.K X.mg X.base:=I.ok.mod
theorem Inv.oW (I:Inv X pins σ H s):X.K.In s.heap:=I.ok.mod.uY.keeps I.bk
theorem Inv.lt (I:Inv X pins σ H s):X.env.locals<s.heap.objs.size:=let ⟨_,hn,_⟩:=I.loc;hn.lt
theorem Inv.sz (I:Inv X pins σ H s):X.cS.heap.objs.size<=s.heap.objs.size:=Nat.le_trans I.ok.above (Nat.le_of_lt I.lt)
theorem Inv.qF (I:Inv X pins σ H s) {a:Addr} (h:s.heap.objs.size<=a):a∉X.fs:=λhb=>by
 obtain⟨_,o,ho,_⟩:=I.ok.iZ.mem hb
 exact absurd (Nat.lt_of_lt_of_le (Heap.lt_size ho) (Nat.le_trans I.sz h)) (Nat.lt_irrefl _)
theorem Inv.mW (I:Inv X pins σ H s):∀x c,X.env.cells.lookup x=some c->c≠X.env.locals:=λx c e z=>by
 obtain⟨v,o,ho,hd⟩:=I.cell x c e
 obtain⟨m,⟨o',es,ep,dw,fG,_⟩,_⟩:=I.loc
 rw[z,dw] at ho;cases ho;rw[fG] at hd;cases hd
theorem Inv.iZ (I:Inv X pins σ H s):s.heap.FunFrames X.base X.outer:=by
 have all:∀(l:List Env),(∀b∈fZ l,b∈X.fs)->X.cS.heap.FunFrames X.base l->s.heap.FunFrames X.base l:=by
  intro l
  induction l with
  |nil=>intro _ _;trivial
  |cons env r ih =>
   intro hs hl
   obtain⟨hk,⟨L,o,hf,hn,ho,hd⟩,hr⟩:=hl
   have hL:L∈X.fs:=hs L (by unfold fZ;rw[List.filterMap_cons,hf];exact List.mem_cons_self)
   obtain⟨sl,e⟩:=I.base.slot L o ho (I.ok.oV L hL) hL λz=>I.ok.uy L z hL
   exact⟨hk,⟨L,_,hf,hn,e,hd⟩,ih (λb hb=>hs b (by unfold fZ;rw[List.filterMap_cons,hf];exact List.mem_cons_of_mem _ hb)) hr⟩
 exact all X.outer (λ_ hb=>hb) I.ok.iZ
theorem Inv.stack (I:Inv X pins σ H s):s.heap.FunFrames X.base X.stack:=by
 rcases I.ok.uZ with e | ⟨e,hf⟩
 ·rw[e];exact I.iZ
 ·rw[e]
  obtain⟨m,hn,_⟩:=I.loc
  refine .cons (by rw[I.ok.kind];decide) hf hn ?_ I.iZ
  exact Heap.get?_none_of_le (Nat.le_trans I.ok.jc I.ok.above)
theorem Inv.kc (I:Inv X pins σ H s):∀b∈fZ X.stack,b∈X.env.locals::X.fs:=λb hb=>by
 rcases I.ok.uZ with e | ⟨e,hf⟩
 ·rw[e] at hb;exact List.mem_cons_of_mem _ hb
 ·rw[e] at hb
  unfold fZ at hb
  rw[List.filterMap_cons,hf] at hb
  exact hb
theorem Inv.wU (I:Inv X pins σ H s):∀b∈fZ X.stack,H b=none:=λb hb=>by
 rcases List.mem_cons.mp (I.kc b hb) with e|hb
 ·rw[e];exact I.free
 ·obtain⟨_,o,ho,_⟩:=I.ok.iZ.mem hb
  exact I.base.free b o ho (I.ok.oV b hb) λz=>I.ok.uy b z hb
theorem Inv.step {g':Array GenState} {t':Nat} {d':Drawn} {ch:List Addr} (I:Inv X pins σ H s)
  (jJ:∀b∈ch,(b∈X.ex\/X.cS.heap.objs.size<=b)/\b≠X.env.locals/\(∀x c,X.env.cells.lookup x=some c->c≠b)/\∀p∈X.pn++pins,p.1≠b)
  (keep:∀b o,b≠X.env.locals->b∉X.fs->b∉ch->s.heap.get? b=some o->H b=none->h'.get? b=some o)
  (slot:∀b o,b≠X.env.locals->b∈X.fs->b∉ch->s.heap.get? b=some o->H b=none->∃sl,h'.get? b=some { o with slots:=sl }) (free:∀b o,b∉ch->s.heap.get? b=some o->H b=none->H' b=none)
  (there:∀b o,b∉ch->s.heap.get? b=some o->∃o',h'.get? b=some o')
  (iE:∀b xs,H b=some (.tup xs)->H' b=some (.tup xs)) (hU:∀b o u,H b=some (.cH o u)->H' b=some (.cH o u)) (iY:∀b ps,H b=some (.mU ps)->∃more,H' b=some (.mU (ps++more)))
  (ns:∀m,s.heap.Ns X.env.locals m->h'.Ns X.env.locals m) (aJ:cb X.prog X.w H' h') (hg:AllBare g') :
  Inv X pins σ H' { s with heap:=h',gens:=g',drawn:=d',toks:=t' }:=by
 have Gf:∀b o,X.cS.heap.get? b=some o->b≠X.env.locals:=λb o e=>Nat.ne_of_lt (Nat.lt_of_lt_of_le (Heap.lt_size e) I.ok.above)
 have u0:∀b o,X.cS.heap.get? b=some o->b∉X.ex->b∉ch:=λb o e hx hb=>by
  rcases(jJ b hb).1 with z|z
  ·exact hx z
  ·exact absurd (Nat.lt_of_lt_of_le (Heap.lt_size e) z) (Nat.lt_irrefl _)
 have cellK:∀x c,X.env.cells.lookup x=some c->∀v,s.heap.IsCell c v->h'.IsCell c v:=λx c e v ⟨o,ho,hd⟩=>by
  have qU:c∉ch:=λz=>(jJ c z).2.2.1 x c e rfl
  by_cases hc:c∈X.fs
  ·obtain⟨sl,q⟩:=slot c o (I.mW x c e) hc qU ho (I.eD x c e)
   exact⟨_,q,hd⟩
  ·exact⟨o,keep c o (I.mW x c e) hc qU ho (I.eD x c e),hd⟩
 refine⟨I.ok,I.os,hg,⟨λb o e n hb hx=>?_,λb o e n hb hx=>?_,λb o e n hx=>?_,λb o e hx=>?_,λb xs e=>iE b xs (I.base.iE b xs e),λb o xs e=>hU b o xs (I.base.hU b o xs e),λb ps e=>?_⟩,?_,λx c e=>?_,?_,λx c e=>?_,λp hp=>?_,aJ,I.len⟩
 ·exact keep b o (Gf b o e) hb (u0 b o e hx) (I.base.keep b o e n hb hx) (I.base.free b o e n hx)
 ·obtain⟨sl,e1⟩:=I.base.slot b o e n hb hx
  obtain⟨QN,e2⟩:=slot b _ (Gf b o e) hb (u0 b o e hx) e1 (I.base.free b o e n hx)
  exact⟨QN,e2⟩
 ·obtain⟨o',e1⟩:=I.base.there b o e hx
  exact free b o' (u0 b o e hx) e1 (I.base.free b o e n hx)
 ·obtain⟨o',e1⟩:=I.base.there b o e hx
  exact there b o' (u0 b o e hx) e1
 ·obtain⟨m1,e1⟩:=I.base.iY b ps e
  obtain⟨m2,e2⟩:=iY b _ e1
  exact⟨m1++m2,by rw[e2,Array.append_assoc]⟩
 ·obtain⟨m,hn,hl⟩:=I.loc
  refine⟨m,ns m hn,λi x v e1 e2 e3=>?_⟩
  obtain⟨u,r,l⟩:=hl i x v e1 e2 e3
  refine⟨u,r,?_⟩
  rcases l with l | ⟨k,c,e,z⟩
  ·exact .inl l
  ·exact .inr ⟨k,c,e,cellK x c e _ z⟩
 ·obtain⟨v,z⟩:=I.cell x c e
  exact⟨v,cellK x c e v z⟩
 ·obtain⟨m,⟨o,_,_,ho,_⟩,_⟩:=I.loc
  exact free _ o (λz=>(jJ _ z).2.1 rfl) ho I.free
 ·obtain⟨v,o,ho,hd⟩:=I.cell x c e
  exact free c o (λz=>(jJ c z).2.2.1 x c e rfl) ho (I.eD x c e)
 ·obtain⟨e,n,ne,nf,d⟩:=I.pin p hp
  have qU:p.1∉ch:=λz=>(jJ p.1 z).2.2.2 p hp rfl
  exact⟨keep p.1 p.2 ne nf qU e n,free p.1 p.2 qU e n,ne,nf,d⟩
theorem Inv.un {t':Nat} (I:Inv X pins σ H s) (u:Un X.fs [] H H' s.heap h') (aJ:cb X.prog X.w H' h'):Inv X pins σ H' { s with heap:=h',toks:=t' }:=by
 obtain⟨m,⟨o,es,ep,ho,r⟩,_⟩:=id I.loc
 obtain⟨sl,hL⟩:=u.any ho I.free (by simp)
 exact I.step (g':=s.gens) (d':=s.drawn) (ch:=[]) (λ_ z=>nomatch z) (λb o _ hb _ e n=>u.keep b o e n hb (by simp)) (λb o _ hb _ e n=>u.slot b o e n hb (by simp)) (λb o _ e n=>u.free b o e n (by simp)) (λb o _ e=>u.there b o e (by simp)) u.iE u.hU u.iY (λm' hm=>by
  obtain⟨o',fH,qV,dw,r'⟩:=hm
  rw[ho] at dw;cases dw
  exact⟨_,fH,qV,hL,r'⟩) aJ I.bare
theorem Inv.call {g':Array GenState} {t':Nat} {d':Drawn} {ch:List Addr} (I:Inv X pins σ H s) (u:Un (fZ X.stack) ch H H' s.heap h') (aJ:cb X.prog X.w H' h') (hg:AllBare g')
  (jJ:∀b∈ch,(b∈X.ex\/X.cS.heap.objs.size<=b)/\b≠X.env.locals/\(∀x c,X.env.cells.lookup x=some c->c≠b)/\∀p∈X.pn++pins,p.1≠b) :
  Inv X pins σ H' { s with heap:=h',gens:=g',drawn:=d',toks:=t' }:=by
 obtain⟨m,⟨o,es,ep,ho,r⟩,_⟩:=id I.loc
 obtain⟨sl,hL⟩:=u.any ho I.free λz=>(jJ _ z).2.1 rfl
 exact I.step (ch:=ch) jJ (λb o hL hb hc e n=>u.keep b o e n (λz=>(List.mem_cons.mp (I.kc b z)).elim hL hb) hc) (λb o _ _ hc e n=>u.any e n hc) (λb o hc e n=>u.free b o e n hc) (λb o hc e=>u.there b o e hc) u.iE u.hU u.iY (λm' hm=>by
  obtain⟨o',fH,qV,dw,r'⟩:=hm
  rw[ho] at dw;cases dw
  exact⟨_,fH,qV,hL,r'⟩) aJ hg
theorem Inv.turned {t':Nat} {it:Addr} (I:Inv X pins σ H s) (k:∀b o,b≠it->s.heap.get? b=some o->h'.get? b=some o) (hn:H it=none) (hL:it≠X.env.locals)
  (h1:it∈X.ex\/X.cS.heap.objs.size<=it) (h2:∀x c,X.env.cells.lookup x=some c->c≠it) (h3:∀p∈X.pn++pins,p.1≠it):Inv X pins σ H { s with heap:=h',toks:=t' }:=by
 have Gg:∀b u,H b=some u->b≠it:=λb u e z=>by rw[z,hn] at e;cases e
 refine I.step (g':=s.gens) (d':=s.drawn) (ch:=[it]) (λb hb=>?_) (λb o _ _ hc e _=>k b o (λz=>hc (by simp[z])) e) (λb o _ _ hc e _=>⟨o.slots,k b o (λz=>hc (by simp[z])) e⟩) (λ_ _ _ _ n=>n)
  (λb o hc e=>⟨o,k b o (λz=>hc (by simp[z])) e⟩) (λ_ _ e=>e) (λ_ _ _ e=>e) (λb ps e=>⟨#[],by rw[e];simp⟩) (λm hm=>?_) (λb u e=>?_) I.bare
 ·have e:b=it:=by simpa using hb
  subst e
  exact⟨h1,hL,h2,h3⟩
 ·obtain⟨o,es,ep,ho,r⟩:=hm
  exact⟨o,es,ep,k _ o (Ne.symm hL) ho,r⟩
 ·refine(I.aJ b u e).fS (λc v hc q=>k c v ?_ q) (λ_ q=>q) λ_ _ q=>q
  rcases hc with z|z
  ·rw[z];exact Gg b u e
  ·exact Gg c _ z
theorem Inv.tok (I:Inv X pins σ H s) (t:Nat):Inv X pins σ H { s with toks:=t }:=I.un (h':=s.heap) (t':=t) Un.refl I.aJ
theorem Inv.kept {t':Nat} (I:Inv X pins σ H s) (k:∀b u,s.heap.get? b=some u->h'.get? b=some u):Inv X pins σ H { s with heap:=h',toks:=t' }:=I.un (Un.kept k) (I.aJ.kept k)
theorem Inv.laid {a:Addr} {o:HO} {t':Nat} (I:Inv X pins σ H s) (k:∀b u,s.heap.get? b=some u->h'.get? b=some u) (hp:s.heap.objs.size<=a) (new:dC X.prog X.w (upd H a o) h' a o) :
  Inv X pins σ (upd H a o) { s with heap:=h',toks:=t' }:=I.un (Un.laid k hp (I.aJ.fresh hp)) (I.aJ.laid k hp new)
theorem Inv.write {x e:Addr} {o:HO} {t':Nat} (I:Inv X pins σ H s) (mu:qR (H x)) (he:e=x\/H e=some (.own x)) (k:∀b u,b≠e->s.heap.get? b=some u->h'.get? b=some u) (oU:∃u,h'.get? e=some u)
  (new:dC X.prog X.w (upd H x o) h' x o):Inv X pins σ (upd H x o) { s with heap:=h',toks:=t' }:=I.un (Un.write mu he k oU) (I.aJ.write mu he k oU new)
theorem Inv.ka {E5:List (Addr×Obj)} (I:Inv X pins σ H s) (h:∀p∈E5,s.heap.get? p.1=some p.2/\H p.1=none/\p.1≠X.env.locals/\p.1∉X.fs/\∀v,p.2.data≠.cell v):Inv X E5 σ H s :=
 ⟨I.ok,I.os,I.bare,I.base,I.loc,I.cell,I.free,I.eD,λp hp=>(List.mem_append.mp hp).elim (λz=>I.pin p (List.mem_append_left _ z)) (h p),I.aJ,I.len⟩
theorem CB {N:List Str} (hN:N.Nodup) {i j:Nat} {x:Str} (a:N[i]?=some x) (b:N[j]?=some x):i=j:=by
 obtain⟨h1,e1⟩:=List.getElem?_eq_some_iff.mp a
 obtain⟨h2,e2⟩:=List.getElem?_eq_some_iff.mp b
 exact(List.getElem_inj hN).mp (e1.trans e2.symm)
theorem Ji {M:Model} {A:Around} {E:Value->Shared->Prop} {i:Nat} {x:Str} {v:V} {u:Value} {Q:Unit->Shared->Prop} (I:Inv X pins σ H s) (hN:X.N.Nodup) (hi:X.N[i]?=some x) (hx:Loc X.env.scope x) (r:RelV v u)
  (h:∀s',Inv X pins (σ.set i (some v)) H s'->(∃a,Heap.SameBut a s.heap s'.heap/\(a=X.env.locals\/X.env.cells.lookup x=some a))->Q () s') (hf:X.fn x=true\/X.env.scope.names.lookup x=some .local:=by first|exact .inl rfl|exact .inr rfl|assumption):wpAny M A (storeName X.env x u) Q E s:=by
 obtain⟨m,hn,hl⟩:=id I.loc
 have PQ:(X.env.scope.kind==.class||(X.env.scope.kind==.module&&X.env.locals != X.env.globals))=false:=by rw[I.ok.kind];rfl
 have FK:i < σ.length:=by rw[I.len];exact(List.getElem?_eq_some_iff.mp hi).1
 have mW:=I.mW
 have tracked:∀{a:Addr} {h':Heap},(∃o,s.heap.get? a=some o/\H a=none)->Heap.SameBut a s.heap h'->cb X.prog X.w H h':=λ{a h'} ha hs b ob e=>by
  obtain⟨_,_,E6⟩:=ha
  refine(I.aJ b ob e).fS (λc w' hc q=>(hs.2 c ?_).trans q) (λ_ q=>q) λ_ _ q=>q
  rintro rfl
  rcases hc with rfl|hc
  ·rw[E6] at e;cases e
  ·rw[E6] at hc;cases hc
 rcases hx with hk|hk
 ·refine wpAny_storeName_local hk hn (λh' Gh hs=>?_) PQ
  obtain⟨oL,_,_,qW,_⟩:=id hn
  refine h _ ⟨I.ok,I.os,I.bare,⟨λb o e n hb hx=>?_,λb o e n hb hx=>?_,I.base.free,λb o e hx=>?_,I.base.iE,I.base.hU,I.base.iY⟩,⟨_,Gh,λj y v' e1 e2 e3=>?_⟩,λy c e=>?_,I.free,I.eD,λp hp=>?_,tracked ⟨oL,qW,I.free⟩ hs,by simpa using I.len⟩ ⟨_,hs,.inl rfl⟩
  ·exact(hs.2 b (Nat.ne_of_lt (Nat.lt_of_lt_of_le (Heap.lt_size e) I.ok.above))).trans (I.base.keep b o e n hb hx)
  ·obtain⟨sl,e1⟩:=I.base.slot b o e n hb hx
   exact⟨sl,(hs.2 b (Nat.ne_of_lt (Nat.lt_of_lt_of_le (Heap.lt_size e) I.ok.above))).trans e1⟩
  ·obtain⟨o',e1⟩:=I.base.there b o e hx
   exact⟨o',(hs.2 b (Nat.ne_of_lt (Nat.lt_of_lt_of_le (Heap.lt_size e) I.ok.above))).trans e1⟩
  ·by_cases hj:j=i
   ·subst hj
    rw[hi] at e1;cases e1
    rw[List.getElem?_set_self FK] at e2
    cases e2
    exact⟨u,r,.inl ⟨hk,by simp⟩⟩
   ·rw[List.getElem?_set_ne (Ne.symm hj)] at e2
    obtain⟨u',r',q⟩:=hl j y v' e1 e2 e3
    refine⟨u',r',?_⟩
    rcases q with ⟨k,e⟩ | ⟨k,c,e,z⟩
    ·refine .inl ⟨k,?_⟩
     have:y≠x:=λe=>hj (CB hN e1 (e ▸ hi))
     simp[this,e]
    ·exact .inr ⟨k,c,e,z.sameBut hs (mW y c e)⟩
  ·obtain⟨w',z⟩:=I.cell y c e
   exact⟨w',z.sameBut hs (mW y c e)⟩
  ·obtain⟨e,n,ne,nf,d⟩:=I.pin p hp
   exact⟨(hs.2 p.1 ne).trans e,n,ne,nf,d⟩
 ·have yY:X.fn x=true:=by
   rcases hf with z|z
   ·exact z
   ·rw[z] at hk;cases hk
  obtain⟨c,hc⟩:=I.ok.has x (.inl hk)
  obtain⟨w',z⟩:=I.cell x c hc
  refine wpAny_storeName_cell I.ok.kind hk hc z (λh' jK hs=>?_)
  obtain⟨oc,Gi,PR⟩:=id z
  refine h { s with heap:=h' } ⟨I.ok,I.os,I.bare,⟨λb o e n hb hx=>?_,λb o e n hb hx=>?_,I.base.free,λb o e hx=>?_,I.base.iE,I.base.hU,I.base.iY⟩,⟨m,hn.sameBut hs (Ne.symm (mW x c hc)),λj y v' e1 e2 e3=>?_⟩,λy c' e=>?_,I.free,I.eD,λp hp=>?_,tracked ⟨oc,Gi,I.eD x c hc⟩ hs,by simpa using I.len⟩ ⟨c,hs,.inr hc⟩
  ·exact(hs.2 b (Nat.ne_of_lt (Nat.lt_of_lt_of_le (Heap.lt_size e) (I.ok.qT x c yY hc)))).trans (I.base.keep b o e n hb hx)
  ·obtain⟨sl,e1⟩:=I.base.slot b o e n hb hx
   exact⟨sl,(hs.2 b (Nat.ne_of_lt (Nat.lt_of_lt_of_le (Heap.lt_size e) (I.ok.qT x c yY hc)))).trans e1⟩
  ·obtain⟨o',e1⟩:=I.base.there b o e hx
   exact⟨o',(hs.2 b (Nat.ne_of_lt (Nat.lt_of_lt_of_le (Heap.lt_size e) (I.ok.qT x c yY hc)))).trans e1⟩
  ·by_cases hj:j=i
   ·subst hj
    rw[hi] at e1;cases e1
    rw[List.getElem?_set_self FK] at e2
    cases e2
    exact⟨u,r,.inr ⟨.inl hk,c,hc,jK⟩⟩
   ·rw[List.getElem?_set_ne (Ne.symm hj)] at e2
    obtain⟨u',r',q⟩:=hl j y v' e1 e2 e3
    refine⟨u',r',?_⟩
    rcases q with q | ⟨k,c',e,z'⟩
    ·exact .inl q
    ·refine .inr ⟨k,c',e,z'.sameBut hs ?_⟩
     rintro rfl
     exact hj (CB hN e1 (I.ok.inj _ _ _ e hc ▸ hi))
  ·by_cases Gj:c'=c
   ·subst Gj;exact⟨_,jK⟩
   ·obtain⟨w2,z2⟩:=I.cell y c' e
    exact⟨w2,z2.sameBut hs Gj⟩
  ·obtain⟨e,n,ne,nf,d⟩:=I.pin p hp
   refine⟨(hs.2 p.1 ?_).trans e,n,ne,nf,d⟩
   intro q
   rw[q,Gi] at e
   have q':oc=p.2:=Option.some.inj e
   exact d w' (by rw[<- q'];exact PR)
theorem kP {M:Model} {A:Around} {E:Value->Shared->Prop} {i:Nat} {x:Str} {v:V} {u:Value} {Q:Unit->Shared->Prop} (I:Inv X pins σ H s) (hN:X.N.Nodup) (hi:X.N[i]?=some x) (hx:Loc X.env.scope x) (r:RelV v u)
  (h:∀s',Inv X pins (σ.set i (some v)) H s'->Q () s') (hf:X.fn x=true\/X.env.scope.names.lookup x=some .local:=by first|exact .inl rfl|exact .inr rfl|assumption):wpAny M A (storeName X.env x u) Q E s :=
 Ji I hN hi hx r (λs' I' _=>h s' I') hf
theorem Inv.xR {s':Shared} {ch:List Addr} (I:Inv X pins σ H s) (ho:s'.os=s.os) (u:Un (fZ X.stack) ch H H' s.heap s'.heap) (aJ:cb X.prog X.w H' s'.heap) (hg:AllBare s'.gens)
  (jJ:∀b∈ch,(b∈X.ex\/X.cS.heap.objs.size<=b)/\b≠X.env.locals/\(∀x c,X.env.cells.lookup x=some c->c≠b)/\∀p∈X.pn++pins,p.1≠b):Inv X pins σ H' s':=by
 obtain⟨h',g',d',t',o'⟩:=s'
 have e:o'=s.os:=ho
 subst e
 exact I.call (g':=g') (t':=t') (d':=d') u aJ hg jJ
end
noncomputable abbrev XK:=Value->Option Addr->Hp->Prop
noncomputable abbrev St:=List (Option V)
noncomputable abbrev VK:=V->Hp->Prop
noncomputable abbrev TE:=St->Hp->VK->Prop
noncomputable abbrev TT:=St->Hp->(Bool->Hp->Prop)->Prop
noncomputable abbrev TA:=St->Hp->(List V->Hp->Prop)->Prop
structure Ends where
 nx:St->Hp->Prop
 rt:VK
 bk:St->Hp->Prop:=λ_ _=>False
 ct:St->Hp->Prop:=λ_ _=>False
noncomputable abbrev TS:=Ends->St->Hp->Prop
def EP (X:Cx) (pins:List (Addr×Obj)) (σ:St) (Q:VK) (u:Value) (s':Shared):Prop:=∃v H',Inv X pins σ H' s'/\RelV v u/\Q v H'
def TP (X:Cx) (pins:List (Addr×Obj)) (σ:St) (Q:Bool->Hp->Prop) (b:Bool) (s':Shared):Prop:=∃H',Inv X pins σ H' s'/\Q b H'
def AP (X:Cx) (pins:List (Addr×Obj)) (σ:St) (Q:List V->Hp->Prop) (us:List Value) (s':Shared):Prop:=∃vs H',Inv X pins σ H' s'/\Vals vs us/\Q vs H'
def SP (X:Cx) (pins:List (Addr×Obj)) (D:Ends) (f:Flow) (s':Shared):Prop :=
 match f with
 | .next=>∃ aU H',Inv X pins aU H' s'/\D.nx aU H'
 | .brk=>∃ aU H',Inv X pins aU H' s'/\D.bk aU H'
 | .cont=>∃ aU H',Inv X pins aU H' s'/\D.ct aU H'
 | .ret u=>∃v aU H',Inv X pins aU H' s'/\RelV v u/\D.rt v H'
def PE (X:Cx) (e:Expr) (t:TE):Prop :=
 ∀(pins:List (Addr×Obj)) (s:Shared) (σ:St) (H:Hp) (Q:VK),Inv X pins σ H s->t σ H Q->wpAny (model X.prog X.w) X.A (eval e X.env) (EP X pins σ Q) X.xe s
def PT (X:Cx) (e:Expr) (t:TT):Prop :=
 ∀(pins:List (Addr×Obj)) (s:Shared) (σ:St) (H:Hp) (Q:Bool->Hp->Prop),Inv X pins σ H s->t σ H Q->wpAny (model X.prog X.w) X.A (isTrue e X.env (eval e X.env)) (TP X pins σ Q) X.xe s
def PW (X:Cx) (e:Expr) (t:TT):Prop :=
 ∀(whole:Sem Value) (pins:List (Addr×Obj)) (s:Shared) (σ:St) (H:Hp) (Q:Bool->Hp->Prop),Inv X pins σ H s->t σ H Q->wpAny (model X.prog X.w) X.A (isTrue e X.env whole) (TP X pins σ Q) X.xe s
theorem PW.pt {X:Cx} {e:Expr} {t:TT} (h:PW X e t):PT X e t:=h _
def PA (X:Cx) (es:List Expr) (t:TA):Prop :=
 ∀(pos:Pos) (pins:List (Addr×Obj)) (s:Shared) (σ:St) (H:Hp) (Q:List V->Hp->Prop),Inv X pins σ H s->t σ H Q->wpAny (model X.prog X.w) X.A (spliced (backTo pos (starEach es X.env))) (AP X pins σ Q) X.xe s
def PS (X:Cx) (st:Stmt) (t:TS):Prop :=
 ∀(pins:List (Addr×Obj)) (s:Shared) (σ:St) (H:Hp) (D:Ends),Inv X pins σ H s->t D σ H->wpAny (model X.prog X.w) X.A (exec st X.env) (SP X pins D) X.xe s
def dE (X:Cx) (st:List Stmt) (t:TS):Prop :=
 ∀(pins:List (Addr×Obj)) (s:Shared) (σ:St) (H:Hp) (D:Ends),Inv X pins σ H s->t D σ H->wpAny (model X.prog X.w) X.A (execs st X.env) (SP X pins D) X.xe s
theorem aK {α:Type} {t:Sem α} {Q Q':α->Shared->Prop} {M:Model} {A:Around} {E:Value->Shared->Prop} {s:Shared} (h:wpAny M A t Q E s) (hQ:∀a s,Q a s->Q' a s):wpAny M A t Q' E s:=wpAny_mono h hQ λ_ _ x=>x
end L2
namespace L2
open PySem PySem.Spec PyProof.Rows
section
variable {X:Cx}
noncomputable def PU (i:Nat):TE:=fun σ H Q=>∃v,σ[i]?=some (some v)/\Q v H
noncomputable def tC (v:V):TE:=λ_ H Q=>Q v H
theorem M7 {i:Nat} {x:Str} {pos:Pos} (hN:X.N[i]?=some x) (hv:qS X.env.scope x) (hd:(x==("__debug__":Str))=false:=by decide) (jd:(x==("__classdict__":Str))=false:=by decide):PE X (.Name x pos) (PU i):=by
 intro pins s σ H Q I h
 obtain⟨v,e,h⟩:=h
 obtain⟨m,hn,hl⟩:=I.loc
 obtain⟨u,r,l⟩:=hl i x v hN e hv
 have fin:EP X pins σ Q u s:=⟨v,H,I,r,h⟩
 rcases l with ⟨hk,hm⟩ | ⟨hk,c,hc,lh⟩
 ·exact wpAny_Name (wpAny_loadName_local I.ok.kind hk hn hm fin) hd
 ·rcases hk with hk|hk
  ·exact wpAny_Name (wpAny_loadName_cell I.ok.kind hk hc lh fin) hd
  ·exact wpAny_Name (wpAny_loadName_free I.ok.kind hk hc lh fin jd) hd
theorem Ed {i j pos}:PE X (.Constant (.int i) j pos) (tC (.int i)):=λ_ _ _ H _ I h=>wpAny_Constant_int ⟨.int i,H,I.tok _,⟨_,rfl⟩,h⟩
theorem Ow {b j pos}:PE X (.Constant (.bool b) j pos) (tC (.bl b)):=λ_ _ _ H _ I h=>Constant_bool ⟨.bl b,H,I,rfl,h⟩
theorem M8 {x j pos}:PE X (.Constant (.str x) j pos) (tC (.str x)):=λ_ _ _ H _ I h=>Calls.Constant_str ⟨.str x,H,I.tok _,⟨_,rfl⟩,h⟩
def Gl (X:Cx) (x:Str):Prop:=X.env.kindOf x=some .globalImplicit
theorem Dj {E:Value->Shared->Prop} {pins:List (Addr×Obj)} {s:Shared} {σ:St} {H:Hp} {x:Str} {u:Value} {pos:Pos} {Q:Value->Shared->Prop} (I:Inv X pins σ H s) (hg:Gl X x) (hm:X.mg x=some u) (h:Q u s)
  (hd:(x==("__debug__":Str))=false:=by decide):wpAny (model X.prog X.w) X.A (eval (.Name x pos) X.env) Q E s :=
 Calls.Name_function_global I.ok.kind hg (Calls.loadGlobal_global (by rw[I.ok.glob];exact I.mod.glob.keeps I.bk) hm h) hd
theorem kY {E:Value->Shared->Prop} {pins:List (Addr×Obj)} {s:Shared} {σ:St} {H:Hp} {x:Str} {u:Value} {pos:Pos} {Q:Value->Shared->Prop} (I:Inv X pins σ H s) (hg:Gl X x) (hm:X.mg x=none) (hv:bootBuiltins x=some u) (h:Q u s)
  (hn:x≠"__name__":=by decide) (hd:(x==("__debug__":Str))=false:=by decide):wpAny (model X.prog X.w) X.A (eval (.Name x pos) X.env) Q E s:=by
 obtain⟨mb,h1,h2⟩:=I.mod.blt
 exact Calls.Name_function_global I.ok.kind hg (Calls.loadGlobal_builtin (by rw[I.ok.glob];exact I.mod.glob.keeps I.bk) hm (by rw[I.ok.blt];exact h1.keeps I.bk) ((h2 x hn).trans hv) h) hd
theorem LC {x:Str} {v:V} {u:Value} {pos:Pos} (hg:Gl X x) (hm:X.mg x=some u) (r:RelV v u) (hd:(x==("__debug__":Str))=false:=by decide):PE X (.Name x pos) (tC v) :=
 λ_ _ _ H _ I h=>Dj I hg hm ⟨v,H,I,r,h⟩ hd
theorem LD {x:Str} {v:V} {u:Value} {pos:Pos} (hg:Gl X x) (hm:X.mg x=none) (hv:bootBuiltins x=some u) (r:RelV v u) (hn:x≠"__name__":=by decide) (hd:(x==("__debug__":Str))=false:=by decide):PE X (.Name x pos) (tC v) :=
 λ_ _ _ H _ I h=>kY I hg hm hv ⟨v,H,I,r,h⟩ hn hd
variable {a b:Expr} {ta tb:TE} {pos:Pos}
variable {tA u4:TT} {rest:List Expr}
noncomputable def cq (t u:TT):TT:=fun σ H Q=>t σ H λc H1=>if c=true then u σ H1 Q else Q false H1
noncomputable def ik (t u:TT):TT:=fun σ H Q=>t σ H λc H1=>if c=true then Q true H1 else u σ H1 Q
noncomputable def fT (t:TT):TT:=fun σ H Q=>t σ H λc H1=>Q (!c) H1
theorem LF (ha:PT X a tA):PW X (.BoolOp .And [a] pos) tA:=by
 intro wh pins s σ H Q I h
 refine isTrue_and (aK (ha pins s σ H Q I h) λc s1 e=>?_)
 cases c with
 |true=>exact isTrue_and_nil e
 |false=>exact e
theorem M9 (ha:PT X a tA):PW X (.BoolOp .Or [a] pos) tA:=by
 intro wh pins s σ H Q I h
 refine isTrue_or (aK (ha pins s σ H Q I h) λc s1 e=>?_)
 cases c with
 |false=>exact isTrue_or_nil e
 |true=>exact e
theorem Na (ha:PT X a tA) (hb:PW X (.BoolOp .And (b::rest) pos) u4):PW X (.BoolOp .And (a::b::rest) pos) (cq tA u4):=by
 intro wh pins s σ H Q I h
 refine isTrue_and (aK (ha pins s σ H _ I h) λc s1 ⟨H1,I1,q1⟩=>?_)
 cases c with
 |true=>exact hb wh pins s1 σ H1 Q I1 q1
 |false=>exact⟨H1,I1,q1⟩
theorem Ox (ha:PT X a tA) (hb:PW X (.BoolOp .Or (b::rest) pos) u4):PW X (.BoolOp .Or (a::b::rest) pos) (ik tA u4):=by
 intro wh pins s σ H Q I h
 refine isTrue_or (aK (ha pins s σ H _ I h) λc s1 ⟨H1,I1,q1⟩=>?_)
 cases c with
 |true=>exact⟨H1,I1,q1⟩
 |false=>exact hb wh pins s1 σ H1 Q I1 q1
theorem Nb (ha:PT X a tA):PT X (.UnaryOp .Not a pos) (fT tA):=by
 intro pins s σ H Q I h
 exact isTrue_not (ha pins s σ H (λc H1=>Q (!c) H1) I h)
noncomputable def Oy (ta tb:TE):TE:=fun σ H Q=>ta σ H λx H1=>∃c,x=.bl c/\if c=true then tb σ H1 Q else Q (.bl false) H1
noncomputable def PV (ta tb:TE):TE:=fun σ H Q=>ta σ H λx H1=>∃c,x=.bl c/\if c=true then Q (.bl true) H1 else tb σ H1 Q
noncomputable def Oz (ta:TE):TE:=fun σ H Q=>ta σ H λx H1=>∃c,x=.bl c/\Q (.bl (!c)) H1
theorem Nc {op} {t:TE} (h:PE X a t):PE X (.BoolOp op [a] pos) t:=λpins s σ H Q I hw=>BoolOp_one (h pins s σ H Q I hw)
theorem Nd (ha:PE X a ta) (hb:PE X (.BoolOp .And (b::rest) pos) tb):PE X (.BoolOp .And (a::b::rest) pos) (Oy ta tb):=by
 intro pins s σ H Q I h
 refine BoolOp_and (aK (ha pins s σ H _ I h) λv s1 ⟨x,H1,I1,r1,q1⟩=>?_)
 obtain⟨c,rfl,q1⟩:=q1
 cases r1
 refine wpAny_truthy_bool ?_
 cases c with
 |true=>exact hb pins s1 σ H1 Q I1 q1
 |false=>exact⟨.bl false,H1,I1,rfl,q1⟩
theorem OA (ha:PE X a ta) (hb:PE X (.BoolOp .Or (b::rest) pos) tb):PE X (.BoolOp .Or (a::b::rest) pos) (PV ta tb):=by
 intro pins s σ H Q I h
 refine BoolOp_or (aK (ha pins s σ H _ I h) λv s1 ⟨x,H1,I1,r1,q1⟩=>?_)
 obtain⟨c,rfl,q1⟩:=q1
 cases r1
 refine wpAny_truthy_bool ?_
 cases c with
 |false=>exact hb pins s1 σ H1 Q I1 q1
 |true=>exact⟨.bl true,H1,I1,rfl,q1⟩
theorem Nf (ha:PE X a ta):PE X (.UnaryOp .Not a pos) (Oz ta):=by
 intro pins s σ H Q I h
 refine UnaryOp_ (aK (ha pins s σ H _ I h) λv s1 ⟨x,H1,I1,r1,q1⟩=>?_)
 obtain⟨c,rfl,q1⟩:=q1
 cases r1
 exact not_of (wpAny_truthy_bool ⟨.bl (!c),H1,I1,rfl,q1⟩)
end
end L2
namespace L2
open PySem PySem.Spec PyProof.Rows
def bL (K:Frag) (H:Hp) (a:Addr) (xs:List V):Prop :=
 Rd H a (.lst xs) \/
  ∃(o:Obj) (its:Array Value) (n:Nat),K.lookup a=some o/\o.cls=.type "list"/\o.dict=none/\o.data=.seq its n/\its.size<=sizeLine/\Vals xs its.toList
def aR (K:Frag) (H:Hp) (a:Addr) (xs:List V):Prop :=
 Rd H a (.tup xs) \/
  ∃(o:Obj) (its:Array Value) (n:Nat),K.lookup a=some o/\o.cls=.type "tuple"/\o.data=.seq its n/\its.size<=sizeLine/\Vals xs its.toList
noncomputable def PX:Value->Option V
 | .none=>some .aB
 | .bool b=>some (.bl b)
 | .int i _=>some (.int i)
 | .str x _=>some (.str x)
 | .bytes b _=>some (.ij b)
 | .float b _=>some (.qQ b)
 | .ref a=>some (.ref a)
 | .type n=>some (.ty n)
 |_=>none
theorem RelV.abs {x:V} {u:Value} (r:RelV x u):PX u=some x:=by
 cases x with
 |aB=>cases r;rfl
 |bl _=>cases r;rfl
 |int _=>obtain⟨t,rfl⟩:=r;rfl
 |str _=>obtain⟨t,rfl⟩:=r;rfl
 |ij _=>obtain⟨t,rfl⟩:=r;rfl
 |qQ _=>obtain⟨t,rfl⟩:=r;rfl
 |ref _=>cases r;rfl
 |ty _=>cases r;rfl
theorem RelV.inj {x y:V} {u:Value} (r:RelV x u) (q:RelV y u):x=y:=Option.some.inj (r.abs.symm.trans q.abs)
theorem Vals.inj:∀{xs ys:List V} {us:List Value},Vals xs us->Vals ys us->xs=ys
 |_,_,_,.nil,.nil=>rfl
 |_,_,_,.cons r t,.cons r' t'=>by rw[r.inj r',Vals.inj t t']
section
variable {X:Cx} {pins:List (Addr×Obj)} {σ:St} {H:Hp} {s:Shared} {a:Addr} {xs ys:List V}
theorem bL.of {K:Frag} (h:H a=some (.lst xs)):bL K H a xs:=.inl (.inl h)
theorem aR.of {K:Frag} (h:H a=some (.tup xs)):aR K H a xs:=.inl (.inl h)
theorem Inv.list (I:Inv X pins σ H s) (h:bL X.K H a xs):∃its:List Value,Vals xs its/\PlainL s.heap a its.toArray/\xs.length<=sizeLine:=by
 rcases h with h | ⟨o,its,n,hk,hc,hd,hs,hz,r⟩
 ·obtain⟨z,its,n,r,e⟩:=h.ok I.aJ
  exact⟨its,r,⟨_,n,e,rfl,rfl,rfl⟩,z⟩
 ·refine⟨its.toList,r,⟨o,n,I.oW a o hk,hc,hd,by simpa using hs⟩,?_⟩
  have e:=r.length
  simp only[Array.length_toList] at e
  omega
theorem Inv.tuple (I:Inv X pins σ H s) (h:aR X.K H a xs):∃its:List Value,Vals xs its/\IsTup s.heap a its.toArray/\xs.length<=sizeLine:=by
 rcases h with h | ⟨o,its,n,hk,hc,hs,hz,r⟩
 ·obtain⟨z,its,r,p⟩:=h.ok I.aJ
  exact⟨its,r,p,z⟩
 ·refine⟨its.toList,r,⟨o,I.oW a o hk,hc,n,by simpa using hs⟩,?_⟩
  have e:=r.length
  simp only[Array.length_toList] at e
  omega
theorem Inv.Km (I:Inv X pins σ H s) (h:bL X.K H a xs) (h':bL X.K H a ys):xs=ys:=by
 obtain⟨its,r,⟨o,n,e,_,_,d⟩,_⟩:=I.list h
 obtain⟨its',r',⟨o',n',e',_,_,d'⟩,_⟩:=I.list h'
 rw[e] at e';cases e'
 rw[d] at d'
 injection d' with d1 _
 have:its=its':=by simpa using congrArg Array.toList d1
 subst this
 exact r.inj r'
theorem Inv.vX (I:Inv X pins σ H s) (h:aR X.K H a xs) (h':aR X.K H a ys):xs=ys:=by
 obtain⟨its,r,⟨o,e,_,n,d⟩,_⟩:=I.tuple h
 obtain⟨its',r',⟨o',e',_,n',d'⟩,_⟩:=I.tuple h'
 rw[e] at e';cases e'
 rw[d] at d'
 injection d' with d1 _
 have:its=its':=by simpa using congrArg Array.toList d1
 subst this
 exact r.inj r'
end
noncomputable abbrev Cx.jC (X:Cx) (E:Value->Shared->Prop):Cx:={ X with xe:=E }
noncomputable abbrev Cx.qX (X:Cx):Cx:=X.jC λ_ _=>False
theorem Cx.Ok.jC {X:Cx} (ok:X.Ok) (E:Value->Shared->Prop):(X.jC E).Ok :=
 ⟨ok.mod,ok.kind,ok.glob,ok.blt,ok.above,ok.inj,ok.has,ok.qT,ok.hd,ok.frames,ok.uZ,ok.Ge,ok.bs,ok.jc,ok.mL,ok.uy,ok.iZ,ok.oV⟩
theorem Cx.Ok.kZ {X:Cx} {E:Value->Shared->Prop} (ok:(X.jC E).Ok):X.Ok :=
 ⟨ok.mod,ok.kind,ok.glob,ok.blt,ok.above,ok.inj,ok.has,ok.qT,ok.hd,ok.frames,ok.uZ,ok.Ge,ok.bs,ok.jc,ok.mL,ok.uy,ok.iZ,ok.oV⟩
section
variable {X:Cx} {pins:List (Addr×Obj)} {σ:St} {H:Hp} {s:Shared} {E:Value->Shared->Prop}
theorem Inv.jC (I:Inv X pins σ H s) (E:Value->Shared->Prop):Inv (X.jC E) pins σ H s:=⟨I.ok.jC E,I.os,I.bare,I.base,I.loc,I.cell,I.free,I.eD,I.pin,I.aJ,I.len⟩
theorem Inv.kZ (I:Inv (X.jC E) pins σ H s):Inv X pins σ H s:=⟨I.ok.kZ,I.os,I.bare,I.base,I.loc,I.cell,I.free,I.eD,I.pin,I.aJ,I.len⟩
theorem SP.kZ {D:Ends} {f:Flow} {s':Shared} (h:SP (X.jC E) pins D f s'):SP X pins D f s':=by
 cases f with
 |next=>obtain⟨aU,H',I,q⟩:=h;exact⟨aU,H',I.kZ,q⟩
 |brk=>obtain⟨aU,H',I,q⟩:=h;exact⟨aU,H',I.kZ,q⟩
 |cont=>obtain⟨aU,H',I,q⟩:=h;exact⟨aU,H',I.kZ,q⟩
 |ret u=>obtain⟨v,aU,H',I,r,q⟩:=h;exact⟨v,aU,H',I.kZ,r,q⟩
theorem dE.qX {st:List Stmt} {t:TS} (h:dE X.qX st t):dE X st t:=λpins s σ H D I hw =>
 wpAny_mono (h pins s σ H D (I.jC _) hw) (λ_ _ q=>q.kZ) λ_ _ z=>False.elim z
end
section
variable {X:Cx} {st:Stmt} {rest:List Stmt} {t u:TS} {e:Expr} {te:TE} {pos:Pos}
noncomputable def OB:TS:=λD σ H=>D.nx σ H
noncomputable def PY (t u:TS):TS:=λD σ H=>t { D with nx:=u D } σ H
theorem LG:dE X [] OB:=λ_ _ σ H _ I h=>wpAny_execs_nil ⟨σ,H,I,h⟩
theorem Ko (h1:PS X st t) (h2:dE X rest u):dE X (st::rest) (PY t u):=by
 intro pins s σ H D I h
 refine wpAny_execs_cons (aK (h1 pins s σ H { D with nx:=u D } I h) λf s1 q=>?_)
 cases f with
 |next =>
  obtain⟨aU,H',I',q⟩:=q
  exact h2 pins s1 aU H' D I' q
 |ret v=>exact q
 |brk=>exact q
 |cont=>exact q
theorem LH (h1:PS X st t):dE X [st] t:=by
 intro pins s σ H D I h
 refine wpAny_execs_cons (aK (h1 pins s σ H D I h) λf s1 q=>?_)
 cases f with
 |next=>exact wpAny_execs_nil q
 |ret v=>exact q
 |brk=>exact q
 |cont=>exact q
theorem Inv.quiet {pins:List (Addr×Obj)} {σ:St} {H:Hp} {s:Shared} (I:Inv X pins σ H s):interactive X.env=false:=by simp[interactive,I.ok.kind]
noncomputable def OC (te:TE):TS:=λD σ H=>te σ H λ_ H1=>D.nx σ H1
theorem LI (he:PE X e te) (hs:swapsWith e none pos.line X.env=pure false:=by rfl):PS X (.Expr e pos) (OC te):=by
 intro pins s σ H D I h
 exact wpAny_Expr_any (aK (he pins s σ H _ I h) λv s1 ⟨x,H1,I1,r1,q1⟩=>⟨σ,H1,I1,q1⟩) I.quiet hs
noncomputable def PZ (te:TE):TS:=λD σ H=>te σ H D.rt
theorem Ng (he:PE X e te):PS X (.Return (some e) pos) (PZ te):=by
 intro pins s σ H D I h
 exact wpAny_Return_some (aK (he pins s σ H _ I h) λv s1 ⟨x,H1,I1,r1,q1⟩=>⟨x,σ,H1,I1,r1,q1⟩)
noncomputable def P0 (c:TT) (t u:TS):TS:=λD σ H=>c σ H λb H1=>if b=true then t D σ H1 else u D σ H1
theorem OD {c:Expr} {a b:List Stmt} {tc:TT} (hc:PT X c tc) (ha:dE X a t) (hb:dE X b u):PS X (.If c a b pos) (P0 tc t u):=by
 intro pins s σ H D I h
 refine wpAny_If (aK (hc pins s σ H _ I h) λd s1 ⟨H1,I1,q1⟩=>?_)
 cases d with
 |true=>exact ha pins s1 σ H1 D I1 q1
 |false=>exact hb pins s1 σ H1 D I1 q1
end
noncomputable abbrev TG:=V->St->Hp->(St->Hp->Prop)->Prop
noncomputable abbrev gk:=List V->St->Hp->(St->Hp->Prop)->Prop
def PG (X:Cx) (target:Expr) (t:TG):Prop :=
 ∀(pins:List (Addr×Obj)) (s:Shared) (σ:St) (H:Hp) (v:V) (u:Value) (Q:St->Hp->Prop),Inv X pins σ H s->RelV v u->t v σ H Q ->
  wpAny (model X.prog X.w) X.A (assign target X.env u) (λ_ s'=>∃ aU H',Inv X pins aU H' s'/\Q aU H') X.xe s
def jL (X:Cx) (ts:List Expr) (t:gk):Prop :=
 ∀(pins:List (Addr×Obj)) (s:Shared) (σ:St) (H:Hp) (vs:List V) (us:List Value) (Q:St->Hp->Prop),Inv X pins σ H s->Vals vs us->t vs σ H Q ->
  wpAny (model X.prog X.w) X.A (assignInOrder ((assignEach ts X.env).map (·.2)) us) (λ_ s'=>∃ aU H',Inv X pins aU H' s'/\Q aU H') X.xe s
noncomputable abbrev uz:=V->V->V->Hp->(Hp->Prop)->Prop
def yr (X:Cx) (t:uz):Prop :=
 ∀(pins:List (Addr×Obj)) (s:Shared) (σ:St) (H:Hp) (o i v:V) (ov iv u:Value) (Q:Hp->Prop),Inv X pins σ H s->RelV o ov->RelV i iv->RelV v u->t o i v H Q ->
  wpAny (model X.prog X.w) X.A (setItem ov iv u) (λ_ s'=>∃H',Inv X pins σ H' s'/\Q H') X.xe s
section
variable {X:Cx} {pos:Pos}
noncomputable def kh (i:Nat):TG:=λv σ H Q=>Q (σ.set i (some v)) H
theorem bB {i:Nat} {x:Str} (hN:X.N.Nodup) (hi:X.N[i]?=some x) (hx:Loc X.env.scope x) (hf:X.fn x=true\/X.env.scope.names.lookup x=some .local:=by first|exact .inl rfl|exact .inr rfl|assumption):PG X (.Name x pos) (kh i):=by
 intro pins s σ H v u Q I r h
 exact wpAny_assign_Name (kP I hN hi hx r (λs' I'=>⟨_,H,I',h⟩) hf)
noncomputable def yt:gk:=λvs σ H Q=>vs=[]/\Q σ H
noncomputable def xS (t:TG) (u:gk):gk:=λvs σ H Q=>∃v r,vs=v::r/\t v σ H fun aU H'=>u r aU H' Q
theorem pW:jL X [] yt:=by
 intro pins s σ H vs us Q I r h
 obtain⟨e,h⟩:=h
 subst e
 cases r
 exact assignInOrder_nil ⟨σ,H,I,h⟩
theorem j6 {e:Expr} {es:List Expr} {t:TG} {u:gk} (h1:PG X e t) (h2:jL X es u)
  (hs:(assignEach (e::es) X.env).map (·.2)=assign e X.env::(assignEach es X.env).map (·.2):=by rfl):jL X (e::es) (xS t u):=by
 intro pins s σ H vs us Q I r h
 obtain⟨v,vr,e1,h⟩:=h
 subst e1
 cases r with
 |cons r rr =>
  rw[hs]
  refine assignInOrder_cons (aK (h1 pins s σ H _ _ _ I r h) λ_ s1 ⟨Gk,H1,I1,q1⟩=>?_)
  exact h2 pins s1 Gk H1 _ _ Q I1 rr q1
noncomputable def yu (K:Frag) (n:Nat) (t:gk):TG:=λv σ H Q=>∃a xs,v=.ref a/\aR K H a xs/\xs.length=n/\t xs σ H Q
theorem k9 {es:List Expr} {k:Nat} {t:gk} {n:Nat} (hc:X.calm=true) (h:jL X es t)
  (hn:(assignEach es X.env).length=n:=by rfl) (qY:(assignEach es X.env).findIdx? (·.1)=none:=by rfl):PG X (.Tuple es k pos) (yu X.K n t):=by
 intro pins s σ H v u Q I r hw
 obtain⟨a,xs,e1,hq,hl,hw⟩:=hw
 subst e1
 cases r
 obtain⟨its,rv,ht,hz⟩:=I.tuple hq
 refine assign_Tuple_tuple (I.ok.hd hc) ht (by simp[hn,<- hl,rv.length]) qY λh' hx=>?_
 have I1:Inv X pins σ H { s with heap:=h' }:=I.kept (t':=s.toks) λb o e=>hx b o (Nat.ne_of_lt (Heap.lt_size e)) e
 exact h pins _ σ H xs _ Q I1 (by simpa using rv) hw
noncomputable def P1 (to ti:TE) (t:uz):TG:=λv σ H Q=>to σ H λo H1=>ti σ H1 λi H2=>t o i v H2 λH3=>Q σ H3
theorem Ee {o i:Expr} {to ti:TE} {t:uz} (ho:PE X o to) (hi:PE X i ti) (hs:yr X t)
  (ha:∀v,assign (.Subscript o i pos) X.env v=(do
   let ov <- holding [v] (eval o X.env)
   let iv <- holding [v,ov] (eval i X.env)
   standAt pos
   holding [v,ov,iv] (setItem ov iv v)
   release [v,ov,iv] []):=by intro _;rfl):PG X (.Subscript o i pos) (P1 to ti t):=by
 intro pins s σ H v u Q I r h
 rw[ha]
 refine wpAny_bind (wpAny_holding (aK (ho pins s σ H _ I h) λov s1 ⟨x,H1,I1,r1,q1⟩=>?_))
 refine wpAny_bind (wpAny_holding (aK (hi pins s1 σ H1 _ I1 q1) λiv s2 ⟨y,H2,I2,r2,q2⟩=>?_))
 refine wpAny_bind (wpAny_standAt (wpAny_bind (wpAny_holding (aK (hs pins s2 σ H2 x y v ov iv u _ I2 r1 r2 r q2) λ_ s3 ⟨H3,I3,q3⟩=>?_))))
 exact wpAny_release ⟨σ,H3,I3,q3⟩
noncomputable def oI (te:TE) (g:TG):TS:=λD σ H=>te σ H λx H1=>g x σ H1 D.nx
theorem xt {tg e:Expr} {te:TE} {g:TG} (he:PE X e te) (hg:PG X tg g) (hs:swapsWithSole [tg] e pos.line X.env=pure false:=by rfl) (hw:swappedStores [tg] e X.env=pure none:=by rfl)
  (h1:(assignEach [tg] X.env).map (·.2)=[assign tg X.env]:=by rfl):PS X (.Assign [tg] e pos) (oI te g):=by
 intro pins s σ H D I h
 refine wpAny_Assign_stores (aK (he pins s σ H _ I h) λv s1 ⟨x,H1,I1,r1,q1⟩=>?_) hs hw
 rw[h1]
 exact aK (hg pins s1 σ H1 x v _ I1 r1 q1) λ_ s2 q=>q
theorem Nh {i:Nat} {x:Str} {e:Expr} {te:TE} {pos':Pos} (hN:X.N.Nodup) (hi:X.N[i]?=some x) (hx:Loc X.env.scope x) (he:PE X e te) (hs:swapsWith e (some (.Name x pos')) pos.line X.env=pure false:=by rfl) (hf:X.fn x=true\/X.env.scope.names.lookup x=some .local:=by first|exact .inl rfl|exact .inr rfl|assumption) :
  PS X (.Assign [.Name x pos'] e pos) (oI te (kh i)):=by
 intro pins s σ H D I h
 refine wpAny_Assign_Name (aK (he pins s σ H _ I h) λv s1 ⟨y,H1,I1,r1,q1⟩=>?_) hs
 exact kP I1 hN hi hx r1 (λs2 I2=>⟨_,H1,I2,q1⟩) hf
noncomputable def P2 (i j:Nat) (ta:TA):TS:=λD σ H=>ta σ H λvs H1=>∃v w,vs=[v,w]/\D.nx ((σ.set i (some v)).set j (some w)) H1
theorem Ni {i j:Nat} {x y:Str} {a b:Expr} {ta:TA} {px py pt:Pos} {kt k2 gm} (hc:X.calm=true) (hN:X.N.Nodup) (hi:X.N[i]?=some x) (hj:X.N[j]?=some y) (dA:i≠j)
  (hx:X.env.scope.names.lookup x=some .local) (hy:X.env.scope.names.lookup y=some .local) (ha:PA X [a,b] ta)
  (hw:swappedStores [.Tuple [.Name x px,.Name y py] kt pt] (.Tuple [a,b] k2 gm) X.env=pure (some [x,y]))
  (hs:swapsWithSole [.Tuple [.Name x px,.Name y py] kt pt] (.Tuple [a,b] k2 gm) pos.line X.env=pure false:=by rfl) :
  PS X (.Assign [.Tuple [.Name x px,.Name y py] kt pt] (.Tuple [a,b] k2 gm) pos) (P2 i j ta):=by
 intro pins s σ H D I h
 rw[exec_Assign_arm]
 refine wpAny_bind (wpAny_standAt ?_)
 rw[hs]
 refine wpAny_bind (wpAny_pure ?_)
 rw[if_neg (by decide)]
 refine wpAny_bind (Tuple_ (aK (ha _ pins s σ H _ I h) λus s1 ⟨vs,H1,I1,r1,q1⟩=>?_))
 obtain⟨v,w,e1,q1⟩:=q1
 subst e1
 obtain⟨u1,u2,rfl,rv,mY⟩:∃u1 u2,us=[u1,u2]/\RelV v u1/\RelV w u2:=by
  cases r1 with
  |cons p q =>
   cases q with
   |cons p' q' =>
    cases q'
    exact⟨_,_,rfl,p,p'⟩
 refine wpAny_newObj_type ?_ (by show 2<=sizeLine;decide)
 have I2:Inv X pins σ H1 { s1 with heap:=s1.heap.push { cls:=.type "tuple",data:=.seq [u1,u2].toArray } }:=I1.kept (t':=s1.toks) λb o e=>Heap.get?_push_of_some _ e
 rw[hw]
 refine wpAny_bind (wpAny_pure ?_)
 show wpAny (model X.prog X.w) X.A (do rule "assign.swapped-stores";let items <- unpackItems (.ref s1.heap.objs.size) 2 none;assignInOrder [λv=>bindName X.env y v,λv=>bindName X.env x v] items.reverse;pure Flow.next) _ _ _
 refine wpAny_bind (wpAny_rule (wpAny_bind (unpackItems_tuple (items:=#[u1,u2]) (I.ok.hd hc) (IsTup.new s1.heap _) λh' yZ=>?_)))
 have I3:=I2.kept (h':=h') (t':=s1.toks) λb o e=>yZ b o (Nat.ne_of_lt (Heap.lt_size e)) e
 show wpAny _ _ (assignInOrder [λv=>bindName X.env y v,λv=>bindName X.env x v] [u2,u1] >>= λ_=>pure Flow.next) _ _ _
 refine wpAny_bind (assignInOrder_cons (wpAny_bindName (kP I3 hN hj (.inl hy) mY (λs2 I4=>?_) (.inr hy))))
 refine assignInOrder_cons (wpAny_bindName (kP I4 hN hi (.inl hx) rv (λs3 I5=>assignInOrder_nil (wpAny_pure ?_)) (.inr hx)))
 rw[List.set_comm _ _ (Ne.symm dA)] at I5
 exact⟨_,H1,I5,q1⟩
end
section
variable {X:Cx} {pos:Pos}
end
structure It where
 go:Nat->Hp->Prop
 qZ:Nat->Hp->V->Hp->Prop
 stop:Nat->Hp->Prop
def fv (X:Cx) (pins:List (Addr×Obj)) (H:Hp) (b:Addr):Prop :=
 H b=none/\b≠X.env.locals/\b∉X.fs/\(b∈X.ex\/X.cS.heap.objs.size<=b)/\(∀x c,X.env.cells.lookup x=some c->c≠b)/\∀p∈X.pn++pins,p.1≠b
theorem Inv.oJ {X:Cx} {pins:List (Addr×Obj)} {σ:St} {H H':Hp} {s:Shared} {b:Addr} (I:Inv X pins σ H s) (hb:s.heap.objs.size<=b) (hn:H' b=none):fv X pins H' b:=by
 refine⟨hn,Nat.ne_of_gt (Nat.lt_of_lt_of_le I.lt hb),I.qF hb,.inr (Nat.le_trans I.sz hb),λx c e z=>?_,λp hp z=>?_⟩
 ·obtain⟨v,q⟩:=I.cell x c e
  exact absurd (Nat.lt_of_lt_of_le q.lt (by rw[z];exact hb)) (Nat.lt_irrefl _)
 ·exact absurd (Nat.lt_of_lt_of_le (Heap.lt_size (I.pin p hp).1) (by rw[z];exact hb)) (Nat.lt_irrefl _)
structure Turn (P:Program) (w:World) (K:Frag) (tg:Expr) (J:It) (fp:List Addr) (it:Addr) (tn:Nat->Heap->Prop):Prop where
 mem:it∈fp
 obj:∀i h,tn i h->∀b∈fp,∃o,h.get? b=some o/\∀v,o.data≠.cell v
 keep:∀i h h',tn i h->(∀b∈fp,∀o,h.get? b=some o->h'.get? b=some o)->tn i h'
 item:∀(X:Cx),X.prog=P->X.w=w->X.K=K->X.calm=true->∀(i:Nat) (pins:List (Addr×Obj)) (s:Shared) (σ:St) (H:Hp) (E:Value->Shared->Prop),Inv X pins σ H s->(∀b∈fp,fv X pins H b)->tn i s.heap->J.go i H ->
  wpAny (model P w) X.A (pyNext (.ref it)) (λr s1=>∃u,r=some u /\
   wpAny (model P w) X.A (letOwnedTupleGo tg (.ref it) u) (λ_ s2=>∃x H',Inv X pins σ H' s2/\RelV x u/\J.qZ i H x H'/\tn (i+1) s2.heap/\∀b∈fp,H' b=none) E s1) E s
 done:∀(X:Cx),X.prog=P->X.w=w->X.K=K->X.calm=true->∀(i:Nat) (pins:List (Addr×Obj)) (s:Shared) (σ:St) (H:Hp) (E:Value->Shared->Prop),Inv X pins σ H s->(∀b∈fp,fv X pins H b)->tn i s.heap->J.stop i H ->
  wpAny (model P w) X.A (pyNext (.ref it)) (λr s1=>r=none/\Inv X pins σ H s1) E s
 self:∀(A:Around) (i:Nat) (s:Shared) (Q:Value->Shared->Prop) (E:Value->Shared->Prop),tn i s.heap->Q (.ref it) s->wpAny (model P w) A (pyIter (.ref it)) Q E s
noncomputable abbrev TI:=St->Hp->(It->Hp->Prop)->Prop
def Gm (X:Cx) (pins:List (Addr×Obj)) (σ:St) (tg:Expr) (R:It->Hp->Prop) (gn:Value) (s2:Shared):Prop :=
 ∃(it:Addr) (fp:List Addr) (tn:Nat->Heap->Prop) (J:It) (H':Hp),gn=.ref it/\Inv X pins σ H' s2/\Turn X.prog X.w X.K tg J fp it tn/\tn 0 s2.heap/\(∀b∈fp,fv X pins H' b)/\R J H'
def PI (X:Cx) (tg iter:Expr) (wi:TI):Prop :=
 ∀(pins:List (Addr×Obj)) (s:Shared) (σ:St) (H:Hp) (R:It->Hp->Prop),Inv X pins σ H s->wi σ H R ->
  wpAny (model X.prog X.w) X.A (eval iter X.env) (λv s1=>wpAny (model X.prog X.w) X.A (pyIter v) (Gm X pins σ tg R) X.xe s1) X.xe s
theorem my {M:Model} {A:Around} {E:Value->Shared->Prop} {s:Shared} {tg:Expr} {it:Addr} {u:Value} {o:Obj} {n:String} {vs:Array Value} {Q:Unit->Shared->Prop} (ho:s.heap.get? it=some o) (hc:o.cls=.type n) (hd:o.data=.fields vs)
  (hn:["enumerate","zip","dict_itemiterator","dict_reverseitemiterator","odict_iterator","itertools.zip_longest","itertools.pairwise"].contains n=false) (hQ:Q () s):wpAny M A (letOwnedTupleGo tg (.ref it) u) Q E s:=by
 unfold letOwnedTupleGo
 cases tg<;>first
  |exact wpAny_pure hQ
  |(cases u<;>first
    |exact wpAny_pure hQ
    |(refine wpAny_bind (wpAny_load ho ?_)
      rw[hc,hd]
      show wpAny M A (if (["enumerate","zip","dict_itemiterator","dict_reverseitemiterator","odict_iterator","itertools.zip_longest","itertools.pairwise"].contains n&&vs[0]?==some (rawInt _))=true then _ else _) Q E s
      rw[if_neg (by intro h;rw[hn,Bool.false_and] at h;cases h)]
      exact wpAny_pure hQ))
noncomputable def y0 (K:Frag) (a:Addr):It :=
 ⟨λi H=>∃xs x,bL K H a xs/\xs[i]?=some x,λi H x H'=>H'=H/\∀xs,bL K H a xs->xs[i]?=some x,λi H=>∃xs,bL K H a xs/\xs.length<=i⟩
noncomputable def za (K:Frag) (a:Addr):It :=
 ⟨λi H=>∃xs x,aR K H a xs/\xs[i]?=some x,λi H x H'=>H'=H/\∀xs,aR K H a xs->xs[i]?=some x,λi H=>∃xs,aR K H a xs/\xs.length<=i⟩
noncomputable def q0 (lo:Int) (n:Nat):It:=⟨λi _=>i<n,λi H x H'=>H'=H/\x=.int (lo+i),λi _=>n<=i⟩
theorem Jj {P:Program} {w:World} {K:Frag} {tg:Expr} (a it:Addr):Turn P w K tg (y0 K a) [it] it (λi h=>h.IsListIter it a i) where
 mem:=by simp
 obj:=λi h st b hb=>by
  have e:b=it:=by simpa using hb
  subst e
  obtain⟨o,e,c,d⟩:=st
  exact⟨o,e,λv z=>by rw[d] at z;cases z⟩
 keep:=λi h h' st k=>st.at λo e=>k it (by simp) o e
 item:=by
  intro X hP hw hK hc i pins s σ H E I hf st hg
  subst hP hw hK
  obtain⟨xs,x,hq,hx⟩:=hg
  obtain⟨its,rv,p,hz⟩:=I.list hq
  obtain⟨u,hu,ru⟩:=rv.get hx
  obtain⟨f0,f1,f2,f3,f4,f5⟩:=hf it (by simp)
  refine wpAny_pyNext_list_item st p.isList (x:=u) (by simpa using hu) λh' cX sb=>?_
  have I1:Inv X pins σ H { s with heap:=h' }:=I.turned (t':=s.toks) (λb o hb e=>(sb.2 b hb).trans e) f0 f1 f3 f4 f5
  obtain⟨o,e,c,d⟩:=id cX
  exact⟨u,rfl,my (s:={ s with heap:=h' }) e c d (by decide) ⟨x,H,I1,ru,⟨rfl,λys hy=>by rw[I.Km hy hq];exact hx⟩,cX,λb hb=>(hf b hb).1⟩⟩
 done:=by
  intro X hP hw hK hc i pins s σ H E I hf st hg
  subst hP hw hK
  obtain⟨xs,hq,hx⟩:=hg
  obtain⟨its,rv,p,hz⟩:=I.list hq
  obtain⟨f0,f1,f2,f3,f4,f5⟩:=hf it (by simp)
  have hl:=rv.length
  exact wpAny_pyNext_list_end (I.ok.hd hc) st p.isList (by simp;omega) λh' eb=>⟨rfl,I.turned (t':=s.toks) (λb o hb e=>eb b o hb e) f0 f1 f3 f4 f5⟩
 self:=λ_ _ _ _ _ st h=>wpAny_pyIter_listiter st h
theorem Io {P:Program} {w:World} {K:Frag} {tg:Expr} (a it:Addr):Turn P w K tg (za K a) [it] it (λi h=>h.IsTupleIter it a i) where
 mem:=by simp
 obj:=λi h st b hb=>by
  have e:b=it:=by simpa using hb
  subst e
  obtain⟨o,e,c,d⟩:=st
  exact⟨o,e,λv z=>by rw[d] at z;cases z⟩
 keep:=λi h h' st k=>st.at λo e=>k it (by simp) o e
 item:=by
  intro X hP hw hK hc i pins s σ H E I hf st hg
  subst hP hw hK
  obtain⟨xs,x,hq,hx⟩:=hg
  obtain⟨its,rv,p,hz⟩:=I.tuple hq
  obtain⟨u,hu,ru⟩:=rv.get hx
  obtain⟨f0,f1,f2,f3,f4,f5⟩:=hf it (by simp)
  refine wpAny_pyNext_tuple_item st (show s.heap.IsTuple a its.toArray from p) (x:=u) (by simpa using hu) λh' cX sb=>?_
  have I1:Inv X pins σ H { s with heap:=h' }:=I.turned (t':=s.toks) (λb o hb e=>(sb.2 b hb).trans e) f0 f1 f3 f4 f5
  obtain⟨o,e,c,d⟩:=id cX
  exact⟨u,rfl,my (s:={ s with heap:=h' }) e c d (by decide) ⟨x,H,I1,ru,⟨rfl,λys hy=>by rw[I.vX hy hq];exact hx⟩,cX,λb hb=>(hf b hb).1⟩⟩
 done:=by
  intro X hP hw hK hc i pins s σ H E I hf st hg
  subst hP hw hK
  obtain⟨xs,hq,hx⟩:=hg
  obtain⟨its,rv,p,hz⟩:=I.tuple hq
  obtain⟨f0,f1,f2,f3,f4,f5⟩:=hf it (by simp)
  have hl:=rv.length
  exact wpAny_pyNext_tuple_end (I.ok.hd hc) st (show s.heap.IsTuple a its.toArray from p) (by simp;omega) λh' eb=>⟨rfl,I.turned (t':=s.toks) (λb o hb e=>eb b o hb e) f0 f1 f3 f4 f5⟩
 self:=λ_ _ _ _ _ st h=>wpAny_pyIter_tupleiter st h
theorem Ip {P:Program} {w:World} {K:Frag} {tg:Expr} (it:Addr) (lo:Int) (n:Nat):Turn P w K tg (q0 lo n) [it] it (λi h=>IsRangeIter h it (lo+(i:Nat)*1) ((n:Int)-(i:Nat)) 1) where
 mem:=by simp
 obj:=λi h st b hb=>by
  have e:b=it:=by simpa using hb
  subst e
  exact⟨_,st,λv z=>by
   have z':Data.fields _=Data.cell v:=z
   cases z'⟩
 keep:=λi h h' st k=>k it (by simp) _ st
 item:=by
  intro X hP hw hK hc i pins s σ H E I hf st hg
  subst hP hw hK
  obtain⟨f0,f1,f2,f3,f4,f5⟩:=hf it (by simp)
  have W:=Walks.range (prog:=X.prog) (w:=X.w) (I.ok.hd hc) it lo 1 n
  refine W.item i s _ _ hg st λv h' tk hv cX kk=>?_
  obtain⟨t,rfl⟩:=hv
  have I1:Inv X pins σ H { s with heap:=h',toks:=tk }:=I.turned (λb o hb e=>kk b o (by simpa using hb) e) f0 f1 f3 f4 f5
  refine⟨_,rfl,my (s:={ s with heap:=h',toks:=tk }) (n:="range_iterator") cX rfl rfl (by decide) ⟨.int (lo+i),H,I1,⟨t,?_⟩,⟨rfl,rfl⟩,cX,λb hb=>(hf b hb).1⟩⟩
  rw[Int.mul_one]
 done:=by
  intro X hP hw hK hc i pins s σ H E I hf st hg
  subst hP hw hK
  obtain⟨f0,f1,f2,f3,f4,f5⟩:=hf it (by simp)
  exact wpAny_pyNext_range_end (I.ok.hd hc) st (by have:n<=i:=hg;omega) λh' eb=>⟨rfl,I.turned (t':=s.toks) (λb o hb e=>eb b o hb e) f0 f1 f3 f4 f5⟩
 self:=λ_ _ _ _ _ st h=>wpAny_pyIter_rangeiter st h
end L2
namespace L2
open PySem PySem.Spec PyProof.Rows
section
variable {X:Cx} {tg:Expr}
noncomputable def E7 (K:Frag) (tl:TE):TI:=fun σ H R=>tl σ H λx H1=>∃a,x=.ref a/\(∃xs,bL K H1 a xs)/\R (y0 K a) H1
noncomputable def FL (K:Frag) (tl:TE):TI:=fun σ H R=>tl σ H λx H1=>∃a,x=.ref a/\(∃xs,aR K H1 a xs)/\R (za K a) H1
theorem LJ {l:Expr} {tl:TE} (hl:PE X l tl):PI X tg l (E7 X.K tl):=by
 intro pins s σ H R I h
 refine aK (hl pins s σ H _ I h) λv s1 ⟨x,H1,I1,r1,q1⟩=>?_
 obtain⟨a,e,⟨xs,hq⟩,q⟩:=q1
 subst e
 cases r1
 obtain⟨its,rv,p,hz⟩:=I1.list hq
 refine wpAny_pyIter_list p.isList ?_
 refine⟨s1.heap.objs.size,[s1.heap.objs.size],_,_,H1,rfl,I1.kept (t':=s1.toks) λb o e=>Heap.get?_push_of_some _ e,Jj a _,⟨_,Heap.get?_push_size _ rfl,rfl,rfl⟩,λb hb=>?_,q⟩
 have e:b=s1.heap.objs.size:=by simpa using hb
 subst e
 exact I1.oJ (Nat.le_refl _) (I1.aJ.fresh (Nat.le_refl _))
theorem Nj {l:Expr} {tl:TE} (hl:PE X l tl):PI X tg l (FL X.K tl):=by
 intro pins s σ H R I h
 refine aK (hl pins s σ H _ I h) λv s1 ⟨x,H1,I1,r1,q1⟩=>?_
 obtain⟨a,e,⟨xs,hq⟩,q⟩:=q1
 subst e
 cases r1
 obtain⟨its,rv,p,hz⟩:=I1.tuple hq
 refine wpAny_pyIter_tuple (show s1.heap.IsTuple a its.toArray from p) ?_
 refine⟨s1.heap.objs.size,[s1.heap.objs.size],_,_,H1,rfl,I1.kept (t':=s1.toks) λb o e=>Heap.get?_push_of_some _ e,Io a _,⟨_,Heap.get?_push_size _ rfl,rfl,rfl⟩,λb hb=>?_,q⟩
 have e:b=s1.heap.objs.size:=by simpa using hb
 subst e
 exact I1.oJ (Nat.le_refl _) (I1.aJ.fresh (Nat.le_refl _))
theorem CC {pins:List (Addr×Obj)} {σ:St} {H:Hp} {s:Shared} {R:It->Hp->Prop} {E:Value->Shared->Prop} {lo hi:Int} {t u v:Tok} {tk:Nat} (I:Inv X pins σ H s) (h1:-(2 ^ 62)<=lo) (h2:lo<2 ^ 62) (h3:-(2 ^ 62)<=hi) (h4:hi<2 ^ 62)
  (q:R (q0 lo (hi-lo).toNat) H):wpAny (model X.prog X.w) X.A (pyIter (.ref s.heap.objs.size)) (Gm X pins σ tg R) E { s with heap:=s.heap.push { cls:=.type "range",data:=.fields #[.int lo t,.int hi u,.int 1 v] },toks:=tk }:=by
 refine wpAny_pyIter_range (IsRange.new ..) (small_one h1 h2 h3 h4) ?_
 have I1:Inv X pins σ H { s with heap:=s.heap.push { cls:=.type "range",data:=.fields #[.int lo t,.int hi u,.int 1 v] },toks:=tk }:=I.kept λb o e=>Heap.get?_push_of_some _ e
 refine⟨(s.heap.push { cls:=.type "range",data:=.fields #[.int lo t,.int hi u,.int 1 v] }).objs.size,[(s.heap.push { cls:=.type "range",data:=.fields #[.int lo t,.int hi u,.int 1 v] }).objs.size],_,_,H,rfl,
  I1.kept (t':=tk) λb o e=>Heap.get?_push_of_some _ e,Ip _ lo (hi-lo).toNat,?_,λb hb=>?_,q⟩
 ·have e1:lo+((0:Nat):Int)*1=lo:=by simp
  have e2:(((hi-lo).toNat:Nat):Int)-((0:Nat):Int)=Builtin.Range.rangeSize lo hi 1:=by rw[rangeSize_one];split<;>omega
  show IsRangeIter _ _ (lo+((0:Nat):Int)*1) ((((hi-lo).toNat:Nat):Int)-((0:Nat):Int)) 1
  rw[e1,e2]
  exact Heap.get?_push_size _ rfl
 ·have e:b=(s.heap.push { cls:=.type "range",data:=.fields #[.int lo t,.int hi u,.int 1 v] }).objs.size:=by simpa using hb
  subst e
  exact I1.oJ (Nat.le_refl _) (I1.aJ.fresh (Nat.le_refl _))
noncomputable def OE (ta:TA):TI:=fun σ H R=>ta σ H λvs H1=>∃j:Int,vs=[.int j]/\-(2 ^ 62)<=j/\j<2 ^ 62/\R (q0 0 j.toNat) H1
noncomputable def OF (ta:TA):TI:=fun σ H R=>ta σ H λvs H1=>∃i j:Int,vs=[.int i,.int j]/\(-(2 ^ 62)<=i/\i<2 ^ 62/\-(2 ^ 62)<=j/\j<2 ^ 62)/\R (q0 i (j-i).toNat) H1
theorem Jk {a:Expr} {ta:TA} {p pos:Pos} (hg:Gl X "range") (hm:X.mg "range"=none) (ha:PA X [a] ta) (hs:starEach [a] X.env=[(false,eval a X.env)]:=by rfl):PI X tg (.Call (.Name "range" p) [a] [] pos) (OE ta):=by
 intro pins s σ H R I h
 refine Call_ (kY I hg hm boot_range (PyProof.Rows.callWith_type1 (aK (ha pos pins s σ H _ I h) λus s1 ⟨vs,H1,I1,r1,q1⟩=>?_) hs rfl))
 obtain⟨j,e,q1,q2,q⟩:=q1
 subst e
 cases r1 with
 |cons r rr =>
  cases rr
  obtain⟨t,rfl⟩:=r
  exact call_range_1 (CC I1 (by omega) (by omega) q1 q2 (by simpa using q))
theorem Jl {a b:Expr} {ta:TA} {p pos:Pos} (hg:Gl X "range") (hm:X.mg "range"=none) (ha:PA X [a,b] ta) (hs:starEach [a,b] X.env=[(false,eval a X.env),(false,eval b X.env)]:=by rfl) (dF:starEach [b] X.env=[(false,eval b X.env)]:=by rfl) :
  PI X tg (.Call (.Name "range" p) [a,b] [] pos) (OF ta):=by
 intro pins s σ H R I h
 refine Call_ (kY I hg hm boot_range (PyProof.Rows.callWith_type1 (aK (ha pos pins s σ H _ I h) λus s1 ⟨vs,H1,I1,r1,q1⟩=>?_) (by rw[hs,dF]) (by rw[dF];rfl)))
 obtain⟨i,j,e,⟨q1,q2,q3,q4⟩,q⟩:=q1
 subst e
 cases r1 with
 |cons r rr =>
  cases rr with
  |cons r' rr =>
   cases rr
   obtain⟨t,rfl⟩:=r
   obtain⟨t',rfl⟩:=r'
   exact call_range_2 (CC I1 q1 q2 q3 q4 q)
noncomputable def FN (wi:TI) (g:TG) (tb:TS):TS:=λD σ H=>wi σ H λJ H1=>∃W:Nat->Nat->St->Hp->Prop,(∃m,W 0 m σ H1)/\∀i m σ H,W i m σ H ->
 (J.stop i H/\D.nx σ H)\/(J.go i H/\∃N:St->Hp->Prop,(∀ aU H',N aU H'->∃m',m' < m/\W (i+1) m' aU H')/\∀x H',J.qZ i H x H'->g x σ H' fun kB H2=>tb { D with nx:=N,ct:=N,bk:=D.nx } kB H2)
noncomputable def lb (fp:List Addr) (h:Heap):List (Addr×Obj):=fp.filterMap λb=>(h.get? b).map λo=>(b,o)
theorem nR {fp:List Addr} {h:Heap} {b:Addr} {o:Obj} (hb:b∈fp) (e:h.get? b=some o):(b,o)∈lb fp h:=List.mem_filterMap.mpr ⟨b,hb,by rw[e];rfl⟩
theorem BW {fp:List Addr} {h:Heap} {p:Addr×Obj} (hp:p∈lb fp h):p.1∈fp/\h.get? p.1=some p.2:=by
 obtain⟨b,hb,e⟩:=List.mem_filterMap.mp hp
 cases q:h.get? b with
 |none=>rw[q] at e;cases e
 |some o =>
  rw[q] at e
  have e':(b,o)=p:=Option.some.inj e
  subst e'
  exact⟨hb,q⟩
theorem Inv.pinned {pins:List (Addr×Obj)} {σ:St} {H:Hp} {s:Shared} {fp:List Addr} (I:Inv X pins σ H s) (hf:∀b∈fp,fv X pins H b) (ho:∀b∈fp,∃o,s.heap.get? b=some o/\∀v,o.data≠.cell v):Inv X (pins++lb fp s.heap) σ H s :=
 I.ka λp hp=>(List.mem_append.mp hp).elim (λz=>I.pin p (List.mem_append_right _ z)) λz=>by
  obtain⟨hb,e⟩:=BW z
  obtain⟨f0,f1,f2,_⟩:=hf p.1 hb
  obtain⟨o,e',d⟩:=ho p.1 hb
  rw[e] at e';cases e'
  exact⟨e,f0,f1,f2,d⟩
theorem Inv.j7 {pins pl:List (Addr×Obj)} {σ:St} {H:Hp} {s:Shared} (I:Inv X (pins++pl) σ H s):Inv X pins σ H s:=I.ka λp hp=>I.pin p (List.mem_append_right _ (List.mem_append_left _ hp))
theorem Nk {iter:Expr} {body:List Stmt} {wi:TI} {g:TG} {tb:TS} {pos:Pos} (hp:PassesOwn (model X.prog X.w) X.A X.env X.xe) (hc:X.calm=true) (hi:PI X tg iter wi) (hg:PG X tg g) (hb:dE X body tb)
  (hs:∀x,foldedSetIterable iter X.env x=pure x:=by intro _;rfl):PS X (.For tg iter body [] pos) (FN wi g tb):=by
 intro pins s σ H D I h
 refine wpAny_For (aK (hi pins s σ H _ I h) λv s1 h1=>aK h1 λgn s2 h2=>?_) hs
 obtain⟨it,fp,tn,J,H2,e,I2,T,iI,f2,W,⟨m0,w0⟩,turn⟩:=h2
 subst e
 have stat:∀{H':Hp},(∀b∈fp,H' b=none)->∀b∈fp,fv X pins H' b:=λhn b hb=>⟨hn b hb,(f2 b hb).2⟩
 refine codeAny_forLoop_any (λn s'=>∃i aU H',Inv X pins aU H' s'/\tn i s'.heap/\(∀b∈fp,H' b=none)/\W i n aU H') ?_ m0 ⟨0,σ,H2,I2,iI,λb hb=>(f2 b hb).1,w0⟩
 rintro n s3 ⟨i,jM,H3,I3,lD,lE,w3⟩
 rcases turn i n jM H3 w3 with ⟨stop,qn⟩ | ⟨go,N,hN,step⟩
 ·refine wpAny_passesOwn hp (aK (T.done X rfl rfl rfl hc i pins s3 jM H3 X.xe I3 (stat lE) lD stop) λr s4 ⟨hr,I4⟩=>?_)
  subst hr
  exact wpAny_execs_nil ⟨jM,H3,I4,qn⟩
 ·refine wpAny_passesOwn hp (aK (T.item X rfl rfl rfl hc i pins s3 jM H3 X.xe I3 (stat lE) lD go) λr s4 ⟨u,hr,h4⟩=>?_)
  subst hr
  refine wpAny_passesOwn hp (aK h4 λ_ s5 ⟨x,H5,I5,r5,y5,je,ra⟩=>?_)
  have rb:=I5.pinned (stat ra) (T.obj _ _ je)
  refine wpAny_passesOwn hp (aK (hg _ s5 jM H5 x u _ rb r5 (step x H5 y5)) λ_ s6 ⟨QP,H6,I6,q6⟩=>?_)
  refine wpAny_passesOwn hp (aK (hb _ s6 QP H6 _ I6 q6) λf s7 q7=>?_)
  have again:∀{jf:St} {H7:Hp},Inv X (pins++lb fp s5.heap) jf H7 s7->N jf H7->∃m,m<n/\∃i aU H',Inv X pins aU H' s7/\tn i s7.heap/\(∀b∈fp,H' b=none)/\W i m aU H':=λ{jf H7} I7 n7=>by
   obtain⟨m',hm,w7⟩:=hN jf H7 n7
   refine⟨m',hm,i+1,jf,H7,I7.j7,T.keep _ _ _ je λb hb o e=>(I7.pin (b,o) (List.mem_append_right _ (List.mem_append_right _ (nR hb e)))).1,λb hb=>?_,w7⟩
   obtain⟨o,e,d⟩:=T.obj _ _ je b hb
   exact(I7.pin (b,o) (List.mem_append_right _ (List.mem_append_right _ (nR hb e)))).2.1
  cases f with
  |next=>obtain⟨jf,H7,I7,n7⟩:=q7;exact again I7 n7
  |cont=>obtain⟨jf,H7,I7,n7⟩:=q7;exact again I7 n7
  |brk=>obtain⟨jf,H7,I7,q7⟩:=q7;exact⟨jf,H7,I7.j7,q7⟩
  |ret v=>obtain⟨x7,jf,H7,I7,r7,q7⟩:=q7;exact⟨x7,jf,H7,I7.j7,r7,q7⟩
end
end L2
namespace L2
open PySem PySem.Spec PyProof.Rows
noncomputable abbrev R2:=V->V->Hp->VK->Prop
def bg (X:Cx) (f:Value->Value->Sem Value) (r:R2):Prop :=
 ∀(pins:List (Addr×Obj)) (s:Shared) (σ:St) (H:Hp) (x y:V) (v u:Value) (Q:VK),Inv X pins σ H s->RelV x v->RelV y u->r x y H Q ->
  wpAny (model X.prog X.w) X.A (f v u) (EP X pins σ Q) X.xe s
def rf (X:Cx) (f:Value->Sem Value) (r:V->Hp->VK->Prop):Prop :=
 ∀(pins:List (Addr×Obj)) (s:Shared) (σ:St) (H:Hp) (x:V) (v:Value) (Q:VK),Inv X pins σ H s->RelV x v->r x H Q ->
  wpAny (model X.prog X.w) X.A (f v) (EP X pins σ Q) X.xe s
def cF (X:Cx) (f:Value) (r:List V->Hp->VK->Prop):Prop :=
 ∀(pins:List (Addr×Obj)) (s:Shared) (σ:St) (H:Hp) (xs:List V) (us:List Value) (Q:VK),Inv X pins σ H s->Vals xs us->r xs H Q ->
  wpAny (model X.prog X.w) X.A (call f us) (EP X pins σ Q) X.xe s
def P4 (X:Cx) (r:V->Hp->(Bool->Hp->Prop)->Prop):Prop :=
 ∀(pins:List (Addr×Obj)) (s:Shared) (σ:St) (H:Hp) (x:V) (v:Value) (Q:Bool->Hp->Prop),Inv X pins σ H s->RelV x v->r x H Q ->
  wpAny (model X.prog X.w) X.A (truthy v) (TP X pins σ Q) X.xe s
noncomputable def rg (r:R2) (ta tb:TE):TE:=fun σ H Q=>ta σ H λx H1=>tb σ H1 λy H2=>r x y H2 Q
noncomputable def QQ (r:V->Hp->VK->Prop) (ta:TE):TE:=fun σ H Q=>ta σ H λx H1=>r x H1 Q
noncomputable def rI (C:Int->Int->Prop) (g:Int->Int->V):R2:=λx y H Q=>∃i j,x=.int i/\y=.int j/\C i j/\Q (g i j) H
noncomputable def mZ (g:Int->Int->V):R2:=λx y H Q=>∃i j,x=.int i/\y=.int j/\Q (g i j) H
noncomputable def rU (g:Int->V):V->Hp->VK->Prop:=λx H Q=>∃i,x=.int i/\Q (g i) H
section
variable {X:Cx} {a b c:Expr} {ta tb tc:TE} {pos:Pos}
theorem yv (ha:PE X a ta) (hb:PE X b tb) {pins:List (Addr×Obj)} {s:Shared} {σ:St} {H:Hp} {R:V->V->Hp->Prop} (I:Inv X pins σ H s)
  (h:ta σ H λx H1=>tb σ H1 λy H2=>R x y H2) {Q:Value->Shared->Prop} {f:Value->Value->Sem Value}
  (hf:∀v u s2 x y H2,Inv X pins σ H2 s2->RelV x v->RelV y u->R x y H2->wpAny (model X.prog X.w) X.A (f v u) Q X.xe s2) :
  wpAny (model X.prog X.w) X.A (eval a X.env) (λv bz=>wpAny (model X.prog X.w) X.A (eval b X.env) (λu uA=>wpAny (model X.prog X.w) X.A (f v u) Q X.xe uA) X.xe bz) X.xe s:=by
 refine aK (ha pins s σ H _ I h) λv s1 ⟨x,H1,I1,r1,q1⟩=>?_
 refine aK (hb pins s1 σ H1 _ I1 q1) λu s2 ⟨y,H2,I2,r2,q2⟩=>?_
 exact hf v u s2 x y H2 I2 r1 r2 q2
theorem OG {op:Operator} {r:R2} (ho:bg X (binaryOp op) r) (ha:PE X a ta) (hb:PE X b tb):PE X (.BinOp a op b pos) (rg r ta tb):=by
 intro pins s σ H Q I h
 exact wpAny_BinOp (yv ha hb I h λv u s2 x y H2 I2 rx ry q=>ho pins s2 σ H2 x y v u Q I2 rx ry q)
theorem OH {op:UnaryOp} {r:V->Hp->VK->Prop} (ho:rf X (unaryOp op) r) (ha:PE X a ta):PE X (.UnaryOp op a pos) (QQ r ta):=by
 intro pins s σ H Q I h
 exact UnaryOp_ (aK (ha pins s σ H _ I h) λv s1 ⟨x,H1,I1,r1,q1⟩=>ho pins s1 σ H1 x v Q I1 r1 q1)
theorem u5 {f:Value->Value->Sem Value} {C:Int->Int->Prop} {g:Int->Int->Int}
  (rule:∀(i j:Int) (t u:Tok) (s:Shared) (Q:Value->Shared->Prop) (E:Value->Shared->Prop),C i j->Q (.int (g i j) s.toks) { s with toks:=s.toks+1 }->wpAny (model X.prog X.w) X.A (f (.int i t) (.int j u)) Q E s) :
  bg X f (rI C λi j=>.int (g i j)):=by
 intro pins s σ H x y v u Q I rx ry h
 obtain⟨i,j,rfl,rfl,hc,q⟩:=h
 obtain⟨t,rfl⟩:=rx
 obtain⟨t',rfl⟩:=ry
 exact rule i j t t' s _ _ hc ⟨.int (g i j),H,I.tok _,⟨_,rfl⟩,q⟩
theorem FO {f:Value->Value->Sem Value} {g:Int->Int->Int}
  (rule:∀(i j:Int) (t u:Tok) (s:Shared) (Q:Value->Shared->Prop) (E:Value->Shared->Prop),Q (.int (g i j) s.toks) { s with toks:=s.toks+1 }->wpAny (model X.prog X.w) X.A (f (.int i t) (.int j u)) Q E s) :
  bg X f (mZ λi j=>.int (g i j)):=by
 intro pins s σ H x y v u Q I rx ry h
 obtain⟨i,j,rfl,rfl,q⟩:=h
 obtain⟨t,rfl⟩:=rx
 obtain⟨t',rfl⟩:=ry
 exact rule i j t t' s _ _ ⟨.int (g i j),H,I.tok _,⟨_,rfl⟩,q⟩
theorem yw {f:Value->Value->Sem Value} {g:Int->Int->Bool}
  (rule:∀(i j:Int) (t u:Tok) (s:Shared) (Q:Value->Shared->Prop) (E:Value->Shared->Prop),Q (.bool (g i j)) s->wpAny (model X.prog X.w) X.A (f (.int i t) (.int j u)) Q E s) :
  bg X f (mZ λi j=>.bl (g i j)):=by
 intro pins s σ H x y v u Q I rx ry h
 obtain⟨i,j,rfl,rfl,q⟩:=h
 obtain⟨t,rfl⟩:=rx
 obtain⟨t',rfl⟩:=ry
 exact rule i j t t' s _ _ ⟨.bl (g i j),H,I,rfl,q⟩
def P5 (i j:Int):Prop:=0<j/\j<1073741824
def P6 (i j:Int):Prop:=0<=j/\j<=1000000/\i.natAbs<2 ^ 64
def uB (i j:Int):Prop:=(-(2 ^ 64)<i/\i<2 ^ 64)\/(-(2 ^ 64)<j/\j<2 ^ 64)
theorem uB.ok {i j:Int} (h:uB i j):IntMulOk i j:=by
 rcases h with ⟨h1,h2⟩ | ⟨h1,h2⟩
 ·exact .of_left (intBits_le_64 h1 h2)
 ·exact .of_right (intBits_le_64 h1 h2)
theorem Nl:bg X (binaryOp .Add) (mZ λi j=>.int (i+j)):=FO λ_ _ _ _ _ _ _ q=>add_int q
theorem Nm:bg X (binaryOp .Sub) (mZ λi j=>.int (i-j)):=FO λ_ _ _ _ _ _ _ q=>sub_int q
theorem Nn:bg X (binaryOp .Mult) (rI uB λi j=>.int (i*j)):=u5 λ_ _ _ _ _ _ _ hc q=>mul_int q hc.ok
theorem LK:bg X (binaryOp .FloorDiv) (rI P5 λi j=>.int (i / j)):=u5 λi j _ _ _ _ _ hc q=>by
 have h1:(0:Int)<j:=hc.1
 have h2:j<1073741824:=hc.2
 exact floordiv_int (by omega) (by rw[Int.fdiv_eq_ediv_of_nonneg i (by omega)];exact q) (.inl (PyProof.noPylong_small (by omega)))
theorem Np:bg X (binaryOp .Mod) (rI (λ_ j=>0<j) λi j=>.int (i % j)):=u5 λi j _ _ _ _ _ hc q=>by
 have h1:(0:Int)<j:=hc
 exact mod_int' (by omega) (by rw[Int.fmod_eq_emod_of_nonneg i (by omega)];exact q)
theorem Nq:bg X (binaryOp .Pow) (rI P6 λi j=>.int (i ^ j.toNat)):=u5 λ_ _ _ _ _ _ _ hc q=>pow_int_small hc.1 hc.2.1 hc.2.2 q
theorem QR {f:Value->Sem Value} {g:Int->Int}
  (rule:∀(i:Int) (t:Tok) (s:Shared) (Q:Value->Shared->Prop) (E:Value->Shared->Prop),Q (.int (g i) s.toks) { s with toks:=s.toks+1 }->wpAny (model X.prog X.w) X.A (f (.int i t)) Q E s) :
  rf X f (rU λi=>.int (g i)):=by
 intro pins s σ H x v Q I rx h
 obtain⟨i,rfl,q⟩:=h
 obtain⟨t,rfl⟩:=rx
 exact rule i t s _ _ ⟨.int (g i),H,I.tok _,⟨_,rfl⟩,q⟩
theorem Nr:rf X (unaryOp .USub) (rU λi=>.int (-i)):=QR λ_ _ _ _ _ q=>neg_int q
end
noncomputable def yx:V->V->Bool
 | .aB,.aB=>true | .aB,.int _=>true | .int _,.aB=>true | .aB,.bl _=>true | .bl _,.aB=>true | .aB,.str _=>true | .str _,.aB=>true
 | .int _,.int _=>true | .bl _,.bl _=>true | .str _,.str _=>true | .ij _,.ij _=>true
 | .int _,.str _=>true | .str _,.int _=>true | .bl _,.str _=>true | .str _,.bl _=>true
 |_,_=>false
noncomputable def QS:R2:=λx y H Q=>yx x y=true/\Q (.bl (decide (x=y))) H
noncomputable def QT:R2:=λx y H Q=>yx x y=true/\Q (.bl (!decide (x=y))) H
theorem Dk {i j:Int}:decide (V.int i=V.int j)=(i==j):=by
 rw[Bool.eq_iff_iff]
 simp
theorem Ef {i j:Bool}:decide (V.bl i=V.bl j)=(i==j):=by
 rw[Bool.eq_iff_iff]
 simp
theorem wV {i j:Str}:decide (V.str i=V.str j)=(i==j):=by
 rw[Bool.eq_iff_iff]
 simp
theorem Dl {i j:Array UInt8}:decide (V.ij i=V.ij j)=(i.toList==j.toList):=by
 rw[Bool.eq_iff_iff]
 cases i
 cases j
 simp
section
variable {X:Cx} {a b c:Expr} {ta tb tc:TE} {pos:Pos}
theorem cf {pins:List (Addr×Obj)} {σ:St} {H:Hp} {s:Shared} {Q:VK} {k k':Bool} (I:Inv X pins σ H s) (q:Q (.bl k) H) (e:k=k'):EP X pins σ Q (.bool k') s:=by
 subst e
 exact⟨.bl k,H,I,rfl,q⟩
theorem OI:bg X (compareOp .Eq) QS:=by
 intro pins s σ H x y v u Q I rx ry h
 obtain⟨hs,q⟩:=h
 cases x with
 |aB =>
  cases rx
  cases y with
  |aB=>cases ry;exact PySem.EqNone.eq_none_none (cf I q (by simp))
  |bl j=>cases ry;exact PySem.EqNone.eq_none_bool (cf I q (by simp))
  |int j=>obtain⟨t',rfl⟩:=ry;exact PySem.EqNone.eq_none_int (cf I q (by simp))
  |str j=>obtain⟨t',rfl⟩:=ry;exact PySem.EqNone.eq_none_str (cf I q (by simp))
  |_=>exact absurd (show false=true from hs) Bool.false_ne_true
 |bl i =>
  cases rx
  cases y with
  |aB=>cases ry;exact PySem.EqNone.eq_bool_none (cf I q (by simp))
  |bl j=>cases ry;exact eq_bool (cf I q Ef)
  |str j=>obtain⟨t',rfl⟩:=ry;exact PySem.EqMixed.eq_bool_str (cf I q (by simp))
  |_=>exact absurd (show false=true from hs) Bool.false_ne_true
 |int i =>
  obtain⟨t,rfl⟩:=rx
  cases y with
  |aB=>cases ry;exact PySem.EqNone.eq_int_none (cf I q (by simp))
  |int j=>obtain⟨t',rfl⟩:=ry;exact eq_int (cf I q Dk)
  |str j=>obtain⟨t',rfl⟩:=ry;exact PySem.EqMixed.eq_int_str (cf I q (by simp))
  |_=>exact absurd (show false=true from hs) Bool.false_ne_true
 |str i =>
  obtain⟨t,rfl⟩:=rx
  cases y with
  |aB=>cases ry;exact PySem.EqNone.eq_str_none (cf I q (by simp))
  |bl j=>cases ry;exact PySem.EqMixed.eq_str_bool (cf I q (by simp))
  |int j=>obtain⟨t',rfl⟩:=ry;exact PySem.EqMixed.eq_str_int (cf I q (by simp))
  |str j=>obtain⟨t',rfl⟩:=ry;exact eq_str (cf I q wV)
  |_=>exact absurd (show false=true from hs) Bool.false_ne_true
 |ij i =>
  obtain⟨t,rfl⟩:=rx
  cases y with
  |ij j=>obtain⟨t',rfl⟩:=ry;exact PySem.W.eq_bytes (cf I q Dl)
  |_=>exact absurd (show false=true from hs) Bool.false_ne_true
 |_=>cases y<;>exact absurd (show false=true from hs) Bool.false_ne_true
theorem OJ:bg X (compareOp .NotEq) QT:=by
 intro pins s σ H x y v u Q I rx ry h
 obtain⟨hs,q⟩:=h
 cases x with
 |aB =>
  cases rx
  cases y with
  |aB=>cases ry;exact PySem.EqNone.ne_none_none (cf I q (by simp))
  |bl j=>cases ry;exact PySem.EqNone.ne_none_bool (cf I q (by simp))
  |int j=>obtain⟨t',rfl⟩:=ry;exact PySem.EqNone.ne_none_int (cf I q (by simp))
  |str j=>obtain⟨t',rfl⟩:=ry;exact PySem.EqNone.ne_none_str (cf I q (by simp))
  |_=>exact absurd (show false=true from hs) Bool.false_ne_true
 |bl i =>
  cases rx
  cases y with
  |aB=>cases ry;exact PySem.EqNone.ne_bool_none (cf I q (by simp))
  |bl j=>cases ry;exact ne_bool (cf I q (congrArg not Ef))
  |str j=>obtain⟨t',rfl⟩:=ry;exact PySem.EqMixed.ne_bool_str (cf I q (by simp))
  |_=>exact absurd (show false=true from hs) Bool.false_ne_true
 |int i =>
  obtain⟨t,rfl⟩:=rx
  cases y with
  |aB=>cases ry;exact PySem.EqNone.ne_int_none (cf I q (by simp))
  |int j=>obtain⟨t',rfl⟩:=ry;exact ne_int (cf I q (congrArg not Dk))
  |str j=>obtain⟨t',rfl⟩:=ry;exact PySem.EqMixed.ne_int_str (cf I q (by simp))
  |_=>exact absurd (show false=true from hs) Bool.false_ne_true
 |str i =>
  obtain⟨t,rfl⟩:=rx
  cases y with
  |aB=>cases ry;exact PySem.EqNone.ne_str_none (cf I q (by simp))
  |bl j=>cases ry;exact PySem.EqMixed.ne_str_bool (cf I q (by simp))
  |int j=>obtain⟨t',rfl⟩:=ry;exact PySem.EqMixed.ne_str_int (cf I q (by simp))
  |str j=>obtain⟨t',rfl⟩:=ry;exact ne_str (cf I q (congrArg not wV))
  |_=>exact absurd (show false=true from hs) Bool.false_ne_true
 |ij i =>
  obtain⟨t,rfl⟩:=rx
  cases y with
  |ij j=>obtain⟨t',rfl⟩:=ry;exact PySem.W.ne_bytes (cf I q (congrArg not Dl))
  |_=>exact absurd (show false=true from hs) Bool.false_ne_true
 |_=>cases y<;>exact absurd (show false=true from hs) Bool.false_ne_true
theorem OK:bg X (compareOp .LtE) (mZ λi j=>.bl (decide (i<=j))):=yw λ_ _ _ _ _ _ _ q=>le_int q
theorem OL:bg X (compareOp .Gt) (mZ λi j=>.bl (decide (j<i))):=yw λ_ _ _ _ _ _ _ q=>gt_int q
theorem OM:bg X (compareOp .GtE) (mZ λi j=>.bl (decide (j<=i))):=yw λ_ _ _ _ _ _ _ q=>ge_int q
theorem bT (b:Expr) {op:CmpOp} (h:op≠.In:=by decide) (h2:op≠.NotIn:=by decide):behindInMarks op b=false:=by
 have e1:(op==CmpOp.In)=false:=by cases op<;>first|rfl|exact absurd rfl h
 have e2:(op==CmpOp.NotIn)=false:=by cases op<;>first|rfl|exact absurd rfl h2
 cases b<;>simp[behindInMarks,e1,e2]
theorem LL {op:CmpOp} {r:R2} (ho:bg X (compareOp op) r) (ha:PE X a ta) (hb:PE X b tb) (hm:behindInMarks op b=false):PE X (.Compare a [op] [b] pos) (rg r ta tb):=by
 intro pins s σ H Q I h
 exact wpAny_Compare1 (yv ha hb I h λv u s2 x y H2 I2 rx ry q=>ho pins s2 σ H2 x y v u Q I2 rx ry q) hm
noncomputable def ue (t:TE):TT:=fun σ H Q=>t σ H λx H'=>∃k,x=.bl k/\Q k H'
theorem LM {op:CmpOp} {r:R2} (ho:bg X (compareOp op) r) (ha:PE X a ta) (hb:PE X b tb) (hm:behindInMarks op b=false):PT X (.Compare a [op] [b] pos) (ue (rg r ta tb)):=by
 intro pins s σ H Q I h
 refine wpAny_isTrue_Compare1 (aK (ha pins s σ H _ I h) λv s1 ⟨x,H1,I1,r1,q1⟩=>aK (hb pins s1 σ H1 _ I1 q1) λu s2 ⟨y,H2,I2,r2,q2⟩ =>
  aK (ho pins s2 σ H2 x y v u _ I2 r1 r2 q2) λc s3 ⟨z,H3,I3,r3,k,e,q3⟩=>?_) hm
 subst e
 cases r3
 exact wpAny_truthy_bool ⟨H3,I3,q3⟩
noncomputable def Eg (r r':R2) (ta tb tc:TE):TE:=fun σ H Q=>ta σ H λx H1=>tb σ H1 λy H2=>r x y H2 λz H3=>∃k,z=.bl k /\
 (if k=true then tc σ H3 λw' H4=>r' y w' H4 Q else Q (.bl false) H3)
theorem Kp {op m7:CmpOp} {r r':R2} (ho:bg X (compareOp op) r) (dw:bg X (compareOp m7) r') (ha:PE X a ta) (hb:PE X b tb) (hc:PE X c tc)
  (hm:lastMarks [op,m7] [b,c]=false:=by with_unfolding_all rfl):PE X (.Compare a [op,m7] [b,c] pos) (Eg r r' ta tb tc):=by
 intro pins s σ H Q I h
 refine Compare_chain (aK (ha pins s σ H _ I h) λv s1 ⟨x,H1,I1,r1,q1⟩=>chain_link (aK (hb pins s1 σ H1 _ I1 q1) λu s2 ⟨y,H2,I2,r2,q2⟩ =>
  aK (ho pins s2 σ H2 x y v u _ I2 r1 r2 q2) λd s3 ⟨z,H3,I3,r3,k,e,q3⟩=>?_)) hm
 subst e
 cases r3
 refine wpAny_truthy_bool ?_
 cases k with
 |false=>exact ite_ff ⟨.bl false,H3,I3,rfl,q3⟩
 |true=>exact ite_tt (chain_last (aK (hc pins s3 σ H3 _ I3 q3) λw' s4 ⟨z',H4,I4,r4,q4⟩=>dw pins s4 σ H4 y z' u w' Q I4 r2 r4 q4))
def mM (K:Frag) (x:V) (H:Hp) (k:Bool):Prop :=
 match x with
 | .aB=>k=false
 | .bl b=>k=b
 | .int i=>k=(i != 0)
 | .str y=>y.length<=sizeLine/\k=((y.length:Int) != 0)
 | .ij y=>y.size<=sizeLine/\k=((y.size:Int) != 0)
 | .ref p=>(∃xs,bL K H p xs/\k=!xs.isEmpty)\/(∃xs,aR K H p xs/\k=!xs.isEmpty)\/∃ao,H p=some (.dK ao)/\k=!ao.isEmpty
 |_=>False
theorem Iq {κ:Type} {ao:List (κ×V)} {vs:List (κ×Value)} (r:KV ao vs):(!vs.isEmpty)=!ao.isEmpty:=by
 cases r<;>rfl
theorem BD {xs:List V} {its:List Value} (r:Vals xs its):(!its.toArray.isEmpty)=!xs.isEmpty:=by
 cases r<;>simp
theorem me:(sizeLine:Nat)<2 ^ 63:=by rw[sizeLine_eq];decide
theorem Eh:P4 X (λx H Q=>∃k,mM X.K x H k/\Q k H):=by
 intro pins s σ H x v Q I rx h
 obtain⟨k,e,q⟩:=h
 have hl:=me
 have hs:sizeLine=16777216:=sizeLine_eq
 cases x with
 |aB =>
  cases rx
  have e':k=false:=e
  subst e'
  exact truthy_none ⟨H,I,q⟩
 |bl b =>
  cases rx
  have e':k=b:=e
  subst e'
  exact wpAny_truthy_bool ⟨H,I,q⟩
 |int i =>
  obtain⟨t,rfl⟩:=rx
  have e':k=(i != 0):=e
  subst e'
  exact PySem.P.truthy_int ⟨H,I,q⟩
 |str y =>
  obtain⟨t,rfl⟩:=rx
  obtain⟨hy,e'⟩:y.length<=sizeLine/\k=((y.length:Int) != 0):=e
  subst e'
  exact PySem.P.truthy_str (by omega) ⟨H,I.tok _,q⟩
 |ij y =>
  obtain⟨t,rfl⟩:=rx
  obtain⟨hy,e'⟩:y.size<=sizeLine/\k=((y.size:Int) != 0):=e
  subst e'
  exact PySem.W.truthy_bytes (by omega) ⟨H,I.tok _,q⟩
 |ref p =>
  cases rx
  have e':(∃xs,bL X.K H p xs/\k=!xs.isEmpty)\/(∃xs,aR X.K H p xs/\k=!xs.isEmpty)\/∃ao,H p=some (.dK ao)/\k=!ao.isEmpty:=e
  rcases e' with ⟨xs,hx,e'⟩ | ⟨xs,hx,e'⟩ | ⟨ao,hx,e'⟩
  ·subst e'
   obtain⟨its,r,pl,hz⟩:=I.list hx
   have hlen:=r.length
   exact wpAny_truthy_list pl.isList (by simp only[List.size_toArray];omega) ⟨H,I.tok _,by rw[BD r];exact q⟩
  ·subst e'
   obtain⟨its,r,pl,hz⟩:=I.tuple hx
   have hlen:=r.length
   exact truthy_tuple pl (by simp only[List.size_toArray];omega) ⟨H,I.tok _,by rw[BD r];exact q⟩
  ·subst e'
   obtain⟨hz,hS,vs,r,m⟩:ao.length<=sizeLine/\(p==sysModules)=false/\∃vs,KV ao vs/\s.heap.DictOf (tj X.prog X.w) p vs:=I.aJ p _ hx
   have hlen:ao.length=vs.length:=Paired.length r
   exact wpAny_truthy_dict hS m (by omega) ⟨H,I.tok _,by rw[Iq r];exact q⟩
 |_=>exact(show False from e).elim
theorem Kq (ha:PE X a ta) (he:∀whole,isTrue a X.env whole=(do let v <- whole;standAt a.pos;holding [v] (truthy v))) :
  PT X a (fun σ H Q=>ta σ H λx H'=>∃k,mM X.K x H' k/\Q k H'):=by
 intro pins s σ H Q I h
 exact isTrue_plain (aK (ha pins s σ H _ I h) λv s1 ⟨x,H1,I1,r1,q1⟩=>Eh pins s1 σ H1 x v Q I1 r1 q1) (he _)
theorem Ir:bg X (binaryOp .Add) (λx y H Q=>∃i j,x=.str i/\y=.str j/\i.length+j.length<=sizeLine/\Q (.str (i++j)) H):=by
 intro pins s σ H x y v u Q I rx ry h
 obtain⟨i,j,rfl,rfl,hz,q⟩:=h
 obtain⟨t,rfl⟩:=rx
 obtain⟨t',rfl⟩:=ry
 exact add_str (λt' tk=>⟨.str (i++j),H,I.tok _,⟨_,rfl⟩,q⟩) hz
theorem vals1 {x:V} {us:List Value} (r:Vals [x] us):∃u,us=[u]/\RelV x u:=by
 cases r with
 |cons r1 r2=>cases r2;exact⟨_,rfl,r1⟩
theorem vals2 {x y:V} {us:List Value} (r:Vals [x,y] us):∃u w',us=[u,w']/\RelV x u/\RelV y w':=by
 cases r with
 |cons r1 r2 =>
  cases r2 with
  |cons r3 r4=>cases r4;exact⟨_,_,rfl,r1,r3⟩
theorem Jm (hc:X.calm=true):cF X (.builtin "max") (λxs H Q=>∃i j,xs=[.int i,.int j]/\Q (.int (if j > i then j else i)) H):=by
 intro pins s σ H xs us Q I r h
 obtain⟨i,j,rfl,q⟩:=h
 obtain⟨u,w',rfl,⟨t,rfl⟩,⟨t',rfl⟩⟩:=vals2 r
 refine max_two_ints (I.ok.hd hc) λh' tk k=>⟨_,H,I.kept k,?_,q⟩
 by_cases hj:j > i
 ·rw[if_pos hj,if_pos hj];exact⟨_,rfl⟩
 ·rw[if_neg hj,if_neg hj];exact⟨_,rfl⟩
theorem Jn (hc:X.calm=true):cF X (.builtin "min") (λxs H Q=>∃i j,xs=[.int i,.int j]/\Q (.int (if j<i then j else i)) H):=by
 intro pins s σ H xs us Q I r h
 obtain⟨i,j,rfl,q⟩:=h
 obtain⟨u,w',rfl,⟨t,rfl⟩,⟨t',rfl⟩⟩:=vals2 r
 refine min_two_ints (I.ok.hd hc) λh' tk k=>⟨_,H,I.kept k,?_,q⟩
 by_cases hj:j<i
 ·rw[if_pos hj,if_pos hj];exact⟨_,rfl⟩
 ·rw[if_neg hj,if_neg hj];exact⟨_,rfl⟩
end
end L2
namespace L2
open PySem PySem.Spec PyProof.Rows
structure Th (h:Heap) (x dx C:Addr) (mA:Str->Option Value):Prop where
 obj:h.get? x=some (PySem.W.instObj C dx)
 ns:h.Ns1 dx mA
 ne:dx≠x
section
variable {prog:Program} {w:World} {A:Around} {E:Value->Shared->Prop} {s:Shared} {K:Frag} {x dx C f:Addr} {mA:Str->Option Value} {name:Str} {v:Value}
end
section
variable {P:Program} {w:World} {H H':Hp} {h h':Heap} {a C dx:Addr} {fs QM:List (Str×V)}
end
structure QU (K:Frag) (C:Addr):Prop where
 pg:PySem.W.plainGet K C Str.empty=true
 hd:PySem.W.hasDictIn K C=true
 po:PySem.W.plainOver K C=true
 sa:PySem.W.findIn K (.ref C) "__setattr__"=some (some (.builtin "object.__setattr__"))
structure Ts (K:Frag) (C:Addr) (f:Str) (v:V) (u:Value):Prop where
 at_:PySem.W.findIn K (.ref C) f=some (some u)
 rel:RelV v u
 get:PySem.W.specialIn K u "__get__"=some none
 cp:PySem.W.copiedNames.contains f=false
structure Meth (K:Frag) (C:Addr) (m:Str) (f:Addr):Prop where
 at_:PySem.W.findIn K (.ref C) m=some (some (.ref f))
 fn:PySem.W.isFn K (.ref f)=true
 kp:PySem.W.keepIn K (.ref f)=true
section
variable {X:Cx} {pins:List (Addr×Obj)} {σ:St} {H:Hp} {s:Shared} {a C dx:Addr} {fs:List (Str×V)} {f:Str} {v:V} {A:Around} {E:Value->Shared->Prop}
end
section
variable {X:Cx} {o e value:Expr} {f:Str} {pos pos' yy:Pos} {ta tv:TE}
end
section
variable {X:Cx} {pins:List (Addr×Obj)} {σ:St} {H:Hp} {s:Shared} {A:Around} {E:Value->Shared->Prop} {Q:Value->Shared->Prop} {c:Value} {b:Bool}
inductive i4 (K:Frag) (H:Hp):V->Value->Prop where
 |aB:i4 K H .aB (.type "NoneType")
 |bl (x:Bool):i4 K H (.bl x) (.type "bool")
 |int (i:Int):i4 K H (.int i) (.type "int")
 |str (x:Str):i4 K H (.str x) (.type "str")
 |qQ (x:UInt64):i4 K H (.qQ x) (.type "float")
 |lst {a:Addr} {xs:List V} (e:H a=some (.lst xs)):i4 K H (.ref a) (.type "list")
 |cH {a:Addr} {o:Obj} {xs:List V} (e:H a=some (.cH o (.lst xs))):i4 K H (.ref a) (.type "list")
 |tup {a:Addr} {xs:List V} (e:H a=some (.tup xs)):i4 K H (.ref a) (.type "tuple")
 |dK {a:Addr} {ao:List (Key×V)} (e:H a=some (.dK ao)):i4 K H (.ref a) (.type "dict")
 |dT {a:Addr} {ao:List (List Key×V)} (e:H a=some (.dT ao)):i4 K H (.ref a) (.type "dict")
 |ins {a C dx:Addr} {fs:List (Str×V)} (e:H a=some (.ins C dx fs)) (cl:QU K C) (ha:PySem.W.findIn K (.ref C) "__class__"=some (some (.builtin "object.__class__")))
   (hn:PySem.W.specialIn K (.builtin "object.__class__") "__get__"=some (some (.builtin "getset_descriptor.__get__"))) (Gn:PySem.W.takesIn K (.builtin "object.__class__")=some true)
   (hm:PySem.W.mroIn K C (.type "object")=some true):i4 K H (.ref a) (.ref C)
end
end L2
namespace L2
open PySem PySem.Spec PyProof.Rows
structure cN (k:Nat) (A:Around):Prop where
 hd:A.handled=none
 dp:A.depth+3*k+5<recursionLimit
 un:A.units+16*k+200<cLine
 gd:A.guards=some []
theorem cN.mono {j k:Nat} {A:Around} (r:cN k A) (h:j<=k):cN j A:=⟨r.hd,by have:=r.dp;omega,by have:=r.un;omega,r.gd⟩
theorem cN.deeper {k:Nat} {A:Around} (r:cN (k+1) A) (env:Env):cN k (A.deeper env) :=
 ⟨r.hd,by have:=r.dp;show A.depth+1+3*k+5 < _;omega,by have:=r.un;show A.units+3+16*k+200 < _;omega,r.gd⟩
theorem cN.depth {k:Nat} {A:Around} (r:cN k A):A.depth<recursionLimit:=by have:=r.dp;omega
noncomputable def P7:TA:=λ_ H Q=>Q [] H
noncomputable def ON (ta:TE) (tr:TA):TA:=fun σ H Q=>ta σ H λx H1=>tr σ H1 λxs H2=>Q (x::xs) H2
section
variable {X:Cx} {e:Expr} {es:List Expr} {te:TE} {t:TA} {pos:Pos}
theorem p6:PA X [] P7:=λ_ _ _ _ H Q I h=>Calls.spliced_nil ⟨[],H,I,.nil,h⟩
theorem pX (ha:PE X e te) (hr:PA X es t) (hs:starEach (e::es) X.env=(false,eval e X.env)::starEach es X.env:=by rfl):PA X (e::es) (ON te t):=by
 intro pos pins s σ H Q I h
 rw[hs]
 show wpAny _ _ (spliced ((false,eval e X.env)::backTo pos (starEach es X.env))) _ _ s
 refine Calls.spliced_cons (aK (ha pins s σ H _ I h) λu s1 ⟨x,H1,I1,r1,q1⟩=>?_)
 exact aK (hr pos pins s1 σ H1 _ I1 q1) λus s2 ⟨xs,H2,I2,r2,q2⟩=>⟨x::xs,H2,I2,.cons r1 r2,q2⟩
noncomputable def P8 (t:TA):TE:=fun σ H Q=>t σ H λxs H1=>xs.length<=sizeLine/\∀p,H1 p=none->Q (.ref p) (upd H1 p (.tup xs))
noncomputable def P9 (t:TA):TE:=fun σ H Q=>t σ H λxs H1=>xs.length<=sizeLine/\∀p,H1 p=none->Q (.ref p) (upd H1 p (.lst xs))
theorem Nt {x1} (h:PA X es t):PE X (.Tuple es x1 pos) (P8 t):=by
 intro pins s σ H Q I hq
 refine wpAny_Tuple_spliced (aK (h pos pins s σ H _ I hq) λus s1 ⟨xs,H1,I1,r,z,q⟩=>⟨by rw[<- r.length];exact z,?_⟩)
 have hf:H1 s1.heap.objs.size=none:=I1.aJ.fresh (Nat.le_refl _)
 refine⟨.ref s1.heap.objs.size,upd H1 s1.heap.objs.size (.tup xs),I1.laid (t':=s1.toks) (λb u e=>Heap.get?_push_of_some _ e) (Nat.le_refl _) ?_,rfl,q _ hf⟩
 exact⟨z,us,r,⟨_,Heap.get?_push_size _ rfl,rfl,_,rfl⟩⟩
theorem Ei (h:PA X es t):PE X (.List es pos) (P9 t):=by
 intro pins s σ H Q I hq
 refine wpAny_List_spliced (aK (h pos pins s σ H _ I hq) λus s1 ⟨xs,H1,I1,r,z,q⟩=>⟨by rw[<- r.length];exact z,?_⟩)
 have hf:H1 s1.heap.objs.size=none:=I1.aJ.fresh (Nat.le_refl _)
 refine⟨.ref s1.heap.objs.size,upd H1 s1.heap.objs.size (.lst xs),I1.laid (t':=s1.toks) (λb u e=>Heap.get?_push_of_some _ e) (Nat.le_refl _) ?_,rfl,q _ hf⟩
 exact⟨z,us,0,r,Heap.get?_push_size _ rfl⟩
end
noncomputable abbrev Sp:=List V->Hp->VK->XK->Prop
noncomputable abbrev iJ:=List Env->Hp->Shared->XK->Value->Shared->Prop
structure uC (P:Program) (w:World) (K:Frag) (mg:Str->Option Value) (base:Heap) (A:Around) (outer:List Env) (s:Shared) (H:Hp):Prop where
 frames:A.frames=some outer
 mod:Mod K mg base
 bs:∀b o,base.get? b=some o->s.heap.get? b=some o/\H b=none
 jc:base.objs.size<=s.heap.objs.size
 iZ:s.heap.FunFrames base outer
 oV:∀b∈fZ outer,H b=none
 aJ:cb P w H s.heap
 bare:AllBare s.gens
def CE (outer:List Env) (P:Program) (w:World) (H:Hp) (s:Shared) (Q:VK) (u:Value) (s':Shared):Prop :=
 ∃v H',s'.os=s.os/\AllBare s'.gens/\Un (fZ outer) [] H H' s.heap s'.heap/\cb P w H' s'.heap/\RelV v u/\Q v H'
def CR (CX:iJ) (outer:List Env) (P:Program) (w:World) (H:Hp) (s:Shared) (Q:VK) (E:XK) (r:Result) (s':Shared):Prop :=
 match r with
 | .ok (.ret u)=>CE outer P w H s Q u s'
 | .ok _=>False
 | .error e=>CX outer H s E e s'
structure aS (P:Program) (w:World) (K:Frag) (mg:Str->Option Value) (base:Heap) (CX:iJ) (k:Nat) (f:Addr) (fd:FuncData) (ps:List Str) (sp:Sp):Prop where
 len:∀vs H Q E,sp vs H Q E->vs.length=ps.length
 run:∀(A:Around) (outer:List Env) (s:Shared) (H:Hp) (args:Args) (us:List Value) (vs:List V) (Q:VK) (E:XK),cN k A->uC P w K mg base A outer s H->BindsTo s fd args (ps.zip us)->Vals vs us->sp vs H Q E ->
  codeAny (model P w) A (.call (.ref f) args) (CR CX outer P w H s Q E) s
theorem aS.imp {P:Program} {w:World} {K:Frag} {mg:Str->Option Value} {base:Heap} {CX:iJ} {k:Nat} {f:Addr} {fd:FuncData} {ps:List Str} {sp Gp:Sp} (F:aS P w K mg base CX k f fd ps sp)
  (h:∀vs H Q E,Gp vs H Q E->sp vs H Q E):aS P w K mg base CX k f fd ps Gp :=
 ⟨λvs H Q E q=>F.len vs H Q E (h _ _ _ _ q),λA outer s H args us vs Q E hr he hb hv hs=>F.run A outer s H args us vs Q E hr he hb hv (h _ _ _ _ hs)⟩
section
variable {X:Cx} {pins:List (Addr×Obj)} {σ:St} {H:Hp} {s s':Shared}
theorem Inv.lr (I:Inv X pins σ H s):uC X.prog X.w X.K X.mg X.base X.A X.stack s H :=
 ⟨I.ok.frames,I.ok.mod,I.bs,Nat.le_trans I.ok.jc I.sz,I.stack,I.wU,I.aJ,I.bare⟩
theorem Inv.after {Q:VK} {u:Value} (I:Inv X pins σ H s) (h:CE X.stack X.prog X.w H s Q u s'):EP X pins σ Q u s':=by
 obtain⟨v,H',os,bare,un,aJ,r,q⟩:=h
 obtain⟨hh,g,d,t,zb⟩:=s'
 obtain rfl:zb=s.os:=os
 exact⟨v,H',I.call (h':=hh) (g':=g) (d':=d) (t':=t) (ch:=[]) un aJ bare (λb z=>absurd z (by simp)),r,q⟩
end
noncomputable def OO (sp:Sp) (au:List V) (E:XK) (t:TA):TE:=fun σ H Q=>t σ H λvs H1=>sp (vs++au) H1 Q E
def Binds (K:Frag) (fd:FuncData) (ps:List Str) (ds:List Value):Prop :=
 ∀(s:Shared) (us:List Value),K.In s.heap->(us++ds).length=ps.length->BindsTo s fd ⟨us,[]⟩ (ps.zip (us++ds))
theorem Binds.all {K:Frag} {fd:FuncData} {ps:List Str} (h:∀us:List Value,us.length=ps.length->bindArgs fd ⟨us,[]⟩=pure (ps.zip us)):Binds K fd ps []:=λs us _ hl=>by
 rw[List.append_nil] at hl |-
 exact .of_eq (h us hl)
def Passes (CX:iJ) (X:Cx) (E:XK):Prop:=∀(pins:List (Addr×Obj)) (σ:St) (H:Hp) (s:Shared) (e:Value) (s':Shared),Inv X pins σ H s->CX X.stack H s E e s'->X.xe e s'
section
variable {X:Cx} {CX:iJ} {k:Nat} {f C:Addr} {fd:FuncData} {ps:List Str} {sp:Sp} {au:List V} {ds:List Value} {E:XK} {x m:Str} {p pos apos:Pos} {e o:Expr} {es:List Expr} {ta:TE} {t:TA}
theorem Nu {pins:List (Addr×Obj)} {σ:St} {H:Hp} {s:Shared} {Q:VK} {us:List Value} {vs:List V} (F:aS X.prog X.w X.K X.mg X.base CX k f fd ps sp) (hr:cN k X.A) (hb:Binds X.K fd ps ds) (hd:Vals au ds) (hx:Passes CX X E)
  (I:Inv X pins σ H s) (r:Vals vs us) (h:sp (vs++au) H Q E):wpAny (model X.prog X.w) X.A (call (.ref f) us) (EP X pins σ Q) X.xe s:=by
 have r2:Vals (vs++au) (us++ds):=r.append hd
 have hl:(us++ds).length=ps.length:=by rw[<- r2.length];exact F.len _ _ _ _ h
 refine wpAny_call (codeAny_mono (F.run X.A X.stack s H ⟨us,[]⟩ (us++ds) (vs++au) Q E hr I.lr (hb s us I.oW hl) r2 h) λr s' hq=>?_)
 cases r with
 |error e=>exact hx pins σ H s e s' I hq
 |ok fl =>
  cases fl with
  |ret u=>exact I.after hq
  |next=>exact False.elim hq
  |brk=>exact False.elim hq
  |cont=>exact False.elim hq
theorem LN (F:aS X.prog X.w X.K X.mg X.base CX k f fd ps sp) (hr:cN k X.A) (hg:Gl X x) (hm:X.mg x=some (.ref f)) (hk:PySem.W.keepIn X.K (.ref f)=true) (hb:Binds X.K fd ps ds) (hd:Vals au ds) (hx:Passes CX X E)
  (ha:PA X (e::es) t) (jg:(x==("__debug__":Str))=false:=by decide) (he:starEach (e::es) X.env=(false,eval e X.env)::starEach es X.env:=by rfl) (cT:(backTo pos (starEach es X.env)).any (·.1)=false:=by rfl) :
  PE X (.Call (.Name x p) (e::es) [] pos) (OO sp au E t):=by
 intro pins s σ H Q I h
 refine wpAny_Call_Name_kw (Dj I hg hm ?_ jg)
 refine PySem.W.callWith_K (h₀:=X.base) I.ok.mod.uY hk (aK (ha pos pins s σ H _ I h) λus s1 ⟨vs,H1,I1,r,q⟩=>⟨I1.oW,?_⟩) he cT
 exact Nu F hr hb hd hx I1 r q
structure Mk (K:Frag) (C f:Addr):Prop where
 makes:PySem.W.makesIn K C=true
 init:PySem.W.findIn K (.ref C) "__init__"=some (some (.ref f))
 fn:PySem.W.isFn K (.ref f)=true
 kp:PySem.W.keepIn K (.ref C)=true
end
section
variable {X:Cx} {CX:iJ} {k:Nat} {f C:Addr} {fd:FuncData} {ps ks:List Str} {sp:Sp} {E:XK} {x m:Str} {p pos apos Qa:Pos} {e o:Expr} {es:List Expr} {Tt:List Keyword} {te ta:TE} {t tk:TA} {nm:Option Str}
structure Tf (K:Frag) (fd:FuncData) (ps ks:List Str) (g:List Value->List Value->List Value) (gV:List V->List V->List V):Prop where
 to:∀(s:Shared) (us ws:List Value),K.In s.heap->(g us ws).length=ps.length->BindsTo s fd ⟨us,ks.zip ws⟩ (ps.zip (g us ws))
 rel:∀{vs:List V} {us:List Value} {zs:List V} {ws:List Value},Vals vs us->Vals zs ws->Vals (gV vs zs) (g us ws)
variable {g:List Value->List Value->List Value} {gV:List V->List V->List V}
end
structure bt (N P:List Str) (sc:Scope):Prop where
 kind:sc.kind=.function
 co:sc.isCoroutine=false
 gen:sc.isGenerator=false
 nd:N.Nodup
 pre:N.take P.length=P
 par:∀x∈P,sc.names.lookup x=some .local\/sc.names.lookup x=some .cell
 Nv:∀y∈sc.names,y.2≠.free
theorem BX {kindOf:Str->Option NameKind} {x:Str}:∀{binds:List (Str×Value)} {m:Str->Option Value},(∀v,(x,v)∉binds)->bindL kindOf binds m x=m x
 | [],_,_=>rfl
 |(n,v)::r,m,h=>by
  unfold bindL
  rw[BX λw hw=>h w (List.mem_cons_of_mem _ hw)]
  split
  ·have:x≠n:=by rintro rfl;exact h v List.mem_cons_self
   simp[this]
  ·rfl
theorem BY {kindOf:Str->Option NameKind} {x:Str}:∀{binds:List (Str×Value)} {m:Str->Option Value},(∀v,(x,v)∉binds)->bindC kindOf binds m x=m x
 | [],_,_=>rfl
 |(n,v)::r,m,h=>by
  unfold bindC
  rw[BY λw hw=>h w (List.mem_cons_of_mem _ hw)]
  split
  ·rfl
  ·have:x≠n:=by rintro rfl;exact h v List.mem_cons_self
   simp[this]
theorem BZ {kindOf:Str->Option NameKind} {x:Str} {v:Value}:∀{P:List Str} {vs:List Value} {i:Nat} {m:Str->Option Value},P.Nodup->P[i]?=some x->vs[i]?=some v->kindOf x=some .local ->
  bindL kindOf (P.zip vs) m x=some v
 | [],_,_,_,_,h,_,_=>by simp at h
 |_::_,[],_,_,_,_,h,_=>by simp at h
 |p::P,w::vs,0,m,nd,h1,h2,hk=>by
  simp at h1 h2;subst h1;subst h2
  show bindL kindOf ((p,w)::P.zip vs) m p=_
  unfold bindL
  rw[BX λv hv=>(List.nodup_cons.mp nd).1 (List.of_mem_zip hv).1,if_pos hk]
  simp
 |p::P,w::vs,i+1,m,nd,h1,h2,hk=>by
  show bindL kindOf ((p,w)::P.zip vs) m x=_
  unfold bindL
  exact BZ (i:=i) (List.nodup_cons.mp nd).2 (by simpa using h1) (by simpa using h2) hk
theorem B0 {kindOf:Str->Option NameKind} {x:Str} {v:Value}:∀{P:List Str} {vs:List Value} {i:Nat} {m:Str->Option Value},P.Nodup->P[i]?=some x->vs[i]?=some v->kindOf x≠some .local ->
  bindC kindOf (P.zip vs) m x=some v
 | [],_,_,_,_,h,_,_=>by simp at h
 |_::_,[],_,_,_,_,h,_=>by simp at h
 |p::P,w::vs,0,m,nd,h1,h2,hk=>by
  simp at h1 h2;subst h1;subst h2
  show bindC kindOf ((p,w)::P.zip vs) m p=_
  unfold bindC
  rw[BY λv hv=>(List.nodup_cons.mp nd).1 (List.of_mem_zip hv).1,if_neg hk]
  simp
 |p::P,w::vs,i+1,m,nd,h1,h2,hk=>by
  show bindC kindOf ((p,w)::P.zip vs) m x=_
  unfold bindC
  exact B0 (i:=i) (List.nodup_cons.mp nd).2 (by simpa using h1) (by simpa using h2) hk
noncomputable def start (N:List Str) (vs:List V):St:=vs.map some++List.replicate (N.length-vs.length) none
noncomputable def mO (CX:iJ) (P:Program) (w:World) (K:Frag) (mg:Str->Option Value) (base:Heap) (N:List Str) (qual:Str) (scope:Scope) (f:Addr) (cd:Value) (A:Around) (outer:List Env) (s:Shared) (H:Hp) (E:XK):Cx where
 prog:=P
 w:=w
 K:=K
 mg:=mg
 base:=base
 A:=A.deeper (envOfC qual scope s.heap.objs.size f cd)
 N:=N
 cS:=s
 qE:=H
 env:=envOfC qual scope s.heap.objs.size f cd
 outer:=outer
 stack:=envOfC qual scope s.heap.objs.size f cd::outer
 ex:=[]
 calm:=true
 fn:=λ_=>true
 pn:=[]
 xe:=λe s'=>wpAny (model P w) (A.deeper (envOfC qual scope s.heap.objs.size f cd)) (leaving (envOfC qual scope s.heap.objs.size f cd) e) (λ_ rj=>CX outer H s E e rj) (λe' rj=>CX outer H s E e' rj) s'
theorem CD {sc:Scope} {n:Nat} {x:Str} (h:sc.names.lookup x=some .cell):∃c,(cellsFrom n sc.names []).lookup x=some c:=by
 have q:=PySem.W.cellsFrom_some sc.names n [] (.inl h)
 exact Option.isSome_iff_exists.mp q
theorem Jo {CX:iJ} {P:Program} {w:World} {K:Frag} {mg:Str->Option Value} {base:Heap} {N ps:List Str} {qual:Str} {scope:Scope} {f:Addr} {cd:Value} {A:Around} {outer:List Env} {s s1:Shared} {H:Hp} {E:XK} {us:List Value} {vs:List V}
  (S:bt N ps scope) (hd:A.handled=none) (e0:uC P w K mg base A outer s H) (hl:vs.length=ps.length) (r:Vals vs us)
  (x:InCallC s s.heap.objs.size (bindL (envOfC qual scope s.heap.objs.size f cd).kindOf (ps.zip us) λ_=>none) (cellsFrom (s.heap.objs.size+1) scope.names []) (bindC (envOfC qual scope s.heap.objs.size f cd).kindOf (ps.zip us) λ_=>none) s1) :
  Inv (mO CX P w K mg base N qual scope f cd A outer s H E) [] (start N vs) H s1:=by
 have cT:ps.length<=N.length:=by have:=congrArg List.length S.pre;rw[List.length_take] at this;omega
 obtain⟨h1,tk,rfl,hk⟩:=x.done
 have rk:∀b:Addr,b∉(mO CX P w K mg base N qual scope f cd A outer s H E).ex:=λb z=>absurd (show b∈([]:List Addr) from z) (by simp)
 refine⟨⟨e0.mod,S.kind,rfl,rfl,Nat.le_refl _,λy z c h1 h2=>?_,λy hy=>?_,λy c _ h=>?_,λ_=>hd,Around.frames_deeper e0.frames,.inr ⟨rfl,rfl⟩,λb z=>absurd z (rk b),e0.bs,e0.jc,λb _ _=>rk b,λb z=>absurd z (rk b),e0.iZ,e0.oV⟩,
  rfl,e0.bare,Un.kept hk,⟨_,x.toInCall.ns,λi y v h1 h2 h3=>?_⟩,λy c h=>⟨_,x.cell y c h⟩,e0.aJ.fresh (Nat.le_refl _),λy c h=>?_,λp hp=>absurd (show p∈([]:List (Addr×Obj)) from hp) (by simp),e0.aJ.kept hk,?_⟩
 ·exact name_of_addr x.apart (PySem.mem_of_lookup h1) (PySem.mem_of_lookup h2)
 ·have hy:scope.names.lookup y=some .cell\/scope.names.lookup y=some .free:=hy
  rcases hy with hy|hy
  ·exact CD hy
  ·exact absurd rfl (S.Nv _ (PySem.mem_of_lookup hy))
 ·exact Nat.le_of_lt (x.above y c (PySem.mem_of_lookup h))
 ·have hi:i<vs.length:=by
   unfold start at h2
   by_cases hi:i<vs.length
   ·exact hi
   ·rw[List.getElem?_append_right (by simpa using hi)] at h2
    rw[List.getElem?_replicate] at h2
    split at h2<;>cases h2
  have ha:vs[i]?=some v:=by
   unfold start at h2
   rw[List.getElem?_append_left (by simpa using hi),List.getElem?_map] at h2
   cases e:vs[i]? with
   |none=>rw[e] at h2;cases h2
   |some a=>rw[e] at h2;cases h2;rfl
  obtain⟨u,hu,rv⟩:=r.get ha
  have hp:ps[i]?=some y:=by
   rw[<- S.pre,List.getElem?_take_of_lt (by omega)];exact h1
  have Gq:ps.Nodup:=by rw[<- S.pre];exact S.nd.sublist (List.take_sublist _ _)
  refine⟨u,rv,?_⟩
  rcases S.par y (List.mem_of_getElem? hp) with k|k
  ·exact .inl ⟨k,BZ Gq hp hu k⟩
  ·obtain⟨c,e⟩:=CD (n:=s.heap.objs.size+1) k
   refine .inr ⟨.inl k,c,e,?_⟩
   have q:=x.cell y c e
   rw[B0 Gq hp hu (by show scope.names.lookup y≠_;rw[k];decide)] at q
   exact q
 ·exact e0.aJ.fresh (Nat.le_of_lt (x.above y c (PySem.mem_of_lookup h)))
 ·unfold start
  show _=N.length
  rw[List.length_append,List.length_map,List.length_replicate]
  omega
theorem OP {CX:iJ} {P:Program} {w:World} {K:Frag} {mg:Str->Option Value} {base:Heap} {k:Nat} {f:Addr} {name qual:Str} {params:Arguments} {body:List Stmt} {scope:Scope} {dV kV doc pm aX ct oc:Value} {an od:Option Addr}
  {lF:Array (Option Value)} {N ps:List Str} {sp:Sp} (lk:K.lookup f=some ⟨oc,od,.func (PySem.W.fnOf name qual params body scope dV kV doc pm an aX ct),lF⟩) (jd:PySem.W.codeIn K aX qual=true) (S:bt N ps scope)
  (len:∀vs H Q E,sp vs H Q E->vs.length=ps.length)
  (xT:∀(A:Around) (outer:List Env) (s:Shared) (H:Hp) (vs:List V) (Q:VK) (E:XK),cN k (A.deeper (envOfC qual scope s.heap.objs.size f aX))->sp vs H Q E ->
   ∃t,dE (mO CX P w K mg base N qual scope f aX A outer s H E) body t/\t { nx:=λ_ H'=>Q .aB H',rt:=Q } (start N vs) H) :
  aS P w K mg base CX (k+1) f (PySem.W.fnOf name qual params body scope dV kV doc pm an aX ct) ps sp:=by
 refine⟨len,λA outer s H args us vs Q E hr e0 hb r lG=>?_⟩
 have hl:=len _ _ _ _ lG
 have KX:K.In s.heap:=e0.mod.uY.keeps λb o e=>(e0.bs b o e).1
 have lim:s.heap.NoLimit:=e0.mod.nolimit.keeps λb o e=>(e0.bs b o e).1
 have OQ:∀y∈ps.zip us,scope.names.lookup y.1=some .local\/(scope.names.lookup y.1=some .cell/\((cellsFrom (s.heap.objs.size+1) scope.names []).lookup y.1).isSome=true):=λ⟨n,v⟩ hy=>by
  rcases S.par n (List.of_mem_zip hy).1 with q|q
  ·exact .inl q
  ·exact .inr ⟨q,PySem.W.cellsFrom_some _ _ _ (.inl q)⟩
 refine codeAny_call_function hr.depth (KX _ _ lk) rfl S.co S.gen rfl (PySem.W.codeRec_of KX jd) (hb _ _ _ _ ?_)
 refine wpAny_newFunctionEnv_cells S.kind OQ λenv he s1 x=>?_
 subst he
 refine⟨lim.keeps x.toInCall.keep,codeAny_func ?_⟩
 obtain⟨t,ht,hq⟩:=xT A outer s H vs Q E (hr.deeper _) lG
 have I:Inv (mO CX P w K mg base N qual scope f aX A outer s H E) [] (start N vs) H s1:=Jo S hr.hd e0 hl r x
 refine wpAny_mono (ht [] s1 (start N vs) H _ I hq) (λfl s' hs=>?_) λe s' hs=>hs
 have fin:∀{aU:St} {H':Hp} {v:V} {u:Value},Inv (mO CX P w K mg base N qual scope f aX A outer s H E) [] aU H' s'->RelV v u->Q v H'->CE outer P w H s Q u s' :=
  λ{aU H' v u} J rv q=>⟨v,H',J.os,J.bare,J.base,J.aJ,rv,q⟩
 cases fl with
 |ret u =>
  obtain⟨v,aU,H',J,rv,q⟩:=hs
  exact fin J rv q
 |next =>
  obtain⟨aU,H',J,q⟩:=hs
  exact fin (v:=V.aB) (u:=Value.none) J rfl q
 |brk =>
  obtain⟨_,_,_,q⟩:=hs
  exact False.elim q
 |cont =>
  obtain⟨_,_,_,q⟩:=hs
  exact False.elim q
end L2
namespace L2
open PySem PySem.Spec PyProof.Rows
section
variable {X:Cx} {x:Str} {p pos:Pos} {e:Expr} {es:List Expr} {t:TA} {id T:String} {r:List V->Hp->VK->Prop}
noncomputable def zc (r:List V->Hp->VK->Prop) (t:TA):TE:=fun σ H Q=>t σ H λvs H1=>r vs H1 Q
theorem CF (hc:cF X (.builtin id) r) (hg:Gl X x) (hm:X.mg x=none) (hv:bootBuiltins x=some (.builtin id)) (ha:PA X (e::es) t) (hn:x≠"__name__":=by decide) (jg:(x==("__debug__":Str))=false:=by decide)
  (he:starEach (e::es) X.env=(false,eval e X.env)::starEach es X.env:=by rfl) (cT:(backTo pos (starEach es X.env)).any (·.1)=false:=by rfl):PE X (.Call (.Name x p) (e::es) [] pos) (zc r t):=by
 intro pins s σ H Q I h
 refine wpAny_Call_Name_kw (kY I hg hm hv ?_ hn jg)
 exact PyProof.Rows.callWith_builtin1 (aK (ha pos pins s σ H _ I h) λus s1 ⟨vs,H1,I1,r1,q1⟩=>hc pins s1 σ H1 vs us Q I1 r1 q1) he cT
theorem vY (hc:cF X (.type T) r) (hg:Gl X x) (hm:X.mg x=none) (hv:bootBuiltins x=some (.type T)) (ha:PA X (e::es) t) (hn:x≠"__name__":=by decide) (jg:(x==("__debug__":Str))=false:=by decide)
  (he:starEach (e::es) X.env=(false,eval e X.env)::starEach es X.env:=by rfl) (cT:(backTo pos (starEach es X.env)).any (·.1)=false:=by rfl):PE X (.Call (.Name x p) (e::es) [] pos) (zc r t):=by
 intro pins s σ H Q I h
 refine wpAny_Call_Name_kw (kY I hg hm hv ?_ hn jg)
 exact PyProof.Rows.callWith_type1 (aK (ha pos pins s σ H _ I h) λus s1 ⟨vs,H1,I1,r1,q1⟩=>hc pins s1 σ H1 vs us Q I1 r1 q1) he cT
end
end L2
namespace HT
open PySem PyProof.Rows
noncomputable def lexLt:List Int->List Int->Bool
 | [],[]=>false
 | [],_::_=>true
 |_::_,[]=>false
 |x::xs,y::ys=>if x=y then lexLt xs ys else decide (x<y)
theorem iy (x y:Int) (xs ys:List Int):lexLt (x::xs) (y::ys)=if x=y then lexLt xs ys else decide (x<y):=rfl
theorem CG (A:Around) (s:Shared) (a:Int) (t:Tok) (c:Int) (u:Tok) (prog:Program) (w:World) (E:Value->Shared->Prop) (Q:Value->Shared->Prop) (h:Q (.bool (decide (a<c))) s) :
  wpAny (model prog w) A (richCompare .Lt (.int a t) (.int c u)) Q E s :=
 (PyProof.Rows.lt_int h:wpAny (model prog w) A (compareOp .Lt (.int a t) (.int c u)) Q E s)
section
open PySem.SeqAt
open PySem.AutoSeq1 (wpAny_loadPart')
open PySem.MeetsSeq PySem.MeetsSeq2 PySem.MeetsSeq3
end
section
variable {prog:Program} {w:World} {A:Around} {E:Value->Shared->Prop} {s:Shared}
theorem LO {t b:Addr} {vs ws:List Value} {Q:Value->Shared->Prop} (ht:IsTup s.heap t vs.toArray) (hb:IsTup s.heap b ws.toArray) (hv:vs≠[])
  (h1:ws=[]->Q (.ref t) s) (h2:ws≠[]->Q (.ref s.heap.objs.size) { s with heap:=s.heap.push { cls:=.type "tuple",data:=.seq (vs++ws).toArray } })
  (hsz:vs.length+ws.length<=sizeLine):wpAny (model prog w) A (binaryOp .Add (.ref t) (.ref b)) Q E s:=by
 obtain⟨⟨cls,dd,data,sl⟩,ho,hc,n,hd⟩:=id ht
 obtain⟨⟨FP,lH,data2,cI⟩,iK,lJ,n2,hd2⟩:=id hb
 simp only at hc hd lJ hd2
 subst hc hd lJ hd2
 have e:vs.toArray++ws.toArray=(vs++ws).toArray:=by simp
 by_cases hw:ws=[]
 ·exact concat_meets ⟨_,ho,rfl⟩ ⟨_,iK,rfl⟩ noFill_tuple_add seq_tuple_add PySem.F.slot_tuple_add PySem.F.entry_tuple_add (PySem.F.args_tuple_add_2 _ _)
   (tuple_addW1 t b vs.toArray ws.toArray n n2 dd lH sl cI (by simpa using hv) (by simp[hw])) ⟨ho,iK,h1 hw⟩
 ·refine concat_meets ⟨_,ho,rfl⟩ ⟨_,iK,rfl⟩ noFill_tuple_add seq_tuple_add PySem.F.slot_tuple_add PySem.F.entry_tuple_add (PySem.F.args_tuple_add_2 _ _)
   (tuple_addW2 t b vs.toArray ws.toArray n n2 dd lH sl cI (by simpa using hv) (by simpa using hw) (by rw[List.size_toArray,List.size_toArray];exact hsz)) ⟨ho,iK,?_⟩
  rw[e]
  exact h2 hw
noncomputable def aP (n d:Nat):Option Int->Nat
 |none=>d
 |some v=>if v<0 then (v+(n:Int)).toNat else min v.toNat n
theorem LP (n d k:Nat):aP n d (some (k:Int))=min k n:=by
 show (if (k:Int)<0 then ((k:Int)+(n:Int)).toNat else min (k:Int).toNat n)=min k n
 rw[if_neg (by omega),Int.toNat_natCast]
theorem Nw (n d:Nat) (hd:d<=n) (o:Option Int):aP n d o<=n:=by
 cases o with
 |none=>exact hd
 |some v =>
  show (if v<0 then (v+(n:Int)).toNat else min v.toNat n)<=n
  by_cases hv:v<0
  ·rw[if_pos hv];omega
  ·rw[if_neg hv];exact Nat.min_le_right _ _
theorem Dm (v:Int) (n d:Nat):(if v<0 then max (v+(n:Int)) 0 else min v (n:Int))=((aP n d (some v):Nat):Int):=by
 show (if v<0 then max (v+(n:Int)) 0 else min v (n:Int))=(((if v<0 then (v+(n:Int)).toNat else min v.toNat n):Nat):Int)
 by_cases hv:v<0
 ·simp only[if_pos hv];omega
 ·simp only[if_neg hv];omega
theorem Iu (lo hi:Option Int) (n:Nat):Builtin.Slice.sliceAdjust lo hi 1 (n:Int)=(((aP n 0 lo:Nat):Int),((aP n n hi:Nat):Int)):=by
 have h1:¬ ((1:Int)<0):=by omega
 unfold Builtin.Slice.sliceAdjust
 simp only[h1,if_false]
 refine Prod.ext ?_ ?_
 ·cases lo with
  |none=>rfl
  |some v=>exact Dm v n 0
 ·cases hi with
  |none=>rfl
  |some v=>exact Dm v n n
theorem Iv (i j:Nat):Builtin.Slice.slicePlaces (i:Int) (j:Int) 1=j-i:=by
 unfold Builtin.Slice.slicePlaces
 have h1:(1:Int) > 0:=by omega
 simp only[h1,if_true,Int.ediv_one]
 split<;>omega
theorem BE {v:Value} {o:Option Int} {Q:Option Int->Shared->Prop} (p:IsPart v o) (h:Q o s):wpAny (model prog w) A (Builtin.Slice.slicePartIndex v) Q E s:=by
 cases p with
 |none=>exact slicePart_none h
 |int i t=>exact slicePart_int h
theorem AQ {sl:Addr} {vl vu:Value} {lo hi:Option Int} {n:Nat} {Q:Int×Int×Nat->Shared->Prop} (hs:s.heap.IsSliceOf sl vl vu .none) (pl:IsPart vl lo) (pu:IsPart vu hi)
  (h:Q (((aP n 0 lo:Nat):Int),1,aP n n hi-aP n 0 lo) s):wpAny (model prog w) A (Builtin.Slice.sliceApplied (.ref sl) (pure (n:Int))) Q E s:=by
 obtain⟨os,iL,gp,iM⟩:=id hs
 unfold Builtin.Slice.sliceApplied Builtin.Slice.sliceFields
 refine wpAny_bind (wpAny_bind (wpAny_field iL iM (x:=vl) rfl (wpAny_bind (wpAny_field iL iM (x:=vu) rfl (wpAny_bind (wpAny_field iL iM (x:=.none) rfl (wpAny_pure ?_)))))))
 refine wpAny_bind (slicePart_none ?_)
 show wpAny _ _ (if ((1:Int)==0)=true then _ else _) _ _ s
 rw[if_neg (by decide)]
 refine wpAny_bind (BE pl (wpAny_bind (BE pu (wpAny_bind (wpAny_pure ?_)))))
 show wpAny _ _ (match Builtin.Slice.sliceAdjust lo hi 1 (n:Int) with | (lo,hi)=>pure (lo,(1:Int),Builtin.Slice.slicePlaces lo hi 1)) _ _ s
 rw[Iu lo hi n]
 show wpAny _ _ (pure (((aP n 0 lo:Nat):Int),(1:Int),Builtin.Slice.slicePlaces ((aP n 0 lo:Nat):Int) ((aP n n hi:Nat):Int) 1)) _ _ s
 rw[Iv]
 exact wpAny_pure h
theorem Kr (xs:Array Value) (i k:Nat):((List.range k).filterMap λ(m:Nat)=>xs[((i:Int)+(m:Int)*1).toNat]?).toArray=((xs.toList.drop i).take k).toArray:=by
 have e:(λ(m:Nat)=>xs[((i:Int)+(m:Int)*1).toNat]?)=λm=>xs[i+m]?:=by
  funext m
  have:((i:Int)+(m:Int)*1).toNat=i+m:=by omega
  rw[this]
 rw[e]
 have:=pick_run xs i k
 rw[List.filterMap_map] at this
 have e2:((λx=>xs[x]?) ∘ λx=>i+x)=λm=>xs[i+m]?:=rfl
 rw[e2] at this
 rw[this]
theorem G8 {t sl:Addr} {items:Array Value} {vl vu:Value} {lo hi:Option Int} {Q:Value->Shared->Prop} (ht:IsTup s.heap t items) (hs:s.heap.IsSliceOf sl vl vu .none) (pl:IsPart vl lo) (pu:IsPart vu hi)
  (hw:¬ (aP items.size 0 lo=0/\aP items.size items.size hi=items.size))
  (h:Q (.ref s.heap.objs.size) { s with heap:=s.heap.push { cls:=.type "tuple",data:=.seq ((items.toList.drop (aP items.size 0 lo)).take (aP items.size items.size hi-aP items.size 0 lo)).toArray } })
  (hsz:items.size<=sizeLine):wpAny (model prog w) A (getItem (.ref t) (.ref sl)) Q E s:=by
 have ug:sizeOk (.seq ((items.toList.drop (aP items.size 0 lo)).take (aP items.size items.size hi-aP items.size 0 lo)).toArray):=by
  show ((items.toList.drop (aP items.size 0 lo)).take (aP items.size items.size hi-aP items.size 0 lo)).toArray.size<=sizeLine
  rw[List.size_toArray,List.length_take,List.length_drop,Array.length_toList]
  omega
 have hj:aP items.size items.size hi<=items.size:=Nw _ _ (Nat.le_refl _) hi
 obtain⟨os,iL,gp,iM⟩:=id hs
 have rl:s.TypeIs (.ref sl) "slice":=⟨os,iL,gp⟩
 unfold getItem
 try with_reducible refine wpAny_holding ?_
 first|refine wpAny_bind (wpAny_pure ?_)|skip
 refine wpAny_bind (wpAny_sequenceKey ht.typeIs (by decide) ?_)
 refine wpAny_bind (wpAny_callSpecial?_slot (name:=Str.ofString "__getitem__") ht.typeIs PyProof.Rows.slot_tuple_getitem
  (wpAny_call_entry PyProof.Rows.slot_tuple_getitem ht.typeIs entry_tuple_getitem ?_ (args_tuple_getitem _ _)))
 show wpAny _ _ (Builtin.Tuple.tupleItemsOf (.ref t) >>= _) _ _ s
 refine wpAny_bind (tupleItemsOf_ ht ?_)
 refine wpAny_bind (wpAny_typeOf rl ?_)
 rw[if_pos (by decide)]
 refine wpAny_bind (AQ hs pl pu ?_)
 have rm:¬ ((((aP items.size 0 lo:Nat):Int)==0&&(1:Int)==1&&(aP items.size items.size hi-aP items.size 0 lo)==items.size)=true):=by
  intro q
  rw[Bool.and_eq_true,Bool.and_eq_true] at q
  have q1:((aP items.size 0 lo:Nat):Int)=0:=eq_of_beq q.1.1
  have q2:aP items.size items.size hi-aP items.size 0 lo=items.size:=eq_of_beq q.2
  exact hw ⟨by omega,by omega⟩
 show wpAny _ _ (if (((aP items.size 0 lo:Nat):Int)==0&&(1:Int)==1&&(aP items.size items.size hi-aP items.size 0 lo)==items.size)=true then _ else _) _ _ s
 rw[if_neg rm,Kr]
 first
  |exact wpAny_bind (m:=Builtin.Tuple.tupleExact _) (wpAny_newObj_type (wpAny_pure ⟨_,rfl,wpAny_pure h⟩) ug)
  |exact wpAny_bind (m:=Builtin.Tuple.tupleExact _) (wpAny_newObj_type (wpAny_bind (wpAny_pure (wpAny_pure ⟨_,rfl,wpAny_pure h⟩))) ug)
  |exact wpAny_bind (wpAny_bind (m:=Builtin.Tuple.tupleExact _) (wpAny_newObj_type (wpAny_pure (wpAny_pure ⟨_,rfl,wpAny_pure h⟩)) ug))
  |exact wpAny_bind (wpAny_bind (m:=Builtin.Tuple.tupleExact _) (wpAny_newObj_type (wpAny_pure ⟨_,rfl,wpAny_pure h⟩) ug))
end
end HT
namespace L2
open PySem PySem.Spec PyProof.Rows
noncomputable abbrev TO:=St->Hp->(Option Int->Hp->Prop)->Prop
def PO (X:Cx) (e:Option Expr) (t:TO):Prop :=
 ∀(pins:List (Addr×Obj)) (s:Shared) (σ:St) (H:Hp) (Q:Option Int->Hp->Prop),Inv X pins σ H s->t σ H Q ->
  wpAny (model X.prog X.w) X.A (evalPart e X.env) (λu s'=>∃o H',Inv X pins σ H' s'/\IsPart u o/\Q o H') X.xe s
noncomputable def LQ:TO:=λ_ H Q=>Q none H
noncomputable def OR (t:TE):TO:=fun σ H Q=>t σ H λx H1=>∃i,x=.int i/\Q (some i) H1
theorem intsAre_of {ns:List Int}:∀{us:List Value},Vals (ns.map V.int) us->IntsAre us ns:=by
 induction ns with
 |nil=>intro us r;rw[List.map_nil] at r;cases r;exact .nil
 |cons n ns ih =>
  intro us r
  rw[List.map_cons] at r
  cases r with
  |cons r1 r2 =>
   obtain⟨t,e⟩:=r1
   subst e
   exact .cons n t (ih r2)
section
variable {X:Cx} {e:Expr} {te:TE} {lo hi:Option Expr} {tl th:TO} {pos p2:Pos}
theorem LR:PO X none LQ:=by
 intro pins s σ H Q I h
 rw[evalPart_none]
 exact wpAny_pure ⟨none,H,I,.none,h⟩
theorem LS (h:PE X e te):PO X (some e) (OR te):=by
 intro pins s σ H Q I hw
 rw[evalPart_some]
 refine aK (h pins s σ H _ I hw) λu s1 ⟨x,H1,I1,r1,q1⟩=>?_
 obtain⟨i,rfl,q⟩:=q1
 obtain⟨t,rfl⟩:=r1
 exact⟨some i,H1,I1,.int i t,q⟩
def rn (X:Cx) (r:V->Option Int->Option Int->Hp->VK->Prop):Prop :=
 ∀(pins:List (Addr×Obj)) (s:Shared) (σ:St) (H:Hp) (x:V) (v vl vu:Value) (lo hi:Option Int) (sl:Addr) (Q:VK),Inv X pins σ H s->RelV x v->s.heap.IsSliceOf sl vl vu .none->IsPart vl lo->IsPart vu hi->r x lo hi H Q ->
  ∃T id,typeLookup (.type T) "__getitem__"=pure (some (.builtin id))/\s.TypeIs v T/\wpAny (model X.prog X.w) X.A (getItem v (.ref sl)) (EP X pins σ Q) X.xe s
noncomputable def QV (r:V->Option Int->Option Int->Hp->VK->Prop) (te:TE) (tl th:TO):TE:=fun σ H Q=>te σ H λx H1=>tl σ H1 λl H2=>th σ H2 λu H3=>r x l u H3 Q
theorem Ks {r:V->Option Int->Option Int->Hp->VK->Prop} (hr:rn X r) (he:PE X e te) (hl:PO X lo tl) (hu:PO X hi th):PE X (.Subscript e (.Slice lo hi none p2) pos) (QV r te tl th):=by
 intro pins s σ H Q I h
 refine Subscript_ (aK (he pins s σ H _ I h) λv s1 ⟨x,H1,I1,r1,q1⟩=>?_)
 refine wpAny_Slice (aK (hl pins s1 σ H1 _ I1 q1) λvl s2 ⟨l,H2,I2,pl,q2⟩=>aK (hu pins s2 σ H2 _ I2 q2) λvu s3 ⟨u,H3,I3,pu,q3⟩=>?_)
 rw[evalPart_none]
 refine wpAny_pure ?_
 have I4:Inv X pins σ H3 { s3 with heap:=s3.heap.push { cls:=.type "slice",data:=.fields #[vl,vu,.none] } }:=I3.kept (t':=s3.toks) λb ob q=>Heap.get?_push_of_some _ q
 obtain⟨T,id,hT,ht,hg⟩:=hr pins { s3 with heap:=s3.heap.push { cls:=.type "slice",data:=.fields #[vl,vu,.none] } } σ H3 x v vl vu l u s3.heap.objs.size Q I4 r1 (Heap.IsSliceOf.new ..) pl pu q3
 show wpAny (model X.prog X.w) X.A (subscriptTail e (.Slice lo hi none p2) v (.ref s3.heap.objs.size)) (EP X pins σ Q) X.xe { s3 with heap:=s3.heap.push { cls:=.type "slice",data:=.fields #[vl,vu,.none] } }
 exact tail_any (ops:=[.ref s3.heap.objs.size,v]) ht hT hg (by with_unfolding_all rfl)
noncomputable def i5 (xs:List V) (lo hi:Option Int):List V:=(xs.drop (HT.aP xs.length 0 lo)).take (HT.aP xs.length xs.length hi-HT.aP xs.length 0 lo)
theorem Bn (xs:List V) (lo hi:Option Int):(i5 xs lo hi).length<=xs.length:=by
 unfold i5
 rw[List.length_take,List.length_drop]
 omega
noncomputable def Qb (K:Frag):V->Option Int->Option Int->Hp->VK->Prop:=λx lo hi H Q=>∃a xs,x=.ref a/\aR K H a xs /\
 ¬ (HT.aP xs.length 0 lo=0/\HT.aP xs.length xs.length hi=xs.length)/\∀p,H p=none->Q (.ref p) (upd H p (.tup (i5 xs lo hi)))
theorem xu:rn X (Qb X.K):=by
 intro pins s σ H x v vl vu lo hi sl Q I rx hs pl pu h
 obtain⟨a,xs,rfl,hx,hw,q⟩:=h
 cases rx
 obtain⟨its,r,ht,hz⟩:=I.tuple hx
 have hlen:its.toArray.size=xs.length:=by rw[List.size_toArray];exact r.length.symm
 refine⟨"tuple",_,PyProof.Rows.slot_tuple_getitem.lookup,ht.typeIs,?_⟩
 refine HT.G8 ht hs pl pu (by rw[hlen];exact hw) ?_ (by rw[hlen];exact hz)
 rw[hlen]
 refine⟨.ref s.heap.objs.size,_,I.laid (t':=s.toks) (o:=.tup (i5 xs lo hi)) (λb ob q=>Heap.get?_push_of_some _ q) (Nat.le_refl _) ?_,rfl,q _ (I.aJ.fresh (Nat.le_refl _))⟩
 exact⟨Nat.le_trans (Bn xs lo hi) hz,_,(r.drop (HT.aP xs.length 0 lo)).take (HT.aP xs.length xs.length hi-HT.aP xs.length 0 lo),IsTup.new _ _⟩
noncomputable def OS (K:Frag):R2:=λx y H Q=>∃a b xs ys,x=.ref a/\y=.ref b/\aR K H a xs/\aR K H b ys/\xs≠[]/\xs.length+ys.length<=sizeLine /\
 (ys=[]->Q (.ref a) H)/\(ys≠[]->∀p,H p=none->Q (.ref p) (upd H p (.tup (xs++ys))))
theorem Vals.wW {xs:List V} {us:List Value} (r:Vals xs us):us=[]↔xs=[]:=by
 cases r with
 |nil=>simp
 |cons _ _=>simp
theorem LU:bg X (binaryOp .Add) (OS X.K):=by
 intro pins s σ H x y v u Q I rx ry h
 obtain⟨a,b,xs,ys,rfl,rfl,ha,hb,hx,hz,q1,q2⟩:=h
 cases rx
 cases ry
 obtain⟨its,r1,p1,_⟩:=I.tuple ha
 obtain⟨mP,r2,p2,_⟩:=I.tuple hb
 refine HT.LO p1 p2 (λz=>hx (r1.wW.mp z)) (λz=>⟨.ref a,H,I,rfl,q1 (r2.wW.mp z)⟩) (λz=>?_) (by rw[<- r1.length,<- r2.length];exact hz)
 refine⟨.ref s.heap.objs.size,_,I.laid (t':=s.toks) (o:=.tup (xs++ys)) (λb ob q=>Heap.get?_push_of_some _ q) (Nat.le_refl _) ?_,rfl,q2 (λw=>z (r2.wW.mpr w)) _ (I.aJ.fresh (Nat.le_refl _))⟩
 exact⟨by rw[List.length_append];exact hz,_,r1.append r2,IsTup.new _ _⟩
end
end L2
namespace L2
open PySem PySem.Spec PyProof.Rows
noncomputable def fe (n:Nat) (i:Int):Option Nat:=if 0<=i then (if i<n then some i.toNat else none) else if -(n:Int)<=i then some (i+n).toNat else none
noncomputable def dG {α:Type} (xs:List α) (i:Int):Option α:=(fe xs.length i).bind λj=>xs[j]?
theorem Dp {n:Nat} {i:Int} {j:Nat} (h:fe n i=some j):seqIndex? i n=some j/\j<n/\-(n:Int)<=i/\i<n:=by
 unfold fe at h
 by_cases h0:0<=i
 ·rw[if_pos h0] at h
  by_cases h1:i<n
  ·rw[if_pos h1] at h
   have e:i.toNat=j:=Option.some.inj h
   exact⟨by rw[seqIndex_of h0 h1,e],by omega,by omega,h1⟩
  ·rw[if_neg h1] at h;cases h
 ·rw[if_neg h0] at h
  by_cases h1:-(n:Int)<=i
  ·rw[if_pos h1] at h
   have e:(i+n).toNat=j:=Option.some.inj h
   exact⟨by rw[seqIndex_neg (by omega) h1,e],by omega,h1,by omega⟩
  ·rw[if_neg h1] at h;cases h
theorem wX {α:Type} {xs:List α} {i:Int} {v:α} (h:dG xs i=some v):∃j,seqIndex? i xs.length=some j/\xs[j]?=some v/\j<xs.length/\-(xs.length:Int)<=i/\i<xs.length:=by
 unfold dG at h
 cases e:fe xs.length i with
 |none=>rw[e] at h;cases h
 |some j =>
  rw[e] at h
  obtain⟨h1,h2,h3,h4⟩:=Dp e
  exact⟨j,h1,h,h2,h3,h4⟩
def Dq (b:Expr):Prop:=∀o i,subscripted b false o i=operate [o,i] (getItem o i)
def rp (X:Cx) (r:R2):Prop :=
 ∀(value slice:Expr) (pins:List (Addr×Obj)) (s:Shared) (σ:St) (H:Hp) (x y:V) (v u:Value) (Q:VK),Inv X pins σ H s->RelV x v->RelV y u->r x y H Q ->
  subscripted slice false v u=operate [v,u] (getItem v u)->wpAny (model X.prog X.w) X.A (subscriptTail value slice v u) (EP X pins σ Q) X.xe s
def QW (X:Cx) (id:String) (r:V->List V->Hp->VK->Prop):Prop :=
 ∀(pins:List (Addr×Obj)) (s:Shared) (σ:St) (H:Hp) (x:V) (xs:List V) (v:Value) (us:List Value) (Q:VK),Inv X pins σ H s->RelV x v->Vals xs us->r x xs H Q ->
  wpAny (model X.prog X.w) X.A (call (.builtin id) (v::us)) (EP X pins σ Q) X.xe s
section
variable {X:Cx} {a b:Expr} {ta tb:TE} {pos:Pos}
theorem OT {r:R2} (hr:rp X r) (ha:PE X a ta) (hb:PE X b tb) (hs:Dq b):PE X (.Subscript a b pos) (rg r ta tb):=by
 intro pins s σ H Q I h
 exact Subscript_ (yv ha hb I h λv u s2 x y H2 I2 rx ry q=>hr a b pins s2 σ H2 x y v u Q I2 rx ry q (hs _ _))
noncomputable def Qc (K:Frag):R2:=λx y H Q=>∃p xs i v,x=.ref p/\y=.int i/\bL K H p xs/\dG xs i=some v/\Q v H
noncomputable def Qd (K:Frag):R2:=λx y H Q=>∃p xs i v,x=.ref p/\y=.int i/\aR K H p xs/\dG xs i=some v/\Q v H
noncomputable def Qe:R2:=λx y H Q=>∃z i c,x=.str z/\y=.int i/\z.length<=sizeLine/\dG z.cps.toList i=some c/\Q (.str ⟨#[c]⟩) H
theorem Dr:rp X (Qc X.K):=by
 intro value slice pins s σ H x y v u Q I rx ry h hs
 obtain⟨p,xs,i,z,rfl,rfl,hq,he,q⟩:=h
 cases rx
 obtain⟨t,rfl⟩:=ry
 obtain⟨its,r,pl,hz⟩:=I.list hq
 obtain⟨j,h1,h2,h3,h4,h5⟩:=wX he
 obtain⟨w,ew,mY⟩:=r.get h2
 have hl:=r.length
 have hn:=me
 have fin:EP X pins σ Q w s:=⟨z,H,I,mY,q⟩
 by_cases h0:0<=i
 ·have hj:i.toNat=j:=by
   rw[seqIndex_of h0 h5] at h1
   exact Option.some.inj h1
  exact item_listR pl.isList h0 (by omega) (by rw[hj];simpa using ew) fin hs
 ·have hj:(i+(its.toArray.size:Int)).toNat=j:=by
   rw[seqIndex_neg (by omega) h4] at h1
   rw[List.size_toArray,<- hl]
   exact Option.some.inj h1
  exact subscriptTail_builtinR (x:=w) pl.isList.typeIs slot_list_getitem.lookup
   (wpAny_getItem_list_neg (Q:=λr s'=>r=w/\EP X pins σ Q r s') pl.isList (by omega) (by rw[List.size_toArray]<;>omega) (by omega) (by rw[hj];simpa using ew) ⟨rfl,fin⟩) hs
theorem Nx:rp X (Qd X.K):=by
 intro value slice pins s σ H x y v u Q I rx ry h hs
 obtain⟨p,xs,i,z,rfl,rfl,hq,he,q⟩:=h
 cases rx
 obtain⟨t,rfl⟩:=ry
 obtain⟨its,r,pl,hz⟩:=I.tuple hq
 obtain⟨j,h1,h2,h3,h4,h5⟩:=wX he
 obtain⟨w,ew,mY⟩:=r.get h2
 have hl:=r.length
 have hn:=me
 have fin:EP X pins σ Q w s:=⟨z,H,I,mY,q⟩
 exact subscriptTail_builtinR (x:=w) pl.typeIs slot_tuple_getitem.lookup
  (getItem_tuple (j:=j) (Q:=λr s'=>r=w/\EP X pins σ Q r s') pl (by omega) (by omega) (by rw[List.size_toArray,<- hl];exact h1) (by simpa using ew) ⟨rfl,fin⟩) hs
theorem Ny:rp X Qe:=by
 intro value slice pins s σ H x y v u Q I rx ry h hs
 obtain⟨z,i,c,rfl,rfl,hz,he,q⟩:=h
 obtain⟨t,rfl⟩:=rx
 obtain⟨t',rfl⟩:=ry
 obtain⟨j,h1,h2,h3,h4,h5⟩:=wX he
 have hl:z.cps.toList.length=z.length:=by simp[Str.length]
 rw[hl] at h1 h4 h5
 have hn:=me
 exact tail_any (typeIs_str s z t) slot_str_getitem.lookup (getItem_str (c:=c) (by
  have e1:decide (i < -(2 ^ 63:Int))=false:=decide_eq_false (by omega)
  have e2:decide (i ≥ 2 ^ 63)=false:=decide_eq_false (by omega)
  rw[e1,e2,Bool.or_false]) (by rw[h1];simpa using h2) ⟨.str ⟨#[c]⟩,H,I.tok _,⟨_,rfl⟩,q⟩) hs
theorem Iw (its:List Value) (n j:Nat) (u:Value):Obj.mapSeq (·.setIfInBounds j u) { cls:=.type "list",data:=.seq its.toArray n }={ cls:=.type "list",data:=.seq (its.set j u).toArray n }:=by
 simp[Obj.mapSeq]
theorem Inv.lst {pins:List (Addr×Obj)} {σ:St} {H:Hp} {s:Shared} {p:Addr} {xs:List V} (I:Inv X pins σ H s) (h:H p=some (.lst xs)) :
  ∃(its:List Value) (n:Nat),Vals xs its/\s.heap.get? p=some { cls:=.type "list",data:=.seq its.toArray n }/\xs.length<=sizeLine:=by
 obtain⟨z,its,n,r,e⟩:=I.aJ p _ h
 exact⟨its,n,r,e,z⟩
theorem Inv.Nz {pins:List (Addr×Obj)} {σ:St} {H:Hp} {s:Shared} {p:Addr} {xs ys:List V} {its its':List Value} {n n':Nat} {f:Obj->Obj} (I:Inv X pins σ H s) (h:H p=some (.lst xs))
  (ho:s.heap.get? p=some { cls:=.type "list",data:=.seq its.toArray n }) (hf:f { cls:=.type "list",data:=.seq its.toArray n }={ cls:=.type "list",data:=.seq its'.toArray n' }) (r:Vals ys its') (hz:ys.length<=sizeLine) (t:Nat) :
  Inv X pins σ (upd H p (.lst ys)) { s with heap:=s.heap.update p f,toks:=t }:=by
 have e:(s.heap.update p f).get? p=some { cls:=.type "list",data:=.seq its'.toArray n' }:=by
  rw[Heap.get?_update_self f ho (by rw[hf]<;>rfl),hf]
 refine I.write (x:=p) (e:=p) (by rw[h];trivial) (.inl rfl) (λb u hb q=>(Heap.get?_update_other _ _ (Ne.symm hb)).trans q) ⟨_,e⟩ ?_
 exact⟨hz,its',n',r,e⟩
noncomputable def OU:V->V->V->Hp->(Hp->Prop)->Prop:=λo i v H Q=>∃p xs k j,o=.ref p/\i=.int k/\H p=some (.lst xs)/\fe xs.length k=some j/\Q (upd H p (.lst (xs.set j v)))
theorem set_list:yr X OU:=by
 intro pins s σ H o i v ov iv u Q I ro ri rv h
 obtain⟨p,xs,k,j,rfl,rfl,hp,hj,q⟩:=h
 cases ro
 obtain⟨t,rfl⟩:=ri
 obtain⟨its,n,r,ho,hz⟩:=I.lst hp
 obtain⟨h1,h2,h3,h4⟩:=Dp hj
 have hl:=r.length
 have hn:=me
 have I':Inv X pins σ (upd H p (.lst (xs.set j v))) { s with heap:=s.heap.update p (Obj.mapSeq (·.setIfInBounds j u)) } :=
  I.Nz hp ho (Iw its n j u) (r.set rv j) (by rw[List.length_set];exact hz) s.toks
 by_cases h0:0<=k
 ·have hk:k.toNat=j:=by
   rw[seqIndex_of h0 h4] at h1
   exact Option.some.inj h1
  exact PySem.W.ki_setAt ho h0 (by omega) (by rw[List.size_toArray,<- hl];exact h4) (by rw[hk];exact⟨_,I',q⟩)
 ·have hk:(k+(its.toArray.size:Int)).toNat=j:=by
   rw[seqIndex_neg (by omega) h3] at h1
   rw[List.size_toArray,<- hl]
   exact Option.some.inj h1
  exact PySem.W.ki_setBack ho (by omega) (by rw[List.size_toArray,<- hl];exact h3) (by omega) (by rw[hk];exact⟨_,I',q⟩)
theorem Hx (lo hi:Option Int) (n:Nat):(sliceBounds lo hi none n).1=((HT.aP n 0 lo:Nat):Int)/\(sliceBounds lo hi none n).2.1=((HT.aP n n hi:Nat):Int)/\(sliceBounds lo hi none n).2.2=1:=by
 refine⟨?_,?_,rfl⟩
 ·cases lo with
  |none=>simp[sliceBounds,HT.aP]
  |some i =>
   simp only[sliceBounds,HT.aP,Option.getD_none,show (1:Int) > 0 by decide,if_true]
   by_cases h:i<0
   ·simp only[h,if_true]<;>omega
   ·simp only[h,if_false]<;>omega
 ·cases hi with
  |none=>simp[sliceBounds,HT.aP]
  |some i =>
   simp only[sliceBounds,HT.aP,Option.getD_none,show (1:Int) > 0 by decide,if_true]
   by_cases h:i<0
   ·simp only[h,if_true]<;>omega
   ·simp only[h,if_false]<;>omega
theorem Hm (its:List Value) (lo hi:Option Int):slicePick its.toArray lo hi none=((its.drop (HT.aP its.length 0 lo)).take (HT.aP its.length its.length hi-HT.aP its.length 0 lo)).toArray:=by
 obtain⟨h1,h2,h3⟩:=Hx lo hi its.toArray.size
 unfold slicePick
 rw[h1,h2,h3]
 simp only[sliceRange_one,pick_run,List.size_toArray]<;>rfl
noncomputable def Qf (K:Frag):V->Option Int->Option Int->Hp->VK->Prop:=λx lo hi H Q=>∃a xs,x=.ref a/\bL K H a xs/\∀p,H p=none->Q (.ref p) (upd H p (.lst (i5 xs lo hi)))
theorem LV:rn X (Qf X.K):=by
 intro pins s σ H x v vl vu lo hi sl Q I rx hs pl pu h
 obtain⟨a,xs,rfl,hx,q⟩:=h
 cases rx
 obtain⟨its,r,ht,hz⟩:=I.list hx
 have hlen:=r.length
 refine⟨"list",_,slot_list_getitem.lookup,ht.isList.typeIs,?_⟩
 refine wpAny_getItem_list_slice ht.isList hs pl pu .none (by simp) ?_ (by rw[List.size_toArray]<;>omega)
 rw[Hm,<- hlen]
 refine⟨.ref s.heap.objs.size,_,I.laid (t':=s.toks) (o:=.lst (i5 xs lo hi)) (λb ob q=>Heap.get?_push_of_some _ q) (Nat.le_refl _) ?_,rfl,q _ (I.aJ.fresh (Nat.le_refl _))⟩
 exact⟨Nat.le_trans (Bn xs lo hi) hz,_,0,(r.drop (HT.aP xs.length 0 lo)).take (HT.aP xs.length xs.length hi-HT.aP xs.length 0 lo),Heap.get?_push_size _ rfl⟩
theorem vD:cF X (.builtin "len") (λxs H Q=>∃p ys,xs=[.ref p]/\(bL X.K H p ys\/aR X.K H p ys)/\Q (.int ys.length) H):=by
 intro pins s σ H xs us Q I r h
 obtain⟨p,ys,rfl,hq,q⟩:=h
 obtain⟨u,rfl,rx⟩:=vals1 r
 cases rx
 have hn:=me
 rcases hq with hq|hq
 ·obtain⟨its,r',pl,hz⟩:=I.list hq
  have hlen:=r'.length
  exact Calls.call_len_list pl.isList (by simp only[List.size_toArray]<;>omega) ⟨.int ys.length,H,I.tok _,⟨s.toks+1,by rw[List.size_toArray,hlen]⟩,q⟩
 ·obtain⟨its,r',pl,hz⟩:=I.tuple hq
  have hlen:=r'.length
  exact len_tuple pl (by simp only[List.size_toArray]<;>omega) ⟨.int ys.length,H,I.tok _,⟨s.toks+1,by rw[List.size_toArray,hlen]⟩,q⟩
theorem Hy:cF X (.builtin "len") (λxs H Q=>∃z,xs=[.str z]/\z.length<=sizeLine/\Q (.int z.length) H):=by
 intro pins s σ H xs us Q I r h
 obtain⟨z,rfl,hz,q⟩:=h
 obtain⟨u,rfl,t,rfl⟩:=vals1 r
 have hn:=me
 exact len_str (by omega) ⟨.int z.length,H,I.tok _,⟨_,rfl⟩,q⟩
theorem AZ:cF X (.type "tuple") (λxs H Q=>∃p ys,xs=[.ref p]/\((bL X.K H p ys/\∀l,H l=none->Q (.ref l) (upd H l (.tup ys)))\/(aR X.K H p ys/\Q (.ref p) H))):=by
 intro pins s σ H xs us Q I r h
 obtain⟨p,ys,rfl,h⟩:=h
 obtain⟨u,rfl,rx⟩:=vals1 r
 cases rx
 rcases h with ⟨hq,q⟩ | ⟨hq,q⟩
 ·obtain⟨its,r',pl,hz⟩:=I.list hq
  have hlen:=r'.length
  refine call_tuple_list pl.isList (λh' kp=>?_) (by simp only[List.size_toArray]<;>omega)
  have I1:Inv X pins σ H { s with heap:=h' }:=I.kept (t':=s.toks) kp
  have I2:Inv X pins σ (upd H h'.objs.size (.tup ys)) { s with heap:=h'.push { cls:=.type "tuple",data:=.seq its.toArray } } :=
   I1.laid (t':=s.toks) (λb o e=>Heap.get?_push_of_some _ e) (Nat.le_refl _) (show dC X.prog X.w _ _ _ (.tup ys) from ⟨hz,its,r',IsTup.new _ _⟩)
  exact⟨.ref h'.objs.size,_,I2,rfl,q _ (I1.aJ.fresh (Nat.le_refl _))⟩
 ·obtain⟨its,r',pl,hz⟩:=I.tuple hq
  exact call_tuple_same pl ⟨.ref p,H,I,rfl,q⟩
def Gr (K:Frag) (T:String) (x:V) (H:Hp):Prop:=match x with
 | .str _=>T="str"
 | .int _=>T="int"
 | .ref p=>(T="list"/\∃xs,bL K H p xs)\/(T="tuple"/\∃o,K.lookup p=some o/\o.cls=.type "tuple"/\o.dict=none) \/
   (T="dict"/\((∃ao,H p=some (.dK ao))\/∃ao,H p=some (.dT ao)))\/(T="set"/\∃S n,H p=some (.set S n))
 |_=>False
theorem NA {pins:List (Addr×Obj)} {σ:St} {H:Hp} {s:Shared} {T:String} {x:V} {v:Value} (I:Inv X pins σ H s) (r:RelV x v) (ty:Gr X.K T x H) :
  s.TypeIs v T/\∀a,v=.ref a->∃ob,s.heap.get? a=some ob/\ob.dict=none:=by
 cases x with
 |str z =>
  obtain⟨t,rfl⟩:=r
  cases (show T="str" from ty)
  exact⟨typeIs_str s z t,λ_ e=>nomatch e⟩
 |int i =>
  obtain⟨t,rfl⟩:=r
  cases (show T="int" from ty)
  exact⟨typeIs_int s i t,λ_ e=>nomatch e⟩
 |ref p =>
  cases r
  rcases ty with ⟨rfl,xs,hq⟩ | ⟨rfl,o,hk,hc,hd⟩ | ⟨rfl,hk⟩ | ⟨rfl,S,n,hk⟩
  ·obtain⟨its,_,pl,_⟩:=I.list hq
   refine⟨pl.isList.typeIs,λa e=>?_⟩
   cases e
   obtain⟨o,n,e,c,hd,_⟩:=pl
   exact⟨o,e,hd⟩
  ·refine⟨⟨o,I.oW p o hk,hc⟩,λa e=>?_⟩
   cases e
   exact⟨o,I.oW _ o hk,hd⟩
  ·have z:∃o,s.heap.get? p=some o/\o.ExactDict:=by
    rcases hk with ⟨ao,hk⟩ | ⟨ao,hk⟩
    ·obtain⟨_,_,_,_,o,_,_,e,ex,_⟩:=I.aJ p _ hk
     exact⟨o,e,ex⟩
    ·obtain⟨_,_,_,_,o,_,_,e,ex,_⟩:=I.aJ p _ hk
     exact⟨o,e,ex⟩
   obtain⟨o,e,ex⟩:=z
   refine⟨⟨o,e,ex.1⟩,λa e2=>?_⟩
   cases e2
   exact⟨o,e,ex.2.1⟩
  ·obtain⟨o,_,_,_,e,ex,_⟩:=I.aJ p _ hk
   refine⟨⟨o,e,ex.1⟩,λa e2=>?_⟩
   cases e2
   exact⟨o,e,ex.2.1⟩
 |_=>exact False.elim ty
noncomputable def QX (K:Frag) (T:String) (r:V->List V->Hp->VK->Prop) (to:TE) (t:TA):TE:=fun σ H Q=>to σ H λx H1=>Gr K T x H1/\t σ H1 λxs H2=>r x xs H2 Q
variable {o e:Expr} {es:List Expr} {to:TE} {t:TA} {name:Str} {apos dh:Pos} {T id:String} {r:V->List V->Hp->VK->Prop}
theorem OV (pa:PlainAttrs T) (slot:Slot T name id) (QY:typeOf (.builtin id)=pure (.type "method_descriptor")) (hm:QW X id r) (ho:PE X o to) (ha:PA X (e::es) t)
  (xU:attributeBase o name X.env (eval o X.env)=eval o X.env:=by rfl)
  (yz:((backTo dh (starEach (e::es) X.env)).all (λx=>!x.1)&&(backToKw dh (keywordEach [] X.env)).all (λx=>x.1.isSome)
   && decide ((e::es).length+([]:List Keyword).length+(if ([]:List Keyword).isEmpty then 0 else 1)<30))=true:=by rfl)
  (xV:(apos.endLine==dh.line)=true:=by rfl) (hs:starEach (e::es) X.env=(false,eval e X.env)::starEach es X.env:=by rfl) (xw:(backTo dh (starEach es X.env)).any (·.1)=false:=by rfl) :
  PE X (.Call (.Attribute o name apos) (e::es) [] dh) (QX X.K T r to t):=by
 intro pins s σ H Q I h
 refine wpAny_Call_method_late xU yz xV rfl (aK (ho pins s σ H _ I h) λv s1 ⟨x,H1,I1,r1,ty,q1⟩=>?_)
 obtain⟨h1,h2⟩:=NA I1 r1 ty
 refine⟨T,id,pa,slot,QY,h1,h2,?_⟩
 have hA:=ha dh pins s1 σ H1 _ I1 q1
 rw[hs] at hA |-
 refine Calls.callWith_builtin (by show (false||(backTo dh (starEach es X.env)).any (·.1))=false;rw[xw]<;>rfl) (Calls.evalArgs_plain ?_)
 exact aK hA λus s2 ⟨vs,H2,I2,r2,q2⟩=>hm pins s2 σ H2 x vs v us Q I2 r1 r2 q2
end
end L2
namespace L2
open PySem PySem.Spec PyProof.Rows
def QZ (X:Cx) (id:String) (r:V->List V->Hp->VK->Prop):Prop :=
 ∀(pins:List (Addr×Obj)) (s:Shared) (σ:St) (H:Hp) (x:V) (xs:List V) (v:Value) (us:List Value) (Q:VK),Inv X pins σ H s->RelV x v->Vals xs us->r x xs H Q ->
  wpAny (model X.prog X.w) X.A (call (.builtin id) (v::us)) (EP X pins σ Q) X.xe s
theorem Vals.one:∀{x:V} {us:List Value},Vals [x] us->∃u,us=[u]/\RelV x u
 |_,_,.cons r .nil=>⟨_,rfl,r⟩
theorem Vals.rep {xs:List V} {us:List Value} (h:Vals xs us):∀k:Nat,Vals (List.replicate k xs).flatten (List.replicate k us).flatten
 |0=>.nil
 |k+1=>by
  rw[List.replicate_succ,List.replicate_succ,List.flatten_cons,List.flatten_cons]
  exact Vals.append h (Vals.rep h k)
theorem foldl_rep (its:List Value):∀(k:Nat) (acc:List Value),
  List.foldl (λx1 x2=>x1++x2) acc.toArray (List.replicate k its.toArray)=(acc++(List.replicate k its).flatten).toArray
 |0,acc=>by simp
 |k+1,acc=>by
  have e:acc.toArray++its.toArray=(acc++its).toArray:=by simp
  have e2:(acc++its)++(List.replicate k its).flatten=acc++(List.replicate (k+1) its).flatten:=by
   rw[List.replicate_succ,List.flatten_cons,List.append_assoc]
  rw[<- e2,<- foldl_rep its k (acc++its),<- e,List.replicate_succ,List.foldl_cons]
section
variable {X:Cx} {pins:List (Addr×Obj)} {σ:St} {H:Hp} {s:Shared} {l b:Addr} {xs ys zs:List V}
theorem Inv.Qg {its its':List Value} {n:Nat} {f:Array Value->Array Value} {t':Nat} (I:Inv X pins σ H s) (hH:H l=some (.lst xs))
  (e:s.heap.get? l=some { cls:=.type "list",data:=.seq its.toArray n }) (hf:f its.toArray=its'.toArray) (hv:Vals ys its') (hz:ys.length<=sizeLine) :
  Inv X pins σ (upd H l (.lst ys)) { s with heap:=s.heap.update l (Obj.mapSeq f),toks:=t' }:=by
 have q:=PySem.IsL.update e f
 rw[hf] at q
 refine I.write (x:=l) (e:=l) (by rw[hH];exact trivial) (.inl rfl) (λb' u hb hu=>(Heap.get?_update_other s.heap (Obj.mapSeq f) (Ne.symm hb)).trans hu) ⟨_,q⟩ ?_
 exact⟨hz,its',_,hv,q⟩
theorem Inv.FQ {its:List Value} {t':Nat} (I:Inv X pins σ H s) (hv:Vals ys its) (hz:ys.length<=sizeLine) :
  Inv X pins σ (upd H s.heap.objs.size (.lst ys)) { s with heap:=s.heap.push { cls:=.type "list",data:=.seq its.toArray },toks:=t' } :=
 I.laid (λ_ _ q=>Heap.get?_push_of_some _ q) (Nat.le_refl _) ⟨hz,its,0,hv,Heap.get?_push_size _ rfl⟩
theorem Inv.fresh (I:Inv X pins σ H s):H s.heap.objs.size=none:=I.aJ.fresh (Nat.le_refl _)
theorem Inv.uD (I:Inv X pins σ H s) (hH:H l=some (.lst xs)):xs.length<=sizeLine/\∃(its:List Value) (n:Nat),Vals xs its/\xs.length=its.length/\s.heap.get? l=some { cls:=.type "list",data:=.seq its.toArray n }:=by
 obtain⟨z,its,n,r,e⟩:=I.aJ l _ hH
 exact⟨z,its,n,r,r.length,e⟩
theorem Kt {n:Nat} (h:n<=sizeLine):Builtin.List.listTooLong n=false:=by
 unfold Builtin.List.listTooLong
 exact decide_eq_false (by omega)
end
section
variable {X:Cx}
noncomputable def LW:V->List V->Hp->VK->Prop:=λx vs H Q=>∃l xs y,x=.ref l/\vs=[y]/\H l=some (.lst xs)/\xs.length<sizeLine/\Q .aB (upd H l (.lst (xs++[y])))
theorem Jp:QZ X "list.append" LW:=by
 intro pins s σ H x vs v us Q I rx rv h
 obtain⟨l,xs,y,rfl,rfl,hH,hz,q⟩:=h
 cases rx
 obtain⟨u,rfl,ru⟩:=rv.one
 obtain⟨z,its,n,r,hl,e⟩:=I.uD hH
 refine call_meets F.slot_list_append ⟨_,e,rfl⟩ F.entry_list_append (F.args_list_append_2 _ _) (PySem.list_append l its.toArray n u (by rw[List.size_toArray];omega)) ⟨e,?_⟩
 refine⟨.aB,_,I.Qg (its':=its++[u]) hH e (by simp) (r.append (.cons ru .nil)) ?_,rfl,q⟩
 rw[List.length_append,List.length_singleton]
 omega
noncomputable def Qh:R2:=λx y H Q=>∃l b xs zs,x=.ref l/\y=.ref b/\H l=some (.lst xs)/\H b=some (.lst zs)/\xs.length+zs.length<=sizeLine/\∀p,H p=none->Q (.ref p) (upd H p (.lst (xs++zs)))
theorem NB:bg X (binaryOp .Add) Qh:=by
 intro pins s σ H x y v u Q I rx ry h
 obtain⟨l,b,xs,zs,rfl,rfl,hH,hB,hz,q⟩:=h
 cases rx
 cases ry
 obtain⟨z,its,n,r,hl,e⟩:=I.uD hH
 obtain⟨z2,mP,n2,r2,Gs,e2⟩:=I.uD hB
 refine PySem.P.add_list e e2 ?_ (by rw[List.size_toArray,List.size_toArray];omega)
 have ea:its.toArray++mP.toArray=(its++mP).toArray:=by simp
 rw[ea]
 exact⟨.ref _,_,I.FQ (t':=s.toks) (r.append r2) (by rw[List.length_append];omega),rfl,q _ I.fresh⟩
noncomputable def Qi:R2:=λx y H Q=>∃l k xs,x=.ref l/\y=.int k/\H l=some (.lst xs)/\-(2 ^ 63)<=k/\k<2 ^ 63/\xs.length*k.toNat<=sizeLine /\
 ∀p,H p=none->Q (.ref p) (upd H p (.lst (List.replicate k.toNat xs).flatten))
theorem len_rep {α:Type} (xs:List α) (k:Nat):(List.replicate k xs).flatten.length=k*xs.length:=by
 induction k with
 |zero=>simp
 |succ k ih=>rw[List.replicate_succ,List.flatten_cons,List.length_append,ih,Nat.succ_mul,Nat.add_comm]
theorem NC:bg X (binaryOp .Mult) Qi:=by
 intro pins s σ H x y v u Q I rx ry h
 obtain⟨l,k,xs,rfl,rfl,hH,h1,h2,hz,q⟩:=h
 cases rx
 obtain⟨t,rfl⟩:=ry
 obtain⟨z,its,n,r,hl,e⟩:=I.uD hH
 have hlen:its.toArray.size*k.toNat<=sizeLine:=by rw[List.size_toArray,<- hl];exact hz
 have Qj:¬ its.toArray.size*k.toNat > (2 ^ 63-1) / 8:=by
  have:(sizeLine:Nat)<=(2 ^ 63-1) / 8:=by decide
  omega
 have Qk:¬ (!Builtin.List.listFitsIndex k)=true:=by
  rw[fitsIndex_both h1 h2]
  exact Bool.false_ne_true
 have OW:¬ Builtin.List.listTooLong (its.toArray.size*k.toNat)=true:=by
  rw[Kt hlen]
  exact Bool.false_ne_true
 have Ql:List.foldl (λx1 x2=>x1++x2) #[] (List.replicate (if its.toArray.isEmpty=true then 0 else k.toNat) its.toArray)=(List.replicate k.toNat its).flatten.toArray:=by
  have f0:∀m:Nat,List.foldl (λx1 x2=>x1++x2) #[] (List.replicate m its.toArray)=(List.replicate m its).flatten.toArray:=λm=>by
   have:=foldl_rep its m []
   rw[List.nil_append] at this
   exact this
  rw[f0]
  cases its with
  |nil=>simp
  |cons a r'=>rw[if_neg (by simp)]
 refine wpAny_binaryOp_repeat_ref (T:="list") (U:="int") (by decide) ⟨_,e,rfl⟩ (λs'=>typeIs_int s' k t) noFill_list_mul F.fills_int_mul F.slot_int_rmul repeat_list F.slot_int_index.lookup
  (call_meets F.slot_int_rmul (typeIs_int s k t) F.entry_int_rmul (F.args_int_rmul_2 _ _) (int___rmul___int_list k t l its.toArray n)
   ⟨e,rfl,⟨_,e,rfl⟩,call_meets F.slot_list_mul ⟨_,e,rfl⟩ F.entry_list_mul (F.args_list_mul_2 _ _) (AutoListH.list___mul___list_int_3 l its.toArray n k t Qk Qj OW) ⟨e,?_⟩⟩)
 rw[Ql]
 exact⟨.ref _,_,I.FQ (t':=s.toks) (r.rep k.toNat) (by rw[len_rep,Nat.mul_comm];exact hz),rfl,q _ I.fresh⟩
end
section
variable {prog:Program} {w:World} {A:Around} {E:Value->Shared->Prop} {s:Shared}
set_option maxRecDepth 100000 in
end
section
variable {X:Cx}
end
end L2
namespace Gu
open PySem PySem.W PySem.Calls PyProof.Rows
theorem Hc {P:Params} {h:Heap}:∀(ns:List Int) (vs:List Value),WellAll P h vs (ns.map WData.int)->IntsAre vs ns:=by
 intro ns
 induction ns with
 |nil =>
  intro vs w
  rw[List.map_nil] at w
  cases w
  exact .nil
 |cons n ns ih =>
  intro vs w
  rw[List.map_cons] at w
  cases w with
  |cons a b =>
   cases a
   exact .cons _ _ (ih _ b)
theorem Jq {l:OpenLaw} {n:Nat} (hn:l.most=some n) {P:Params} {h:Heap} {args:List WData} {vals:List Value}
  (uE:l.row.toRowW.claim.pre args=true) (zd:WellAll P h vals args) :
  ∃a vs ns,vals=[Value.ref a]/\args=[WData.list (ns.map WData.int)]/\h.get? a=some { cls:=.type "list",data:=.seq vs.toArray }/\IntsAre vs ns/\ns.length<=n:=by
 have Q0:WShape.hasAll [] args [.list .int]=true:=(pre_splitW uE).1
 have hc:l.pre.holds [] { args:=args }=true:=(pre_splitW uE).2
 obtain⟨d,r,rfl,h1,h2⟩:=hasAllW_cons Q0
 obtain rfl:=hasAllW_nil h2
 obtain⟨xs,rfl,h3⟩:=hasW_list h1
 obtain⟨ns,rfl⟩:=items_int h3
 have hlen:ns.length<=n:=by
  unfold OpenLaw.pre at hc
  have h4:(WTm.not (.lt (.lit (.int (n:Int))) (.len (.arg 0)))).holds [] { args:=[.list (ns.map .int)] }=true:=by
   have h4:=(holds_andW hc).1
   rw[hn] at h4
   exact h4
  have h5:=condW_of h4 (w_not (w_lt w_lit (w_len_list (w_arg rfl))))
  rw[List.length_map] at h5
  refine Nat.le_of_not_lt λq=>?_
  have q':(n:Int)<((ns.length:Nat):Int):=by omega
  first
   |(rw[decide_eq_true q'] at h5;exact absurd h5 (by decide))
   |(simp at h5;omega)
 cases zd with
 |cons w1 w2 =>
  cases w2
  cases w1 with
  |list ho dj=>exact⟨_,_,ns,rfl,rfl,ho,Hc ns _ dj,hlen⟩
theorem Jr (l:OpenLaw) (args:List WData):l.row.toRowW.claim.post args (.bool true) args=true :=
 postW_of (r:=l.row.toRowW) (X:=(true==true))
  (show WShape.has [] (.bool true) .bool=true by first|rfl|decide|simp[WShape.has,WShape.arms,WShape.armsAll])
  (show (WTm.eq .res (.lit (.bool true))).value [] { args:=args,res:=some (.bool true),after:=args }=some (.bool (true==true)) from w_eq_bool (w_res rfl) w_lit) rfl
theorem HW {l:OpenLaw} {n:Nat} {q:Program} {loose:List Str} {XP:(Str->Option Value)->Heap->Prop} {YP:World->Heap->Prop} {d:DefRec}
  (hn:l.most=some n) (rq:d.params.defaults=[])
  (call:∀(w:World) (cS bz:Shared) (mg mb:Str->Option Value) (fa:Addr) (o:Obj) (pm cd doc:Value) (a:Addr) (vs:List Value) (ns:List Int),
   Ground q loose [] XP w cS mg mb bz.heap->YP w bz.heap ->
   bz.heap.get? fa=some o->o.data=.func (docDef d.name d.params d.body d.scope pm cd doc)->bz.heap.CodeRec cd d.name->mg d.name=some (.ref fa) ->
   bz.heap.get? a=some { cls:=.type "list",data:=.seq vs.toArray }->IntsAre vs ns->ns.length<=n->bz.gens=#[] ->
   codeAny (model l.prog w) callerA (.call (.ref fa) ⟨[.ref a],[]⟩) (λr s'=>r=.ok (.ret (.bool true))/\OldK bz.heap s'.heap/\s'.os=bz.os/\AllBare s'.gens) bz) :
  WalkO q loose XP YP l.row.toRowW d [] (λf vs=>PySem.call f vs):=by
 intro w cS bz mg mb G Y fa o pm cd doc dV kV ho hd jd hD rz hg args vals as uE Ti Tu zd Gv
 obtain rfl:dV=.none:=Dflts.none hD rq
 obtain rfl:kV=.none:=Dflts.noKw hD
 obtain⟨a,vs,ns,rfl,rfl,yA,hints,hlen⟩:=Jq hn uE zd
 refine enter_call (codeAny_mono (call w cS bz mg mb fa o pm cd doc a vs ns G Y ho (fd_plain hd) jd rz yA hints hlen hg) λr s' hq=>?_)
 obtain⟨rfl,h2,h3,h4⟩:=hq
 exact⟨.inl ⟨.bool true,.bool true,[],rfl,λ_=>rfl,.bool true,Jr l _,λ_=>⟨List.Pairwise.nil,λ_ hm=>(nomatch hm)⟩⟩,h2,h3,h4⟩
section
variable {prog:Program} {w:World} {A:Around} {E:Value->Shared->Prop} {s:Shared} {K:Frag}
noncomputable def ledger (h:Heap) (L d:Addr):List (Addr×Obj):=(List.range h.objs.size).filterMap λa=>if a=L\/a=d then none else (h.get? a).map λo=>(a,o)
end
end Gu
namespace L2
open PySem PySem.Spec PyProof.Rows
theorem B7:∀{vs:List Value} {ns:List Int},IntsAre vs ns->Vals (ns.map V.int) vs
 |_,_,.nil=>.nil
 |_,_,.cons n t h=>.cons ⟨t,rfl⟩ (B7 h)
def yB (H:Hp):Prop:=∀b,H b=none\/∃o xs,H b=some (.cH o (.lst xs))
theorem Ku {P:Program} {w:World} {K:Frag} {mg mb:Str->Option Value} {CX:iJ} {k:Nat} {fa a:Addr} {fd:FuncData} {x:Str} {sp:Sp} {bz:Shared} {vs:List Value} {ns:List Int}
  (KX:K.In bz.heap) (oX:bz.heap.Ns mainGlobals mg) (hb:bz.heap.Ns builtinsNs mb) (Q2:∀x:Str,x≠"__name__"->mb x=bootBuiltins x) (Qm:bz.heap.NoLimit) (hg:bz.gens=#[])
  (ha:bz.heap.get? a=some { cls:=.type "list",data:=.seq vs.toArray }) (hi:IntsAre vs ns) (hl:ns.length<=sizeLine) (hr:cN k callerA)
  (F:∀base:Heap,K.In base->base.Ns mainGlobals mg->aS P w K mg base CX k fa fd [x] sp) (OX:∀(s:Shared) (u:Value),BindsTo s fd ⟨[u],[]⟩ [(x,u)])
  (lG:∀H:Hp,yB H->bL K H a (ns.map V.int)->sp [.ref a] H (λv _=>v=.bl true) λ_ _ _=>False)
  (ze:∀H e s',CX [] H bz (λ_ _ _=>False) e s'->False) :
  codeAny (model P w) callerA (.call (.ref fa) ⟨[.ref a],[]⟩) (λr s'=>r=.ok (.ret (.bool true))/\OldK bz.heap s'.heap/\s'.os=bz.os/\AllBare s'.gens) bz:=by
 have rv:=B7 hi
 have Qn:=hi.length
 have core:∀H:Hp,yB H->bL K H a (ns.map V.int)->cb P w H bz.heap->(∀b,H b≠none->b=a)->(H a≠none->K.lookup a=none) ->
   codeAny (model P w) callerA (.call (.ref fa) ⟨[.ref a],[]⟩) (λr s'=>r=.ok (.ret (.bool true))/\OldK bz.heap s'.heap/\s'.os=bz.os/\AllBare s'.gens) bz:=by
  intro H hO hS aJ hA hK
  have Ds:∀{b:Addr} {o:Obj},bz.heap.get? b=some o->H b=none->(kq bz.heap H).get? b=some o:=λe n=>Kl e n
  have rk:∀{b:Addr} {o:Obj} {es:Array DictEntry} {ep:Nat},bz.heap.get? b=some o->o.data=.dict es ep->H b=none:=λ{b o es ep} e d=>by
   cases q:H b with
   |none=>rfl
   |some u =>
    have e':b=a:=hA b (by rw[q];simp)
    subst e'
    rw[ha] at e;cases e
    have d':Data.seq vs.toArray _=Data.dict es ep:=d
    cases d'
  have u6:∀{b:Addr} {m:Str->Option Value},bz.heap.Ns b m->(kq bz.heap H).Ns b m:=λ{b m} ⟨o,es,ep,e,d,r⟩=>⟨o,es,ep,Ds e (rk e d),d,r⟩
  have Gw:K.In (kq bz.heap H):=λb o e=>Ds (KX b o e) (by
   cases q:H b with
   |none=>rfl
   |some u =>
    have e':b=a:=hA b (by rw[q];simp)
    subst e'
    rw[hK (by rw[q];simp)] at e;cases e)
  have hM:Mod K mg (kq bz.heap H):=⟨Gw,u6 oX,⟨mb,u6 hb,Q2⟩,let ⟨mc,h1,h2⟩:=Qm;⟨mc,u6 h1,h2⟩⟩
  have e0:uC P w K mg (kq bz.heap H) callerA [] bz H:=⟨rfl,hM,λb o e=>LA e,Nat.le_of_eq (Jh _ _),trivial,λb hb=>absurd (show b∈([]:List Addr) from hb) (by simp),aJ,.of_eq hg⟩
  refine codeAny_mono ((F _ Gw (u6 oX)).run callerA [] bz H ⟨[.ref a],[]⟩ [.ref a] [.ref a] _ _ hr e0 (OX bz (.ref a)) (.cons rfl .nil) (lG H hO hS)) λr s' h=>?_
  cases r with
  |error e=>exact(ze H e s' h).elim
  |ok fl =>
   cases fl with
   |next=>exact False.elim h
   |brk=>exact False.elim h
   |cont=>exact False.elim h
   |ret u =>
    obtain⟨v,H',os,bare,un,Qo,r',q⟩:=h
    have q':v=.bl true:=q
    subst q'
    obtain rfl:u=Value.bool true:=r'
    refine⟨rfl,OldK.of_keep λb o e=>?_,os,bare⟩
    cases q:H b with
    |none=>exact un.keep b o e q (by intro z;exact absurd (show b∈([]:List Addr) from z) (by simp)) (by simp)
    |some u =>
     rcases hO b with z | ⟨ob,xs,z⟩
     ·rw[q] at z;cases z
     ·have z2:=un.hU b ob _ z
      obtain⟨e1,_⟩:=aJ b _ z
      obtain⟨e2,_⟩:=Qo b _ z2
      rw[e] at e1;cases e1
      exact e2
 cases hk:K.lookup a with
 |some o =>
  have e:=KX a o hk
  rw[ha] at e
  cases e
  refine core (λ_=>none) (λ_=>.inl rfl) (.inr ⟨_,vs.toArray,_,hk,rfl,rfl,rfl,by rw[List.size_toArray,Qn];exact hl,by simpa using rv⟩) (λb u z=>by have z':(none:Option HO)=some u:=z;cases z') (λb z=>absurd rfl z) λz=>absurd rfl z
 |none =>
  refine core (λb=>if b=a then some (.cH { cls:=.type "list",data:=.seq vs.toArray } (.lst (ns.map V.int))) else none) (λb=>?_) (.inl (.inr ⟨{ cls:=.type "list",data:=.seq vs.toArray },if_pos rfl⟩)) (λb u z=>?_) (λb z=>?_) λ_=>hk
  ·by_cases hb:b=a
   ·exact .inr ⟨_,_,if_pos hb⟩
   ·exact .inl (if_neg hb)
  ·by_cases hb:b=a
   ·have z':=(if_pos hb).symm.trans z
    cases z'
    subst hb
    exact⟨ha,by rw[List.length_map];exact hl,vs,_,rv,ha⟩
   ·have z':=(if_neg hb).symm.trans z
    cases z'
  ·by_cases hb:b=a
   ·exact hb
   ·exact absurd (if_neg hb) z
end L2
namespace L2
open PySem PySem.Spec PyProof.Rows
noncomputable abbrev Tv {K:Frag} {h:Heap} (_:K.In h):Frag:=K
theorem LX {l:PySem.W.OpenLaw} {n k:Nat} {q:Program} {loose:List Str} {XP:(Str->Option Value)->Heap->Prop} {YP:World->Heap->Prop} {d:DefRec} {K:Params->Frag} {CX:World->iJ} {sp:World->Sp} {x:Str}
  (hn:l.most=some n) (Q3:n<=sizeLine) (rq:d.params.defaults=[]) (hr:cN k callerA)
  (hY:∀(w:World) (h:Heap),YP w h->(K w.params).In h)
  (F:∀(w:World) (mg:Str->Option Value) (fa:Addr) (h:Heap),(K w.params).In h->h.Ns mainGlobals mg->mg d.name=some (.ref fa) ->
   ∃fd:FuncData,(∀(s:Shared) (u:Value),BindsTo s fd ⟨[u],[]⟩ [(x,u)]) /\
    ∀base:Heap,(K w.params).In base->base.Ns mainGlobals mg->aS l.prog w (K w.params) mg base (CX w) k fa fd [x] (sp w))
  (lG:∀(w:World) (H:Hp) (a:Addr) (ns:List Int),ns.length<=n->yB H->bL (K w.params) H a (ns.map V.int)->sp w [.ref a] H (λv _=>v=.bl true) λ_ _ _=>False)
  (ze:∀(w:World) (H:Hp) (s:Shared) (e:Value) (s':Shared),CX w [] H s (λ_ _ _=>False) e s'->False) :
  PySem.W.WalkO q loose XP YP l.row.toRowW d [] (λf vs=>PySem.call f vs):=by
 refine Gu.HW hn rq λw cS bz mg mb fa o pm cd doc a vs ns G Y ho hd jd rz yA hints hlen hg=>?_
 have KX:=hY w _ Y
 obtain⟨fd,hb,hF⟩:=F w mg fa _ KX G.T.g rz
 exact Ku KX G.T.g G.T.b G.T.builtins G.T.nolimit hg yA hints (Nat.le_trans hlen Q3) hr hF hb (λH hO hS=>lG w H a ns hlen hO hS) λH e s'=>ze w H bz e s'
end L2
namespace L2
open PySem PySem.Spec PyProof.Rows
noncomputable def l9 (s:Stmt):Arguments:=match s with
 | .FunctionDef _ a _ _ _ _ _ _ _ _=>a
 |_=>{ posonlyargs:=[],args:=[],vararg:=none,kwonlyargs:=[],kw_defaults:=[],kwarg:=none,defaults:=[] }
noncomputable def kb (s:Stmt):List Stmt:=match s with
 | .FunctionDef _ _ b _ _ _ _ _ _ _=>b
 |_=>[]
noncomputable def aV (s:Stmt):Scope:=match s with
 | .FunctionDef _ _ _ _ _ _ sc _ _ _=>sc
 |_=>{ kind:=.function,names:=[],isGenerator:=false,isCoroutine:=false }
noncomputable abbrev aY:iJ:=λ_ _ _ _ _ _=>False
noncomputable abbrev E0:XK:=λ_ _ _=>False
theorem OY {X:Cx}:Passes aY X E0:=λ_ _ _ _ _ _ _ h=>h.elim
structure m8 (K:Frag) (x qual:Str) (st:Stmt) (f:Addr) (fd:FuncData):Prop where
 ex:∃(oc:Value) (od:Option Addr) (kV doc pm:Value) (an:Option Addr) (aX ct:Value) (lF:Array (Option Value)),
  fd=PySem.W.fnOf x qual (l9 st) (kb st) (aV st) .none kV doc pm an aX ct/\K.lookup f=some ⟨oc,od,.func fd,lF⟩/\PySem.W.codeIn K aX qual=true
 kp:PySem.W.keepIn K (.ref f)=true
section
variable {P:Program} {w:World} {K:Frag} {mg:Str->Option Value} {base:Heap}
theorem m8.ok {x qual:Str} {st:Stmt} {f:Addr} {fd:FuncData} {N ps:List Str} {k:Nat} {sp:Sp} (F:m8 K x qual st f fd) (S:bt N ps (aV st)) (len:∀vs H Q E,sp vs H Q E->vs.length=ps.length)
  (xT:∀(aX:Value) (A:Around) (outer:List Env) (s:Shared) (H:Hp) (vs:List V) (Q:VK) (E:XK),cN k (A.deeper (envOfC qual (aV st) s.heap.objs.size f aX))->sp vs H Q E ->
   ∃t,dE (mO aY P w K mg base N qual (aV st) f aX A outer s H E).qX (kb st) t/\t { nx:=λ_ H'=>Q .aB H',rt:=Q } (start N vs) H):aS P w K mg base aY (k+1) f fd ps sp:=by
 obtain⟨oc,od,kV,doc,pm,an,aX,ct,lF,rfl,lk,jd⟩:=F.ex
 refine OP lk jd S len λA outer s H vs Q E hr lG=>?_
 obtain⟨t,h,q⟩:=xT aX A outer s H vs Q E hr lG
 exact⟨t,h.qX,q⟩
theorem m8.binds {x qual:Str} {st:Stmt} {f:Addr} {fd:FuncData} {ps:List Str} (F:m8 K x qual st f fd)
  (h:∀(kV doc pm:Value) (an:Option Addr) (aX ct:Value) (us:List Value),us.length=ps.length->bindArgs (PySem.W.fnOf x qual (l9 st) (kb st) (aV st) .none kV doc pm an aX ct) ⟨us,[]⟩=pure (ps.zip us)):Binds K fd ps []:=by
 obtain⟨oc,od,kV,doc,pm,an,aX,ct,lF,rfl,lk,jd⟩:=F.ex
 exact .all (h kV doc pm an aX ct)
theorem Ej {x qual:Str} {st:Stmt} {f:Addr} {oc:Value} {od an:Option Addr} {lF:Array (Option Value)} {kV doc pm aX ct:Value} (l:K.lookup f=some ⟨oc,od,.func (PySem.W.fnOf x qual (l9 st) (kb st) (aV st) .none kV doc pm an aX ct),lF⟩)
  (c:PySem.W.codeIn K aX qual=true) (k:PySem.W.keepIn K (.ref f)=true):m8 K x qual st f (PySem.W.fnOf x qual (l9 st) (kb st) (aV st) .none kV doc pm an aX ct):=⟨⟨oc,od,kV,doc,pm,an,aX,ct,lF,rfl,l,c⟩,k⟩
end
section
variable {X:Cx}
end
def i6 (H H':Hp):Prop:=∀b o,H b=some o->H' b=some o
theorem i6.refl (H:Hp):i6 H H:=λ_ _ h=>h
end L2
namespace L2
open PySem PySem.Spec PyProof.Rows
theorem Iy {P:Program} {w:World} {A:Around} {R:Result->Shared->Prop} {s:Shared} {el tg src:Expr} {tests:List Expr} {sc:Scope} {ps:Pos} {gn av:Value} {ce:Env} (J:Nat->Shared->Prop)
  (turn:∀n s,J n s->wpAny (model P w) A (pyNext gn) (λr s1=>match r with
   |none=>R (.ok .next) s1
   |some v=>wpAny (model P w) A (letOwnedTupleGo tg gn v) (λ_ s2=>wpAny (model P w) A (assign tg ce v) (λ_ s3 =>
     wpAny (model P w) A (forIn tests true λc r=>if r=true then do let ok <- isTrue c ce (eval c ce);pure (ForInStep.yield ok) else pure (ForInStep.yield r)) (λok s4 =>
      if ok=true then wpAny (model P w) A (eval el ce) (λy s5=>wpAny (model P w) A (call (.builtin "list.append") [av,y]) (λ_ s6=>∃m,m<n/\J m s6) (λ_ _=>False) s5) (λ_ _=>False) s4
      else ∃m,m<n/\J m s4) (λ_ _=>False) s3) (λ_ _=>False) s2) (λ_ _=>False) s1) (λ_ _=>False) s)
  (n:Nat) (h:J n s):codeAny (model P w) A (.compLoop (.ListComp el [⟨tg,src,tests,0⟩] sc ps) 0 gn av ce) R s:=by
 refine codeAny_loop rfl J (λn s hJ=>?_) n h
 show wpAny _ A ((compTurn (.ListComp el [⟨tg,src,tests,0⟩] sc ps) 0 gn av ce).onRaise (λx=>do noteFrame x ce;theTreesLotGoes x)) _ _ s
 refine wpAny_noted ?_
 rw[compTurn_list]
 refine wpAny_bind (wpAny_standAt (wpAny_bind (wpAny_mono (turn n s hJ) (λr s1 h1=>?_) λ_ _ z=>z.elim)))
 cases r with
 |none=>exact wpAny_pure h1
 |some v =>
  refine wpAny_bind (wpAny_mono h1 (λ_ s2 h2=>?_) λ_ _ z=>z.elim)
  refine wpAny_bind (wpAny_mono h2 (λ_ s3 h3=>wpAny_bind (wpAny_mono h3 (λok s4 h4=>?_) λ_ _ z=>z.elim)) λ_ _ z=>z.elim)
  cases ok with
  |false=>exact wpAny_pure ⟨rfl,h4⟩
  |true =>
   exact wpAny_bind (wpAny_bind (wpAny_mono h4 (λy s5 h5=>wpAny_bind (wpAny_mono h5 (λ_ s6 h6=>wpAny_pure (wpAny_pure ⟨rfl,h6⟩)) λ_ _ z=>z.elim)) λ_ _ z=>z.elim))
theorem we (env:Env):∀(l:List (Str×NameKind)) (acc:List (Str×Addr)),(∀n,(n,NameKind.free)∈l->∃c,env.cells.lookup n=some c) ->
  ∃cl,(forIn l acc (λ(p:Str×NameKind) (cs:List (Str×Addr))=>(do
   if (p.2==NameKind.free)=true then do let c <- cellOf env p.1;pure (ForInStep.yield ((p.1,c)::cs)) else pure (ForInStep.yield cs):Sem (ForInStep (List (Str×Addr))))))=pure cl /\
   ∀n c,cl.lookup n=some c↔(((n,NameKind.free)∈l/\env.cells.lookup n=some c)\/((n,NameKind.free)∉l/\acc.lookup n=some c))
 | [],acc,_=>⟨acc,rfl,λn c=>by simp⟩
 |(x,k)::r,acc,h=>by
  rw[List.forIn_cons]
  cases hk:(k==NameKind.free) with
  |false =>
   have gr:k≠.free:=by intro e;rw[e] at hk;cases hk
   obtain⟨cl,e,q⟩:=we env r acc λn hn=>h n (List.mem_cons_of_mem _ hn)
   refine⟨cl,?_,λn c=>?_⟩
   ·simp only[Bool.false_eq_true,if_false]
    exact e
   ·rw[q n c]
    have:(n,NameKind.free)∈(x,k)::r↔(n,NameKind.free)∈r:=by
     constructor
     ·intro hm
      rcases List.mem_cons.mp hm with z|z
      ·injection z with _ z2
       exact absurd z2.symm gr
      ·exact z
     ·exact List.mem_cons_of_mem _
    rw[this]
  |true =>
   have he:k=.free:=by cases k<;>first|rfl|cases hk
   subst he
   obtain⟨c0,zf⟩:=h x List.mem_cons_self
   obtain⟨cl,e,q⟩:=we env r ((x,c0)::acc) λn hn=>h n (List.mem_cons_of_mem _ hn)
   refine⟨cl,?_,λn c=>?_⟩
   ·simp only[if_true,cellOf,zf]
    exact e
   ·rw[q n c]
    by_cases hx:n=x
    ·subst hx
     constructor
     ·rintro (⟨_,z⟩ | ⟨_,z⟩)
      ·exact .inl ⟨List.mem_cons_self,z⟩
      ·rw[List.lookup_cons,beq_self_eq_true] at z
       exact .inl ⟨List.mem_cons_self,zf.trans z⟩
     ·rintro (⟨_,z⟩ | ⟨z,_⟩)
      ·by_cases hm:(n,NameKind.free)∈r
       ·exact .inl ⟨hm,z⟩
       ·refine .inr ⟨hm,?_⟩
        rw[List.lookup_cons,beq_self_eq_true]
        exact zf.symm.trans z
      ·exact absurd List.mem_cons_self z
    ·have:(n,NameKind.free)∈(x,NameKind.free)::r↔(n,NameKind.free)∈r:=by
      constructor
      ·intro hm
       rcases List.mem_cons.mp hm with z|z
       ·injection z with z1 _
        exact absurd z1 hx
       ·exact z
      ·exact List.mem_cons_of_mem _
     rw[this,List.lookup_cons,beq_false_of_ne hx]
theorem Ek {env:Env} {sc:Scope} (h:∀n,(n,NameKind.free)∈sc.names->∃c,env.cells.lookup n=some c) :
  ∃cl,closureFor sc env=pure cl/\∀n c,cl.lookup n=some c↔((n,NameKind.free)∈sc.names/\env.cells.lookup n=some c):=by
 obtain⟨cl,e,q⟩:=we env sc.names [] h
 refine⟨cl,?_,λn c=>?_⟩
 ·unfold closureFor
  exact(congrArg (λz:Sem (List (Str×Addr))=>z >>= λr=>pure r) e)
 ·rw[q n c]
  simp
theorem CH (f:Str->NameKind->NameKind) (x:Str):∀l:List (Str×NameKind),(l.map λp=>(p.1,f p.1 p.2)).lookup x=(l.lookup x).map (f x)
 | []=>rfl
 |(n,k)::r=>by
  rw[List.map_cons,List.lookup_cons,List.lookup_cons]
  cases h:x==n with
  |true =>
   have e:x=n:=by simpa using h
   subst e
   rfl
  |false=>exact CH f x r
theorem sj (sc:Scope) (env:Env) (x:Str):(relabel sc env).names.lookup x=(sc.names.lookup x).map λk=>if (k==NameKind.free&&env.scope.kind==.function&&env.kindOf x==some .cell)=true then NameKind.cell else k:=by
 rw[<- CH (λx k=>if (k==NameKind.free&&env.scope.kind==.function&&env.kindOf x==some .cell)=true then NameKind.cell else k)]
 show List.lookup x (sc.names.map _)=_
 congr 1
 apply List.map_congr_left
 rintro ⟨n,k⟩ _
 dsimp only
 split<;>rfl
noncomputable abbrev dB (X:Cx) (N:List Str) (sc:Scope) (cl:List (Str×Addr)) (C:Addr) (s:Shared) (H:Hp) (ex:List Addr) (pn:List (Addr×Obj)):Cx where
 prog:=X.prog
 w:=X.w
 K:=X.K
 mg:=X.mg
 base:=X.base
 A:=X.A
 N:=N
 cS:=s
 qE:=H
 env:=compEnvC sc cl C X.env
 outer:=X.stack
 stack:=X.stack
 ex:=ex
 fn:=λ_=>false
 calm:=X.calm
 pn:=pn
 xe:=λ_ _=>False
structure p9 (X:Cx) (sc:Scope) (N:List Str) (nt:Nat) (cap:List Nat):Prop where
 kind:sc.kind=.function
 El:∀x∈sc.names,x.2≠.cell
 names:∀x∈sc.names,x.2=.local->sc.names.lookup x.1=some .local
 frees:∀x∈sc.names,x.2=.free->sc.names.lookup x.1=some .free/\(X.env.scope.names.lookup x.1=some .cell\/X.env.scope.names.lookup x.1=some .free)
 len:N.length=nt+cap.length
 yC:∀(k:Nat) j,cap[k]?=some j->∃x,X.N[j]?=some x/\N[nt+k]?=some x/\(x,NameKind.free)∈sc.names
noncomputable def jv (nt:Nat) (cap:List Nat) (σ:St):St:=List.replicate nt none++cap.map λj=>(σ[j]?).getD none
def PF (X:Cx) (tests:List Expr) (t:TT):Prop :=
 ∀(pins:List (Addr×Obj)) (s:Shared) (σ:St) (H:Hp) (Q:Bool->Hp->Prop),Inv X pins σ H s->t σ H Q ->
  wpAny (model X.prog X.w) X.A (forIn tests true λc r=>if r=true then do let ok <- isTrue c X.env (eval c X.env);pure (ForInStep.yield ok) else pure (ForInStep.yield r)) (TP X pins σ Q) X.xe s
noncomputable def Qp:TT:=λ_ H Q=>Q true H
theorem ND {X:Cx}:PF X [] Qp:=λ_ _ _ H _ I h=>wpAny_tests_nil ⟨H,I,h⟩
theorem NF {X:Cx} {c:Expr} {t:TT} (h:PT X c t):PF X [c] t:=λpins s σ H Q I hw=>wpAny_tests_one (h pins s σ H Q I hw)
def kC (g:TG) (nt:Nat):Prop:=∀(x:V) (o caps:St) (H:Hp) (R:St->Hp->Prop),o.length=nt->g x (o++caps) H R->g x (o++caps) H fun τ H2=>(∃o2:St,o2.length=nt/\τ=o2++caps)/\R τ H2
noncomputable def lj (cap:List Nat) (σ:St):St:=cap.map λj=>(σ[j]?).getD none
def CW (J:It) (nt:Nat) (caps:St) (g:TG) (tf:TT) (te:TE) (H:Hp) (Q:VK):Prop:=∃W:Nat->Nat->List V->Hp->Prop,(∃m,W 0 m [] H) /\
 ∀i m acc H2,W i m acc H2->(J.stop i H2/\acc.length<=sizeLine/\∀D,H2 D=none->Q (.ref D) (upd H2 D (.lst acc))) \/
  (J.go i H2/\acc.length<=sizeLine/\∃N:List V->Hp->Prop,(∀eR H',N eR H'->∃m',m' < m/\W (i+1) m' eR H') /\
   ∀o x H3,o.length=nt->J.qZ i H2 x H3->g x (o++caps) H3 fun m9 H4=>tf m9 H4 λb H5=>if b=true then te m9 H5 λv H6=>N (acc++[v]) H6 else N acc H5)
noncomputable def ki (wi:TI) (nt:Nat) (cap:List Nat) (g:TG) (tf:TT) (te:TE):TE:=fun σ H Q=>wi σ H λJ H1=>CW J nt (lj cap σ) g tf te H1 Q
section
variable {fs ex:List Addr} {H H':Hp} {h h1 h2:Heap} {P:Program} {w:World}
theorem Un.adopt {D:Addr} {o:HO} (u:Un fs ex H H' h h1) (hp:h.objs.size<=D) (hn:H' D=none):Un fs ex H (upd H' D o) h h1 where
 keep:=u.keep
 slot:=u.slot
 free:=λb ob q n hx=>by rw[bx (Nat.ne_of_lt (Nat.lt_of_lt_of_le (Heap.lt_size q) hp))];exact u.free b ob q n hx
 there:=u.there
 iE:=λb xs q=>by rw[bx (dJ (u.iE b xs q) hn)];exact u.iE b xs q
 hU:=λb ob xs q=>by rw[bx (dJ (u.hU b ob xs q) hn)];exact u.hU b ob xs q
 iY:=λb ps q=>by
  obtain⟨more,e⟩:=u.iY b ps q
  exact⟨more,by rw[bx (dJ e hn)];exact e⟩
theorem Un.but {C:Addr} (u:Un fs ex H H' h h1) (hp:h.objs.size<=C) (sb:Heap.SameBut C h1 h2):Un fs ex H H' h h2:=by
 have ne:∀b ob,h.get? b=some ob->b≠C:=λb ob q=>Nat.ne_of_lt (Nat.lt_of_lt_of_le (Heap.lt_size q) hp)
 refine⟨λb ob q n hb hx=>(sb.2 b (ne b ob q)).trans (u.keep b ob q n hb hx),λb ob q n hb hx=>?_,u.free,λb ob q hx=>?_,u.iE,u.hU,u.iY⟩
 ·obtain⟨sl,e⟩:=u.slot b ob q n hb hx
  exact⟨sl,(sb.2 b (ne b ob q)).trans e⟩
 ·obtain⟨o',e⟩:=u.there b ob q hx
  exact⟨o',(sb.2 b (ne b ob q)).trans e⟩
theorem cb.but {C:Addr} (x:cb P w H h1) (hn:H C=none) (sb:Heap.SameBut C h1 h2):cb P w H h2:=λa o e =>
 (x a o e).fS (λb u hb q=>(sb.2 b (by
  rintro rfl
  rcases hb with z|z
  ·subst z;rw[hn] at e;cases e
  ·rw[hn] at z;cases z)).trans q) (λ_ q=>q) λ_ _ q=>q
theorem cb.adopt {D:Addr} {o:HO} (x:cb P w H h) (hn:H D=none) (new:dC P w (upd H D o) h D o):cb P w (upd H D o) h:=λb u e=>by
 by_cases hb:b=D
 ·subst hb;rw[dU] at e;cases e;exact new
 ·rw[bx hb] at e
  exact(x b u e).fS (λc v _ q=>q) (λc q=>by rw[bx (dJ q hn)];exact q) λc xs q=>by rw[bx (dJ q hn)];exact q
end
section
variable {X:Cx} {sc:Scope} {N:List Str} {nt:Nat} {cap:List Nat} {cl:List (Str×Addr)} {s:Shared} {h1:Heap} {H:Hp} {σ:St} {pins:List (Addr×Obj)} {fp:List Addr} {C:Addr} {t':Nat}
theorem Inv.block (I:Inv X pins σ H s) (S:p9 X sc N nt cap) (cY:∀n c,cl.lookup n=some c↔((n,NameKind.free)∈sc.names/\X.env.cells.lookup n=some c)) (hf:∀b∈fp,fv X pins H b) (il:∀b∈fp,b<s.heap.objs.size)
  (hk:∀b o,s.heap.get? b=some o->h1.get? b=some o) (hC:s.heap.objs.size<=C) (oX:∃m,h1.Ns C m):Inv (dB X N sc cl C s H fp (X.pn++pins)) [] (jv nt cap σ) H { s with heap:=h1,toks:=t' }:=by
 have qm:∀b∈fZ X.stack,b∈X.env.locals::X.fs:=I.kc
 have Gx:C∉fZ X.stack:=λz=>by
  rcases List.mem_cons.mp (I.kc C z) with e|e
  ·exact absurd (Nat.lt_of_lt_of_le I.lt hC) (by rw[e];exact Nat.lt_irrefl _)
  ·exact I.qF hC e
 have xW:∀x,(relabel sc X.env).names.lookup x=some .cell\/(relabel sc X.env).names.lookup x=some .free->(x,NameKind.free)∈sc.names:=λx hx=>by
  rw[sj] at hx
  cases e:sc.names.lookup x with
  |none=>rw[e] at hx;rcases hx with z|z<;>cases z
  |some k =>
   have hm:(x,k)∈sc.names:=by
    obtain⟨l1,l2,e1,_⟩:=List.lookup_eq_some_iff.mp e
    rw[e1]
    simp
   rw[e] at hx
   cases k with
   |free=>exact hm
   |cell=>exact absurd rfl (S.El _ hm)
   |_=>exfalso;revert hx;simp
 have wY:∀x,(x,NameKind.free)∈sc.names->∃c,X.env.cells.lookup x=some c:=λx hx=>I.ok.has x (S.frees _ hx rfl).2
 have ok:Cx.Ok (dB X N sc cl C s H fp (X.pn++pins)):=by
  refine⟨I.ok.mod,?_,I.ok.glob,I.ok.blt,hC,?_,?_,?_,I.ok.hd,I.ok.frames,.inl rfl,?_,I.bs,Nat.le_trans I.ok.jc I.sz,?_,?_,I.stack,I.wU⟩
  ·exact S.kind
  ·intro x y c hx hy
   exact I.ok.inj x y c ((cY x c).mp hx).2 ((cY y c).mp hy).2
  ·intro x hx
   have hm:=xW x hx
   obtain⟨c,e⟩:=wY x hm
   exact⟨c,(cY x c).mpr ⟨hm,e⟩⟩
  ·intro x c hx
   cases hx
  ·intro b hb
   refine⟨Nat.ne_of_lt (Nat.lt_of_lt_of_le (il b hb) hC),λx c e=>?_⟩
   exact(hf b hb).2.2.2.2.1 x c ((cY x c).mp e).2
  ·intro b o e hb
   rcases(hf b hb).2.2.2.1 with z|z
   ·exact I.ok.mL b o e z
   ·exact absurd (Nat.lt_of_lt_of_le (Heap.lt_size e) (Nat.le_trans I.ok.jc z)) (Nat.lt_irrefl _)
  ·intro b hb z
   rcases List.mem_cons.mp (qm b z) with e|e
   ·exact(hf b hb).2.1 e
   ·exact(hf b hb).2.2.1 e
 obtain⟨m,hm⟩:=oX
 obtain⟨mX,Q4,zg⟩:=I.loc
 refine⟨ok,rfl,I.bare,Un.kept hk,⟨m,hm,λi x v e1 e2 e3=>?_⟩,λx c e=>?_,I.aJ.fresh hC,λx c e=>I.eD x c ((cY x c).mp e).2,λp hp=>?_,I.aJ.kept hk,?_⟩
 ·
  have hi:nt<=i:=by
   apply Nat.le_of_not_lt
   intro bh
   have:(jv nt cap σ)[i]?=some none:=by
    unfold jv
    rw[List.getElem?_append_left (by simpa using bh),List.getElem?_replicate,if_pos bh]
   rw[this] at e2
   cases e2
  have jh:(cap.map λj=>(σ[j]?).getD none)[i-nt]?=some (some v):=by
   have e:=e2
   unfold jv at e
   rw[List.getElem?_append_right (by simpa using hi)] at e
   simpa using e
  rw[List.getElem?_map] at jh
  cases ej:cap[i-nt]? with
  |none=>rw[ej] at jh;cases jh
  |some j =>
   rw[ej] at jh
   have ev:(σ[j]?).getD none=some v:=Option.some.inj jh
   have rA:σ[j]?=some (some v):=by
    cases q:σ[j]? with
    |none=>rw[q] at ev;cases ev
    |some z=>rw[q] at ev;exact congrArg some ev
   obtain⟨y,f1,f2,f3⟩:=S.yC _ _ ej
   rw[Nat.add_sub_cancel' hi] at f2
   have zh:y=x:=Option.some.inj (f2.symm.trans e1)
   subst zh
   obtain⟨g1,g2⟩:=S.frees _ f3 rfl
   have zi:qS X.env.scope y:=.inr g2
   obtain⟨u,r,l⟩:=zg j y v f1 rA zi
   refine⟨u,r,.inr ⟨?_,?_⟩⟩
   ·show (relabel sc X.env).names.lookup y=some .cell\/(relabel sc X.env).names.lookup y=some .free
    rw[sj,g1]
    simp only[Option.map_some]
    split
    ·exact .inl rfl
    ·exact .inr rfl
   ·rcases l with ⟨k,_⟩ | ⟨_,c,hc,lh⟩
    ·exfalso
     have k':X.env.scope.names.lookup y=some .local:=k
     dsimp only at g2
     rw[k'] at g2
     rcases g2 with z|z<;>cases z
    ·obtain⟨oc,ho,hd⟩:=lh
     exact⟨c,(cY y c).mpr ⟨f3,hc⟩,oc,hk _ _ ho,hd⟩
 ·obtain⟨v,oc,ho,hd⟩:=I.cell x c ((cY x c).mp e).2
  exact⟨v,oc,hk _ _ ho,hd⟩
 ·have zj:p∈X.pn++pins:=by simpa using hp
  obtain⟨e,n,ne,nf,d⟩:=I.pin p zj
  refine⟨hk _ _ e,n,Nat.ne_of_lt (Nat.lt_of_lt_of_le (Heap.lt_size e) hC),λz=>?_,d⟩
  rcases List.mem_cons.mp (qm p.1 z) with q|q
  ·exact ne q
  ·exact nf q
 ·unfold jv
  rw[List.length_append,List.length_replicate,List.length_map]
  exact S.len.symm
end
section
variable {X:Cx}
end
end L2
namespace L2
open PySem PySem.Spec PyProof.Rows
inductive Kn where
 |aB|bl|int|str|tup|lst|bC
 deriving DecidableEq
noncomputable def oY (K:Frag) (H:Hp):V->Kn->Prop
 | .aB,.aB=>True
 | .bl _,.bl=>True
 | .int _,.int=>True
 | .str _,.str=>True
 | .ref a,.tup=>∃xs,aR K H a xs
 | .ref a,.lst=>∃xs,bL K H a xs
 | .ref a,.bC=>∃ao,H a=some (.dK ao)
 |_,_=>False
noncomputable def oK:Kn->String->Bool
 | .int,"int"=>true
 | .bl,"int"=>true
 | .bl,"bool"=>true
 | .str,"str"=>true
 | .tup,"tuple"=>true
 | .lst,"list"=>true
 |_,_=>false
section
variable {X:Cx}
theorem Inv.qa {pins:List (Addr×Obj)} {σ:St} {H:Hp} {s:Shared} {a:Addr} {xs:List V} (I:Inv X pins σ H s) (h:aR X.K H a xs):∃o,s.heap.get? a=some o/\o.cls=.type "tuple":=by
 obtain⟨its,r,⟨o,e,c,_⟩,_⟩:=I.tuple h
 exact⟨o,e,c⟩
theorem Inv.qb {pins:List (Addr×Obj)} {σ:St} {H:Hp} {s:Shared} {a:Addr} {xs:List V} (I:Inv X pins σ H s) (h:bL X.K H a xs):∃o,s.heap.get? a=some o/\o.cls=.type "list":=by
 obtain⟨its,r,⟨o,n,e,c,_⟩,_⟩:=I.list h
 exact⟨o,e,c⟩
theorem Inv.qc {pins:List (Addr×Obj)} {σ:St} {H:Hp} {s:Shared} {a:Addr} {ao:List (Key×V)} (I:Inv X pins σ H s) (h:H a=some (.dK ao)):∃o,s.heap.get? a=some o/\o.cls=.type "dict":=by
 obtain⟨_,_,vs,_,p⟩:=(show dC X.prog X.w H s.heap a (.dK ao) from I.aJ a _ h)
 obtain⟨o,es,ep,h1,h2,_⟩:=p
 exact⟨o,h1,h2.1⟩
theorem Hz:cF X (.builtin "isinstance") (λxs H Q=>∃x k,xs=[x,.ty "int"]/\oY X.K H x k/\Q (.bl (oK k "int")) H):=by
 intro pins s σ H xs us Q I r h
 obtain⟨x,k,rfl,hk,q⟩:=h
 obtain⟨u,c,rfl,ru,rc⟩:=vals2 r
 cases rc
 cases k with
 |aB =>
  cases x with
  |aB =>
   cases ru
   exact IsiPair.NoneType_int ⟨.bl false,H,I.tok _,rfl,q⟩
  |_=>exact hk.elim
 |bl =>
  cases x with
  |bl b =>
   cases ru
   exact IsiPair.bool_int ⟨.bl true,H,I,rfl,q⟩
  |_=>exact hk.elim
 |int =>
  cases x with
  |int i =>
   obtain⟨t,rfl⟩:=ru
   exact IsiPair.int_int ⟨.bl true,H,I,rfl,q⟩
  |_=>exact hk.elim
 |str =>
  cases x with
  |str y =>
   obtain⟨t,rfl⟩:=ru
   exact IsiPair.str_int ⟨.bl false,H,I.tok _,rfl,q⟩
  |_=>exact hk.elim
 |tup =>
  cases x with
  |ref a =>
   cases ru
   obtain⟨z,hz⟩:=hk
   obtain⟨o,ho,hc⟩:=I.qa hz
   exact IsiPair.tuple_int ho hc ⟨.bl false,H,I.tok _,rfl,q⟩
  |_=>exact hk.elim
 |lst =>
  cases x with
  |ref a =>
   cases ru
   obtain⟨z,hz⟩:=hk
   obtain⟨o,ho,hc⟩:=I.qb hz
   exact IsiPair.list_int ho hc ⟨.bl false,H,I.tok _,rfl,q⟩
  |_=>exact hk.elim
 |bC =>
  cases x with
  |ref a =>
   cases ru
   obtain⟨z,hz⟩:=hk
   obtain⟨o,ho,hc⟩:=I.qc hz
   exact IsiPair.dict_int ho hc ⟨.bl false,H,I.tok _,rfl,q⟩
  |_=>exact hk.elim
theorem Hn:cF X (.builtin "isinstance") (λxs H Q=>∃x k,xs=[x,.ty "bool"]/\oY X.K H x k/\Q (.bl (oK k "bool")) H):=by
 intro pins s σ H xs us Q I r h
 obtain⟨x,k,rfl,hk,q⟩:=h
 obtain⟨u,c,rfl,ru,rc⟩:=vals2 r
 cases rc
 cases k with
 |aB =>
  cases x with
  |aB =>
   cases ru
   exact IsiPair.NoneType_bool ⟨.bl false,H,I.tok _,rfl,q⟩
  |_=>exact hk.elim
 |bl =>
  cases x with
  |bl b =>
   cases ru
   exact IsiPair.bool_bool ⟨.bl true,H,I,rfl,q⟩
  |_=>exact hk.elim
 |int =>
  cases x with
  |int i =>
   obtain⟨t,rfl⟩:=ru
   exact IsiPair.int_bool ⟨.bl false,H,I.tok _,rfl,q⟩
  |_=>exact hk.elim
 |str =>
  cases x with
  |str y =>
   obtain⟨t,rfl⟩:=ru
   exact IsiPair.str_bool ⟨.bl false,H,I.tok _,rfl,q⟩
  |_=>exact hk.elim
 |tup =>
  cases x with
  |ref a =>
   cases ru
   obtain⟨z,hz⟩:=hk
   obtain⟨o,ho,hc⟩:=I.qa hz
   exact IsiPair.tuple_bool ho hc ⟨.bl false,H,I.tok _,rfl,q⟩
  |_=>exact hk.elim
 |lst =>
  cases x with
  |ref a =>
   cases ru
   obtain⟨z,hz⟩:=hk
   obtain⟨o,ho,hc⟩:=I.qb hz
   exact IsiPair.list_bool ho hc ⟨.bl false,H,I.tok _,rfl,q⟩
  |_=>exact hk.elim
 |bC =>
  cases x with
  |ref a =>
   cases ru
   obtain⟨z,hz⟩:=hk
   obtain⟨o,ho,hc⟩:=I.qc hz
   exact IsiPair.dict_bool ho hc ⟨.bl false,H,I.tok _,rfl,q⟩
  |_=>exact hk.elim
theorem HA:cF X (.builtin "isinstance") (λxs H Q=>∃x k,xs=[x,.ty "str"]/\oY X.K H x k/\Q (.bl (oK k "str")) H):=by
 intro pins s σ H xs us Q I r h
 obtain⟨x,k,rfl,hk,q⟩:=h
 obtain⟨u,c,rfl,ru,rc⟩:=vals2 r
 cases rc
 cases k with
 |aB =>
  cases x with
  |aB =>
   cases ru
   exact IsiPair.NoneType_str ⟨.bl false,H,I.tok _,rfl,q⟩
  |_=>exact hk.elim
 |bl =>
  cases x with
  |bl b =>
   cases ru
   exact IsiPair.bool_str ⟨.bl false,H,I.tok _,rfl,q⟩
  |_=>exact hk.elim
 |int =>
  cases x with
  |int i =>
   obtain⟨t,rfl⟩:=ru
   exact IsiPair.int_str ⟨.bl false,H,I.tok _,rfl,q⟩
  |_=>exact hk.elim
 |str =>
  cases x with
  |str y =>
   obtain⟨t,rfl⟩:=ru
   exact IsiPair.str_str ⟨.bl true,H,I,rfl,q⟩
  |_=>exact hk.elim
 |tup =>
  cases x with
  |ref a =>
   cases ru
   obtain⟨z,hz⟩:=hk
   obtain⟨o,ho,hc⟩:=I.qa hz
   exact IsiPair.tuple_str ho hc ⟨.bl false,H,I.tok _,rfl,q⟩
  |_=>exact hk.elim
 |lst =>
  cases x with
  |ref a =>
   cases ru
   obtain⟨z,hz⟩:=hk
   obtain⟨o,ho,hc⟩:=I.qb hz
   exact IsiPair.list_str ho hc ⟨.bl false,H,I.tok _,rfl,q⟩
  |_=>exact hk.elim
 |bC =>
  cases x with
  |ref a =>
   cases ru
   obtain⟨z,hz⟩:=hk
   obtain⟨o,ho,hc⟩:=I.qc hz
   exact IsiPair.dict_str ho hc ⟨.bl false,H,I.tok _,rfl,q⟩
  |_=>exact hk.elim
theorem Hf:cF X (.builtin "isinstance") (λxs H Q=>∃x k,xs=[x,.ty "tuple"]/\oY X.K H x k/\Q (.bl (oK k "tuple")) H):=by
 intro pins s σ H xs us Q I r h
 obtain⟨x,k,rfl,hk,q⟩:=h
 obtain⟨u,c,rfl,ru,rc⟩:=vals2 r
 cases rc
 cases k with
 |aB =>
  cases x with
  |aB =>
   cases ru
   exact IsiPair.NoneType_tuple ⟨.bl false,H,I.tok _,rfl,q⟩
  |_=>exact hk.elim
 |bl =>
  cases x with
  |bl b =>
   cases ru
   exact IsiPair.bool_tuple ⟨.bl false,H,I.tok _,rfl,q⟩
  |_=>exact hk.elim
 |int =>
  cases x with
  |int i =>
   obtain⟨t,rfl⟩:=ru
   exact IsiPair.int_tuple ⟨.bl false,H,I.tok _,rfl,q⟩
  |_=>exact hk.elim
 |str =>
  cases x with
  |str y =>
   obtain⟨t,rfl⟩:=ru
   exact IsiPair.str_tuple ⟨.bl false,H,I.tok _,rfl,q⟩
  |_=>exact hk.elim
 |tup =>
  cases x with
  |ref a =>
   cases ru
   obtain⟨z,hz⟩:=hk
   obtain⟨o,ho,hc⟩:=I.qa hz
   exact IsiPair.tuple_tuple ho hc ⟨.bl true,H,I,rfl,q⟩
  |_=>exact hk.elim
 |lst =>
  cases x with
  |ref a =>
   cases ru
   obtain⟨z,hz⟩:=hk
   obtain⟨o,ho,hc⟩:=I.qb hz
   exact IsiPair.list_tuple ho hc ⟨.bl false,H,I.tok _,rfl,q⟩
  |_=>exact hk.elim
 |bC =>
  cases x with
  |ref a =>
   cases ru
   obtain⟨z,hz⟩:=hk
   obtain⟨o,ho,hc⟩:=I.qc hz
   exact IsiPair.dict_tuple ho hc ⟨.bl false,H,I.tok _,rfl,q⟩
  |_=>exact hk.elim
theorem Ho:cF X (.builtin "isinstance") (λxs H Q=>∃x k,xs=[x,.ty "list"]/\oY X.K H x k/\Q (.bl (oK k "list")) H):=by
 intro pins s σ H xs us Q I r h
 obtain⟨x,k,rfl,hk,q⟩:=h
 obtain⟨u,c,rfl,ru,rc⟩:=vals2 r
 cases rc
 cases k with
 |aB =>
  cases x with
  |aB =>
   cases ru
   exact IsiPair.NoneType_list ⟨.bl false,H,I.tok _,rfl,q⟩
  |_=>exact hk.elim
 |bl =>
  cases x with
  |bl b =>
   cases ru
   exact IsiPair.bool_list ⟨.bl false,H,I.tok _,rfl,q⟩
  |_=>exact hk.elim
 |int =>
  cases x with
  |int i =>
   obtain⟨t,rfl⟩:=ru
   exact IsiPair.int_list ⟨.bl false,H,I.tok _,rfl,q⟩
  |_=>exact hk.elim
 |str =>
  cases x with
  |str y =>
   obtain⟨t,rfl⟩:=ru
   exact IsiPair.str_list ⟨.bl false,H,I.tok _,rfl,q⟩
  |_=>exact hk.elim
 |tup =>
  cases x with
  |ref a =>
   cases ru
   obtain⟨z,hz⟩:=hk
   obtain⟨o,ho,hc⟩:=I.qa hz
   exact IsiPair.tuple_list ho hc ⟨.bl false,H,I.tok _,rfl,q⟩
  |_=>exact hk.elim
 |lst =>
  cases x with
  |ref a =>
   cases ru
   obtain⟨z,hz⟩:=hk
   obtain⟨o,ho,hc⟩:=I.qb hz
   exact IsiPair.list_list ho hc ⟨.bl true,H,I,rfl,q⟩
  |_=>exact hk.elim
 |bC =>
  cases x with
  |ref a =>
   cases ru
   obtain⟨z,hz⟩:=hk
   obtain⟨o,ho,hc⟩:=I.qc hz
   exact IsiPair.dict_list ho hc ⟨.bl false,H,I.tok _,rfl,q⟩
  |_=>exact hk.elim
end
end L2
namespace L2
open PySem PySem.Spec PyProof.Rows
section
variable {X:Cx} {es:List Expr} {t:TA} {pos:Pos}
theorem CI {A:Around} {bs:List Bool} {its:List Value} (r:Vals (bs.map V.bl) its):TruthOf X.prog X.w A (λi v=>its.toArray[i]?=some v) (λi=>bs.getD i false):=by
 intro i v s Q E hv hQ
 have Gy:its[i]?=some v:=by simpa using hv
 have hi:i<its.length:=(List.getElem?_eq_some_iff.mp Gy).1
 have hb:i<bs.length:=by
  have e:=r.length
  rw[List.length_map] at e
  omega
 have hx:(bs.map V.bl)[i]?=some (.bl (bs[i])):=by rw[List.getElem?_map,List.getElem?_eq_getElem hb];rfl
 obtain⟨u,hu,ru⟩:=Vals.get r hx
 rw[Gy] at hu
 cases hu
 cases ru
 have e:bs.getD i false=bs[i]:=by simp[List.getD,List.getElem?_eq_getElem hb]
 have lK:Q (bs.getD i false) s:=hQ
 rw[e] at lK
 exact wpAny_truthy_bool lK
theorem range_all (bs:List Bool):(List.range bs.length).all (λi=>bs.getD i false)=bs.all id:=by
 rw[Bool.eq_iff_iff,List.all_eq_true,List.all_eq_true]
 constructor
 ·intro h b hb
  obtain⟨i,hi,e⟩:=List.getElem_of_mem hb
  have:=h i (List.mem_range.mpr hi)
  simpa [List.getD,List.getElem?_eq_getElem hi,e] using this
 ·intro h i hi
  have hi:=List.mem_range.mp hi
  have:=h _ (List.getElem_mem hi)
  simpa [List.getD,List.getElem?_eq_getElem hi] using this
theorem range_any (bs:List Bool):(List.range bs.length).any (λi=>bs.getD i false)=bs.any id:=by
 rw[Bool.eq_iff_iff,List.any_eq_true,List.any_eq_true]
 constructor
 ·rintro ⟨i,hi,h⟩
  have hi:=List.mem_range.mp hi
  exact⟨bs[i],List.getElem_mem hi,by simpa [List.getD,List.getElem?_eq_getElem hi] using h⟩
 ·rintro ⟨b,hb,h⟩
  obtain⟨i,hi,e⟩:=List.getElem_of_mem hb
  exact⟨i,List.mem_range.mpr hi,by simpa [List.getD,List.getElem?_eq_getElem hi,e] using h⟩
theorem Kv (hc:X.calm=true):cF X (.builtin "all") (λxs H Q=>∃(p:Addr) (bs:List Bool),xs=[.ref p]/\bL X.K H p (bs.map V.bl)/\Q (.bl (bs.all id)) H):=by
 intro pins s σ H xs us Q I r h
 obtain⟨p,bs,rfl,hp,q⟩:=h
 obtain⟨u,rfl,ru⟩:=vals1 r
 cases ru
 obtain⟨its,rv,pl,hz⟩:=I.list hp
 have hn:its.toArray.size=bs.length:=by
  have e:=rv.length
  rw[List.length_map] at e
  simpa using e.symm
 have hh:X.A.in1.handled=none:=I.ok.hd hc
 refine call_all_walk (wpAny_pyIter_list pl.isList ?_)
 have old:p≠s.heap.objs.size:=Nat.ne_of_lt (by obtain⟨o,n,e,_⟩:=pl;exact Heap.lt_size e)
 refine⟨s.heap.objs.size,[s.heap.objs.size,p],[s.heap.objs.size],its.toArray.size,_,_,λi=>bs.getD i false,rfl,Walks.list hh s.heap.objs.size p old its.toArray,⟨⟨_,Heap.get?_push_size _ rfl,rfl,rfl⟩,pl.isList.at λo e=>Heap.get?_push_of_some _ e⟩,CI rv,λh' tk hk=>?_⟩
 rw[hn,range_all]
 exact⟨.bl _,H,I.kept (t':=tk) λb o e=>hk b o (by simpa using Nat.ne_of_lt (Heap.lt_size e)) (Heap.get?_push_of_some _ e),rfl,q⟩
theorem Kw (hc:X.calm=true):cF X (.builtin "any") (λxs H Q=>∃(p:Addr) (bs:List Bool),xs=[.ref p]/\bL X.K H p (bs.map V.bl)/\Q (.bl (bs.any id)) H):=by
 intro pins s σ H xs us Q I r h
 obtain⟨p,bs,rfl,hp,q⟩:=h
 obtain⟨u,rfl,ru⟩:=vals1 r
 cases ru
 obtain⟨its,rv,pl,hz⟩:=I.list hp
 have hn:its.toArray.size=bs.length:=by
  have e:=rv.length
  rw[List.length_map] at e
  simpa using e.symm
 have hh:X.A.in1.handled=none:=I.ok.hd hc
 refine call_any_walk (wpAny_pyIter_list pl.isList ?_)
 have old:p≠s.heap.objs.size:=Nat.ne_of_lt (by obtain⟨o,n,e,_⟩:=pl;exact Heap.lt_size e)
 refine⟨s.heap.objs.size,[s.heap.objs.size,p],[s.heap.objs.size],its.toArray.size,_,_,λi=>bs.getD i false,rfl,Walks.list hh s.heap.objs.size p old its.toArray,⟨⟨_,Heap.get?_push_size _ rfl,rfl,rfl⟩,pl.isList.at λo e=>Heap.get?_push_of_some _ e⟩,CI rv,λh' tk hk=>?_⟩
 rw[hn,range_any]
 exact⟨.bl _,H,I.kept (t':=tk) λb o e=>hk b o (by simpa using Nat.ne_of_lt (Heap.lt_size e)) (Heap.get?_push_of_some _ e),rfl,q⟩
end
end L2
namespace L2
open PySem PySem.Spec PyProof.Rows
noncomputable def qG:Key->PyData
 | .inl i=>.int i
 | .inr x=>.str x
mutual
noncomputable def DV (K:Frag) (Z:Addr->Prop) (H:Hp):PyData->V->Prop
 | .none,v=>v=.aB
 | .bool b,v=>v=.bl b
 | .int i,v=>v=.int i
 | .str x,v=>v=.str x
 | .tuple ds,v=>∃a xs,v=.ref a/\aR K H a xs/\aq K Z H ds xs
 | .list ds,v=>∃a xs,v=.ref a/\¬ Z a/\H a=some (.lst xs)/\aq K Z H ds xs
 | .dict ao,v=>∃a es,v=.ref a/\¬ Z a/\H a=some (.dK es)/\∃l:List (Key×Int),es=l.map (λp=>(p.1,V.int p.2))/\ao=l.map λp=>(qG p.1,PyData.int p.2)
noncomputable def aq (K:Frag) (Z:Addr->Prop) (H:Hp):List PyData->List V->Prop
 | [],vs=>vs=[]
 |d::ds,vs=>∃v r,vs=v::r/\DV K Z H d v/\aq K Z H ds r
end
structure FR (K:Frag) (Z:Addr->Prop) (H H':Hp):Prop where
 tup:∀b xs,aR K H b xs->aR K H' b xs
 lst:∀b xs,¬ Z b->H b=some (.lst xs)->H' b=some (.lst xs)
 bC:∀b es,¬ Z b->H b=some (.dK es)->H' b=some (.dK es)
mutual
theorem DV.fS {K:Frag} {Z:Addr->Prop} {H H':Hp} (S:FR K Z H H'):∀{d:PyData} {v:V},DV K Z H d v->DV K Z H' d v
 | .none,_,h=>h
 | .bool _,_,h=>h
 | .int _,_,h=>h
 | .str _,_,h=>h
 | .tuple ds,v,h=>by
  simp only[DV] at h |-
  obtain⟨a,xs,e,hq,r⟩:=h
  exact⟨a,xs,e,S.tup a xs hq,aq.fS S r⟩
 | .list ds,v,h=>by
  simp only[DV] at h |-
  obtain⟨a,xs,e,hz,hq,r⟩:=h
  exact⟨a,xs,e,hz,S.lst a xs hz hq,aq.fS S r⟩
 | .dict ao,v,h=>by
  simp only[DV] at h |-
  obtain⟨a,es,e,hz,hq,r⟩:=h
  exact⟨a,es,e,hz,S.bC a es hz hq,r⟩
theorem aq.fS {K:Frag} {Z:Addr->Prop} {H H':Hp} (S:FR K Z H H'):∀{ds:List PyData} {vs:List V},aq K Z H ds vs->aq K Z H' ds vs
 | [],_,h=>h
 |d::ds,vs,h=>by
  simp only[aq] at h |-
  obtain⟨v,r,e,h1,h2⟩:=h
  exact⟨v,r,e,DV.fS S h1,aq.fS S h2⟩
end
mutual
theorem DV.more {K:Frag} {Z:Addr->Prop} {H:Hp} {p:Addr} (hp:H p=none):∀{d:PyData} {v:V},DV K Z H d v->DV K (λa=>Z a\/a=p) H d v
 | .none,_,h=>h
 | .bool _,_,h=>h
 | .int _,_,h=>h
 | .str _,_,h=>h
 | .tuple ds,v,h=>by
  simp only[DV] at h |-
  obtain⟨a,xs,e,hq,r⟩:=h
  exact⟨a,xs,e,hq,aq.more hp r⟩
 | .list ds,v,h=>by
  simp only[DV] at h |-
  obtain⟨a,xs,e,hz,hq,r⟩:=h
  exact⟨a,xs,e,(λz=>z.elim hz λe=>by subst e;rw[hp] at hq;cases hq),hq,aq.more hp r⟩
 | .dict ao,v,h=>by
  simp only[DV] at h |-
  obtain⟨a,es,e,hz,hq,r⟩:=h
  exact⟨a,es,e,(λz=>z.elim hz λe=>by subst e;rw[hp] at hq;cases hq),hq,r⟩
theorem aq.more {K:Frag} {Z:Addr->Prop} {H:Hp} {p:Addr} (hp:H p=none):∀{ds:List PyData} {vs:List V},aq K Z H ds vs->aq K (λa=>Z a\/a=p) H ds vs
 | [],_,h=>h
 |d::ds,vs,h=>by
  simp only[aq] at h |-
  obtain⟨v,r,e,h1,h2⟩:=h
  exact⟨v,r,e,DV.more hp h1,aq.more hp h2⟩
end
mutual
theorem DV.less {K:Frag} {Z Z':Addr->Prop} {H:Hp} (jN:∀a,Z' a->Z a):∀{d:PyData} {v:V},DV K Z H d v->DV K Z' H d v
 | .none,_,h=>h
 | .bool _,_,h=>h
 | .int _,_,h=>h
 | .str _,_,h=>h
 | .tuple ds,v,h=>by
  simp only[DV] at h |-
  obtain⟨a,xs,e,hq,r⟩:=h
  exact⟨a,xs,e,hq,aq.less jN r⟩
 | .list ds,v,h=>by
  simp only[DV] at h |-
  obtain⟨a,xs,e,hz,hq,r⟩:=h
  exact⟨a,xs,e,λz=>hz (jN _ z),hq,aq.less jN r⟩
 | .dict ao,v,h=>by
  simp only[DV] at h |-
  obtain⟨a,es,e,hz,hq,r⟩:=h
  exact⟨a,es,e,λz=>hz (jN _ z),hq,r⟩
theorem aq.less {K:Frag} {Z Z':Addr->Prop} {H:Hp} (jN:∀a,Z' a->Z a):∀{ds:List PyData} {vs:List V},aq K Z H ds vs->aq K Z' H ds vs
 | [],_,h=>h
 |d::ds,vs,h=>by
  simp only[aq] at h |-
  obtain⟨v,r,e,h1,h2⟩:=h
  exact⟨v,r,e,DV.less jN h1,aq.less jN h2⟩
end
section
variable {X:Cx} {pins:List (Addr×Obj)} {σ:St} {H:Hp} {s:Shared} {Z:Addr->Prop}
theorem vI {h:Heap} {P:Program} {w:World}:∀{l:List (Key×Int)} {vs:List (Key×Value)} {es:List DictEntry},KV (l.map λp=>(p.1,V.int p.2)) vs->Pairs (tj P w) es vs ->
  ReadsAll h (es.map (·.key)) ((l.map λp=>(qG p.1,PyData.int p.2)).map (·.1)) []/\ReadsAll h (es.map (·.val)) ((l.map λp=>(qG p.1,PyData.int p.2)).map (·.2)) []
 | [],_,_,.nil,.nil=>⟨.nil,.nil⟩
 |(k,i)::l,_,_,.cons (b:=q) r t,.cons (e:=e) h1 h2 h3=>by
  obtain⟨a1,a2⟩:=vI (h:=h) t h3
  obtain⟨r1,t',r2⟩:=r
  have r1:k=q.1:=r1
  have r2:q.2=Value.int i t':=r2
  refine⟨?_,?_⟩
  ·have hk:xQ q.1 e.key=true:=h1
   rw[<- r1] at hk
   have:Reads h e.key (qG k) []:=by
    rcases jt hk with ⟨j,u,e1,e2⟩ | ⟨x,u,e1,e2⟩
    ·rw[e1,e2];exact .int j u
    ·rw[e1,e2];exact .str x u
   exact ReadsAll.cons (as:=[]) (bs:=[]) this a1
  ·have:Reads h e.val (.int i) []:=by rw[h2,r2];exact .int i t'
   exact ReadsAll.cons (as:=[]) (bs:=[]) this a2
mutual
theorem DV.reads (I:Inv X pins σ H s):∀{d:PyData} {v:V} {u:Value},DV X.K Z H d v->RelV v u->∃as,Reads s.heap u d as
 | .none,v,u,h,r=>by
  have e:v=.aB:=h
  subst e;cases r
  exact⟨[],.none⟩
 | .bool b,v,u,h,r=>by
  have e:v=.bl b:=h
  subst e;cases r
  exact⟨[],.bool b⟩
 | .int i,v,u,h,r=>by
  have e:v=.int i:=h
  subst e;obtain⟨t,rfl⟩:=r
  exact⟨[],.int i t⟩
 | .str x,v,u,h,r=>by
  have e:v=.str x:=h
  subst e;obtain⟨t,rfl⟩:=r
  exact⟨[],.str x t⟩
 | .tuple ds,v,u,h,r=>by
  simp only[DV] at h
  obtain⟨a,xs,e,hq,hr⟩:=h
  subst e;cases r
  obtain⟨its,rv,⟨o,e,c,n,hd⟩,_⟩:=I.tuple hq
  obtain⟨as,rs⟩:=aq.reads I hr rv
  exact⟨as,.tuple e c hd (by simpa using rs)⟩
 | .list ds,v,u,h,r=>by
  simp only[DV] at h
  obtain⟨a,xs,e,_,hq,hr⟩:=h
  subst e;cases r
  obtain⟨its,rv,⟨o,n,e,c,_,hd⟩,_⟩:=I.list (bL.of hq)
  obtain⟨as,rs⟩:=aq.reads I hr rv
  exact⟨a::as,.list e c hd (by simpa using rs)⟩
 | .dict ao,v,u,h,r=>by
  simp only[DV] at h
  obtain⟨a,es,e,_,hq,l,e1,e2⟩:=h
  subst e e1 e2;cases r
  obtain⟨_,_,vs,kv,o,fH,ep,g1,g2,g3,_,g5,_⟩:=(show dC X.prog X.w H s.heap a (.dK _) from I.aJ a _ hq)
  obtain⟨r1,r2⟩:=vI (h:=s.heap) kv g5
  exact⟨a::[]++[],.dict g1 g2.1 g3 r1 r2⟩
theorem aq.reads (I:Inv X pins σ H s):∀{ds:List PyData} {vs:List V} {us:List Value},aq X.K Z H ds vs->Vals vs us->∃as,ReadsAll s.heap us ds as
 | [],vs,us,h,r=>by
  have e:vs=[]:=h
  subst e;cases r
  exact⟨[],.nil⟩
 |d::ds,vs,us,h,r=>by
  obtain⟨v,rr,e,h1,h2⟩:=h
  subst e
  cases r with
  |cons ru rt =>
   obtain⟨as,a1⟩:=DV.reads I h1 ru
   obtain⟨bs,a2⟩:=aq.reads I h2 rt
   exact⟨as++bs,.cons a1 a2⟩
end
noncomputable def FT (K:Frag) (neg:Bool):R2:=λx y H Q=>∃(d e:PyData) (Z:Addr->Prop),DV K Z H d x/\DV K Z H e y/\d.canLay0=true/\e.canLay0=true/\min d.depth e.depth<=100/\Q (.bl (if neg then !PyData.eqv d e else PyData.eqv d e)) H
theorem NG {k:Nat} (hr:cN k X.A):bg X (compareOp .Eq) (FT X.K false):=by
 intro pins s σ H x y v u Q I rx ry h
 obtain⟨d,e,Z,h1,h2,l1,l2,hd,q⟩:=h
 obtain⟨as,r1⟩:=h1.reads I rx
 obtain⟨bs,r2⟩:=h2.reads I ry
 exact SeqAt.eqOverData _ _ _ _ _ _ _ _ _ _ _ _ r1 r2 l1 l2 (by have:=hr.un;omega) ⟨.bl _,H,I,rfl,q⟩
theorem NH {k:Nat} (hr:cN k X.A):bg X (compareOp .NotEq) (FT X.K true):=by
 intro pins s σ H x y v u Q I rx ry h
 obtain⟨d,e,Z,h1,h2,l1,l2,hd,q⟩:=h
 obtain⟨as,r1⟩:=h1.reads I rx
 obtain⟨bs,r2⟩:=h2.reads I ry
 exact SeqAt.neOverData _ _ _ _ _ _ _ _ _ _ _ _ r1 r2 l1 l2 (by have:=hr.un;omega) ⟨.bl _,H,I,rfl,q⟩
end
end L2
namespace HT
open PySem PySem.Spec PyProof.Rows
section
variable {prog:Program} {w:World} {A:Around} {E:Value->Shared->Prop} {s:Shared}
theorem B9 {t:Addr} {items:Array Value} {Q:Bool->Shared->Prop} (ht:IsTup s.heap t items) (h:Q true s):wpAny (model prog w) A (Builtin.Tuple.tupleIsExact (.ref t)) Q E s:=by
 unfold Builtin.Tuple.tupleIsExact
 exact wpAny_bind (wpAny_typeOf ht.typeIs (wpAny_pure h))
theorem Hg {t sl:Addr} {items:Array Value} {vl vu:Value} {lo hi:Option Int} {Q:Value->Shared->Prop} (ht:IsTup s.heap t items) (hs:s.heap.IsSliceOf sl vl vu .none) (pl:IsPart vl lo) (pu:IsPart vu hi)
  (hw:aP items.size 0 lo=0/\aP items.size items.size hi=items.size) (h:Q (.ref t) s):wpAny (model prog w) A (getItem (.ref t) (.ref sl)) Q E s:=by
 obtain⟨os,iL,gp,iM⟩:=id hs
 have rl:s.TypeIs (.ref sl) "slice":=⟨os,iL,gp⟩
 unfold getItem
 try with_reducible refine wpAny_holding ?_
 first|refine wpAny_bind (wpAny_pure ?_)|skip
 refine wpAny_bind (wpAny_sequenceKey ht.typeIs (by decide) ?_)
 refine wpAny_bind (wpAny_callSpecial?_slot (name:=Str.ofString "__getitem__") ht.typeIs PyProof.Rows.slot_tuple_getitem
  (wpAny_call_entry PyProof.Rows.slot_tuple_getitem ht.typeIs entry_tuple_getitem ?_ (args_tuple_getitem _ _)))
 show wpAny _ _ (Builtin.Tuple.tupleItemsOf (.ref t) >>= _) _ _ s
 refine wpAny_bind (tupleItemsOf_ ht ?_)
 refine wpAny_bind (wpAny_typeOf rl ?_)
 rw[if_pos (by decide)]
 refine wpAny_bind (AQ hs pl pu ?_)
 obtain⟨w1,w2⟩:=hw
 show wpAny _ _ (if (((aP items.size 0 lo:Nat):Int)==0&&(1:Int)==1&&(aP items.size items.size hi-aP items.size 0 lo)==items.size)=true then _ else _) _ _ s
 rw[w1,w2,if_pos (by simp)]
 first
  |exact wpAny_bind (B9 ht (by simp only[if_true];exact wpAny_bind (wpAny_rule (wpAny_pure ⟨_,rfl,wpAny_pure h⟩))))
  |exact wpAny_bind (B9 ht (by simp only[if_true];exact wpAny_bind (wpAny_rule (wpAny_bind (wpAny_pure (wpAny_pure ⟨_,rfl,wpAny_pure h⟩))))))
end
end HT
namespace L2
open PySem PySem.Spec PyProof.Rows
theorem i6.Q5 {K:Frag} {H H':Hp} {a:Addr} {xs:List V} (e:i6 H H') (h:aR K H a xs):aR K H' a xs:=by
 rcases h with (h | ⟨o,h⟩)|h
 ·exact .inl (.inl (e _ _ h))
 ·exact .inl (.inr ⟨o,e _ _ h⟩)
 ·exact .inr h
theorem i6.upd {H:Hp} {p:Addr} {o:HO} (hn:H p=none):i6 H (upd H p o):=λb u e=>by rw[bx (dJ e hn)];exact e
def ku (K:Frag) (H:Hp) (ys:List V) (Q:VK):Prop:=∀a H',i6 H H'->aR K H' a ys->Q (.ref a) H'
theorem ku.here {K:Frag} {H:Hp} {ys:List V} {Q:VK} {a:Addr} (h:ku K H ys Q) (hs:aR K H a ys):Q (.ref a) H:=h a H (i6.refl H) hs
theorem ku.new {K:Frag} {H:Hp} {ys:List V} {Q:VK} {p:Addr} (h:ku K H ys Q) (hn:H p=none):Q (.ref p) (L2.upd H p (.tup ys)):=h p _ (i6.upd hn) (aR.of dU)
section
variable {X:Cx} {e:Expr} {te:TE} {pos p2 p3 p4:Pos}
theorem Kx {xs:List V} {lo hi:Option Int} (h:HT.aP xs.length 0 lo=0/\HT.aP xs.length xs.length hi=xs.length):i5 xs lo hi=xs:=by
 unfold i5
 rw[h.1,h.2]
 simp
noncomputable def Qq (K:Frag):V->Option Int->Option Int->Hp->VK->Prop:=λx lo hi H Q=>∃a xs,x=.ref a/\aR K H a xs/\ku K H (i5 xs lo hi) Q
theorem LY:rn X (Qq X.K):=by
 intro pins s σ H x v vl vu lo hi sl Q I rx hs pl pu h
 obtain⟨a,xs,rfl,hx,q⟩:=h
 by_cases hw:HT.aP xs.length 0 lo=0/\HT.aP xs.length xs.length hi=xs.length
 ·cases rx
  obtain⟨its,r,ht,hz⟩:=I.tuple hx
  have hlen:its.toArray.size=xs.length:=by rw[List.size_toArray];exact r.length.symm
  rw[Kx hw] at q
  exact⟨"tuple",_,PyProof.Rows.slot_tuple_getitem.lookup,ht.typeIs,HT.Hg ht hs pl pu (by rw[hlen];exact hw) ⟨.ref a,H,I,rfl,q.here hx⟩⟩
 ·exact xu pins s σ H _ v vl vu lo hi sl Q I rx hs pl pu ⟨a,xs,rfl,hx,hw,λp hp=>q.new hp⟩
noncomputable def OZ (K:Frag):R2:=λx y H Q=>∃a b xs ys,x=.ref a/\y=.ref b/\aR K H a xs/\aR K H b ys/\xs.length+ys.length<=sizeLine/\ku K H (xs++ys) Q
theorem LZ:bg X (binaryOp .Add) (OZ X.K):=by
 intro pins s σ H x y v u Q I rx ry h
 obtain⟨a,b,xs,ys,rfl,rfl,ha,hb,hz,q⟩:=h
 by_cases hx:xs=[]
 ·subst hx
  cases rx
  cases ry
  obtain⟨its,r1,p1,_⟩:=I.tuple ha
  obtain⟨mP,r2,p2,_⟩:=I.tuple hb
  cases r1
  obtain⟨⟨cls,dd,data,sl⟩,ho,hc,n,hd⟩:=id p1
  obtain⟨⟨FP,lH,data2,cI⟩,iK,lJ,n2,hd2⟩:=id p2
  simp only at hc hd lJ hd2
  subst hc hd lJ hd2
  exact concat_meets ⟨_,ho,rfl⟩ ⟨_,iK,rfl⟩ noFill_tuple_add seq_tuple_add PySem.F.slot_tuple_add PySem.F.entry_tuple_add (PySem.F.args_tuple_add_2 _ _)
   (tuple_addW0 a b _ mP.toArray n n2 dd lH sl cI (by simp)) ⟨ho,iK,⟨.ref b,H,I,rfl,q.here hb⟩⟩
 ·refine LU pins s σ H _ _ v u Q I rx ry ⟨a,b,xs,ys,rfl,rfl,ha,hb,hx,hz,λe=>?_,λ_ p hp=>q.new hp⟩
  subst e
  rw[List.append_nil] at q
  exact q.here ha
end
end L2
namespace HZ
open PySem PySem.Spec PyProof.Rows
structure kD (P:Program) (w:World) (A:Around) (i l:Addr) (tn:Nat->Heap->Prop) (val:Nat->Option Value):Prop where
 keep:∀k h h',tn k h->(∀o,h.get? i=some o->h'.get? i=some o)->(∀o,h.get? l=some o->h'.get? l=some o)->tn k h'
 item:∀k (s:Shared) (Q:Value->Shared->Prop) (E:Value->Shared->Prop) x,tn k s.heap->val k=some x->(∀h',tn (k+1) h'->Heap.SameBut i s.heap h'->Q x { s with heap:=h' })->wpAny (model P w) A (Builtin.SmallTypes.nextOf (.ref i)) Q E s
 stop:∀k (s:Shared) (Q:Value->Shared->Prop) (E:Value->Shared->Prop),tn k s.heap->val k=none->(∀h' e,Heap.ExtBut i s.heap h'->(∃o,h'.get? e=some o/\o.cls=.type "StopIteration")->E (.ref e) { s with heap:=h' })->wpAny (model P w) A (Builtin.SmallTypes.nextOf (.ref i)) Q E s
 obj:∀k h,tn k h->∃o,h.get? i=some o/\∀v,o.data≠.cell v
section
variable {P:Program} {w:World} {A:Around} {E:Value->Shared->Prop} {s:Shared}
theorem Iz {it t:Addr} {k:Nat} {its:Array Value} {x:Value} {Q:Value->Shared->Prop} (g:s.heap.IsTupleIter it t k) (gt:s.heap.IsTuple t its) (gx:its[k]?=some x)
  (q:∀h',h'.IsTupleIter it t (k+1)->Heap.SameBut it s.heap h'->Q x { s with heap:=h' }):wpAny (model P w) A (Builtin.SmallTypes.nextOf (.ref it)) Q E s:=by
 obtain⟨o,go,gc,gd⟩:=id g
 obtain⟨ol,zk,_,nl,zl⟩:=gt
 unfold Builtin.SmallTypes.nextOf
 refine wpAny_bind (wpAny_callSpecial?_slot (name:=Str.ofString "__next__") g.typeIs F.slot_tuple_iterator_next
  (wpAny_call_entry F.slot_tuple_iterator_next g.typeIs F.entry_tuple_iterator_next ?_ (F.args_tuple_iterator_next_1 _)))
 show wpAny _ _ (field (.ref it) 0 >>= _) _ _ _
 refine wpAny_bind (wpAny_field go gd (x:=.ref t) rfl ?_)
 show wpAny _ _ (if (Value.ref t==Value.none)=true then _ else _) _ _ _
 rw[if_neg (λz:(Value.ref t==Value.none)=true=>Bool.false_ne_true z)]
 show wpAny _ _ (field (.ref it) 1 >>= _) _ _ _
 refine wpAny_bind (wpAny_field go gd (x:=.int k 0) rfl ?_)
 show wpAny _ _ (seqItems? (.ref t) >>= _) _ _ _
 refine wpAny_bind (wpAny_seqItems zk zl ?_)
 simp only[Int.toNat_natCast,gx]
 refine wpAny_bind (wpAny_setField go gd (by simp) (wpAny_pure ⟨x,rfl,wpAny_pure (q _ ?_ (Heap.SameBut.update ..))⟩))
 exact⟨_,Heap.get?_update_self _ go (Obj.isFreed_of_fields (Obj.data_mapFields gd _)),(Obj.cls_mapFields ..).trans gc,by rw[Obj.data_mapFields gd];simp[rawInt]⟩
theorem Hh {it t:Addr} {k:Nat} {its:Array Value} {Q:Value->Shared->Prop} (gh:A.handled=none) (g:s.heap.IsTupleIter it t k) (gt:s.heap.IsTuple t its) (gx:its[k]?=none)
  (q:∀h' e,Heap.ExtBut it s.heap h'->(∃o,h'.get? e=some o/\o.cls=.type "StopIteration")->E (.ref e) { s with heap:=h' }):wpAny (model P w) A (Builtin.SmallTypes.nextOf (.ref it)) Q E s:=by
 obtain⟨o,go,gc,gd⟩:=id g
 obtain⟨ol,zk,_,nl,zl⟩:=gt
 unfold Builtin.SmallTypes.nextOf
 refine wpAny_bind (wpAny_callSpecial?_slot (name:=Str.ofString "__next__") g.typeIs F.slot_tuple_iterator_next
  (wpAny_call_entry F.slot_tuple_iterator_next g.typeIs F.entry_tuple_iterator_next ?_ (F.args_tuple_iterator_next_1 _)))
 show wpAny _ _ (field (.ref it) 0 >>= _) _ _ _
 refine wpAny_bind (wpAny_field go gd (x:=.ref t) rfl ?_)
 show wpAny _ _ (if (Value.ref t==Value.none)=true then _ else _) _ _ _
 rw[if_neg (λz:(Value.ref t==Value.none)=true=>Bool.false_ne_true z)]
 show wpAny _ _ (field (.ref it) 1 >>= _) _ _ _
 refine wpAny_bind (wpAny_field go gd (x:=.int k 0) rfl ?_)
 show wpAny _ _ (seqItems? (.ref t) >>= _) _ _ _
 refine wpAny_bind (wpAny_seqItems zk zl ?_)
 simp only[Int.toNat_natCast,gx]
 refine wpAny_bind (wpAny_rule (wpAny_bind (wpAny_setField go gd (by simp) ?_)))
 show wpAny _ _ (newExc (.type "StopIteration") [] >>= _) _ _ (_:Shared)
 refine wpAny_bind ?_
 simp only[newExc,newTuple]
 refine wpAny_bind (wpAny_newObj_type ?_ (by size_fits))
 refine wpAny_bind (m:=firstArgMember _ _) (wpAny_of_eq (a:=Value.none) (by first|rfl | (unfold firstArgMember;rfl)) ?_)
 refine wpAny_newObj_type ?_ (by size_fits)
 simp only[raiseNew]
 refine wpAny_bind (wpAny_handled ?_)
 first|rw[gh]|rw[show A.in1.handled=none from gh]
 refine wpAny_bind (wpAny_pure (wpAny_throw ?_))
 exact q _ _ (((Heap.SameBut.update ..).extBut.push _).push _) ⟨_,Heap.get?_push_size _ rfl,rfl⟩
theorem tm (gh:A.handled=none) (i l:Addr) (its:Array Value):kD P w A i l (λk h=>h.IsTupleIter i l k/\h.IsTuple l its) (λk=>its[k]?) where
 keep:=λk h h' st k1 k2=>⟨st.1.at k1,by obtain⟨o,e,r⟩:=st.2;exact⟨o,k2 o e,r⟩⟩
 item:=λk s Q E x st e q=>Iz st.1 st.2 e λh' g sb=>by
  by_cases hl:l=i
  ·exfalso
   subst hl
   obtain⟨o,e1,c1,_⟩:=st.1
   obtain⟨o',e2,c2,_⟩:=st.2
   rw[e1] at e2;cases e2;rw[c1] at c2;simp at c2
  ·obtain⟨o,e2,r⟩:=st.2
   exact q h' ⟨g,o,(sb.2 l hl).trans e2,r⟩ sb
 stop:=λk s Q E st e q=>Hh gh st.1 st.2 e q
 obj:=λk h st=>by
  obtain⟨o,e,_,d⟩:=st.1
  exact⟨o,e,λv z=>by rw[d] at z;cases z⟩
structure Apart (z ti to j1 j2 m1 m2:Addr):Prop where
 a1:ti≠z
 a2:to≠z
 a3:j1≠z
 a4:j2≠z
 a5:ti≠to
 a6:ti≠j1
 a7:ti≠j2
 a8:to≠j1
 a9:to≠j2
 b0:j1≠j2
 b1:m1≠z
 b2:m1≠to
 b3:m1≠j1
 b4:m1≠j2
 b5:m2≠z
 b6:m2≠to
 b7:m2≠j1
 b8:m2≠j2
theorem Ky {z ti to j1 j2 m1 m2:Addr} {t1 t2:Nat->Heap->Prop} {v1 v2:Nat->Option Value} {k:Nat} {x y a b:Value} {Q:Value->Shared->Prop} (D:Apart z ti to j1 j2 m1 m2) (S1:kD P w A j1 m1 t1 v1) (S2:kD P w A j2 m2 t2 v2)
  (gz:IsZip s.heap z ti to .none) (gi:IsPair s.heap ti (.ref j1) (.ref j2)) (go:IsPair s.heap to a b) (h1:t1 k s.heap) (h2:t2 k s.heap) (hx:v1 k=some x) (hy:v2 k=some y)
  (q:∀h',IsZip h' z ti to (rawInt s.heap.objs.size)->IsPair h' to x y->t1 (k+1) h'->t2 (k+1) h'->IsPair h' s.heap.objs.size x y->h'.objs.size=s.heap.objs.size+1 ->
   (∀c o,c≠z->c≠to->c≠j1->c≠j2->s.heap.get? c=some o->h'.get? c=some o)->Q (.ref s.heap.objs.size) { s with heap:=h' }) :
  wpAny (model P w) A (Builtin.«zip.__next__» ⟨[.ref z],[]⟩) (λfin s'=>∃v,fin=.done (.ret v)/\Q v s') E s:=by
 show wpAny _ _ (field (.ref z) 2 >>= _) _ _ (_:Shared)
 refine wpAny_bind (wpAny_field gz rfl (x:=.bool false) rfl ?_)
 show wpAny _ _ (field (.ref z) 3 >>= _) _ _ (_:Shared)
 refine wpAny_bind (wpAny_field gz rfl (x:=.ref ti) rfl ?_)
 refine wpAny_bind (wpAny_seqItems gi rfl ?_)
 show wpAny _ _ (Builtin.SmallTypes.ownedTupleIsFree (.ref z) >>= _) _ _ (_:Shared)
 refine wpAny_bind ?_
 unfold Builtin.SmallTypes.ownedTupleIsFree
 refine wpAny_bind (wpAny_field gz rfl (x:=.none) rfl (wpAny_pure ?_))
 simp only[if_true]
 refine wpAny_bind (wpAny_rule ?_)
 refine wpAny_bind (wpAny_field gz rfl (x:=.ref to) rfl ?_)
 refine wpAny_bind (wpAny_setField_rec gz (by simp) λp1 z1 s1=>?_)
 replace z1:IsZip p1 z ti to .ellipsis:=z1
 refine wpAny_bind ?_
 simp only[List.zipIdx_cons,List.zipIdx_nil,List.forIn_cons,List.forIn_nil]
 refine wpAny_bind (wpAny_bind (wpAny_onRaise ?_))
 show wpAny _ _ (Builtin.SmallTypes.nextOf (.ref j1) >>= _) _ _ (_:Shared)
 refine wpAny_bind (S1.item k _ _ _ x (S1.keep k _ _ h1 (λo e=>s1.extBut _ _ D.a3 e) (λo e=>s1.extBut _ _ D.b1 e)) hx λp2 oZ s2=>wpAny_pure ?_)
 have o2:IsPair p2 to a b:=s2.extBut _ _ D.a8 (s1.extBut _ _ D.a2 go)
 refine wpAny_bind (wpAny_seqItems o2 rfl ?_)
 refine wpAny_bind (wpAny_updateSeq_pair o2 λp3 o3 s3=>?_)
 replace o3:IsPair p3 to x b:=o3
 refine wpAny_bind (wpAny_letGo (wpAny_pure ?_))
 refine wpAny_bind (wpAny_bind (wpAny_onRaise ?_))
 show wpAny _ _ (Builtin.SmallTypes.nextOf (.ref j2) >>= _) _ _ (_:Shared)
 refine wpAny_bind (S2.item k _ _ _ y (S2.keep k _ _ h2 (λo e=>s3.extBut _ _ D.a9.symm (s2.extBut _ _ D.b0.symm (s1.extBut _ _ D.a4 e))) (λo e=>s3.extBut _ _ D.b6 (s2.extBut _ _ D.b7 (s1.extBut _ _ D.b5 e)))) hy λp4 Q6 s4=>wpAny_pure ?_)
 have o4:IsPair p4 to x b:=s4.extBut _ _ D.a9 o3
 refine wpAny_bind (wpAny_seqItems o4 rfl ?_)
 refine wpAny_bind (wpAny_updateSeq_pair o4 λp5 o5 s5=>?_)
 replace o5:IsPair p5 to x y:=o5
 refine wpAny_bind (wpAny_letGo (wpAny_pure (wpAny_pure ?_)))
 refine wpAny_bind (wpAny_seqItems o5 rfl ?_)
 refine wpAny_bind (wpAny_newTuple ?_)
 have gs:p5.objs.size=s.heap.objs.size:=by rw[s5.1,s4.1,s3.1,s2.1,s1.1]
 have z5:IsZip p5 z ti to .ellipsis:=s5.extBut _ _ D.a2.symm (s4.extBut _ _ D.a4.symm (s3.extBut _ _ D.a2.symm (s2.extBut _ _ D.a3.symm z1)))
 have k5:∀c o,c≠z->c≠to->c≠j1->c≠j2->s.heap.get? c=some o->p5.get? c=some o:=λc o c1 c2 c3 c4 e=>s5.extBut _ _ c2 (s4.extBut _ _ c4 (s3.extBut _ _ c2 (s2.extBut _ _ c3 (s1.extBut _ _ c1 e))))
 have Q7:t1 (k+1) p5:=S1.keep _ _ _ oZ (λo e=>s5.extBut _ _ D.a8.symm (s4.extBut _ _ D.b0 (s3.extBut _ _ D.a8.symm e))) (λo e=>s5.extBut _ _ D.b2 (s4.extBut _ _ D.b4 (s3.extBut _ _ D.b2 e)))
 have Q8:t2 (k+1) p5:=S2.keep _ _ _ Q6 (λo e=>s5.extBut _ _ D.a9.symm e) (λo e=>s5.extBut _ _ D.b6 e)
 have lz:z<p5.objs.size:=Heap.lt_size z5
 show wpAny _ _ (Builtin.SmallTypes.ownedTupleHandOut (.ref z) (.ref p5.objs.size) >>= _) _ _ (_:Shared)
 refine wpAny_bind ?_
 unfold Builtin.SmallTypes.ownedTupleHandOut
 have z6:IsZip (p5.push { cls:=.type "tuple",data:=.seq #[x,y] }) z ti to .ellipsis:=Heap.get?_push_of_some _ z5
 refine wpAny_bind (wpAny_setField_rec z6 (by simp) λp7 z7 s7=>?_)
 replace z7:IsZip p7 z ti to (rawInt p5.objs.size):=z7
 refine wpAny_setField_rec z7 (by simp) λp8 z8 s8=>?_
 replace z8:IsZip p8 z ti to (rawInt p5.objs.size):=z8
 have up:∀c o,c≠z->p5.get? c=some o->p8.get? c=some o:=λc o c1 e=>s8.extBut _ _ c1 (s7.extBut _ _ c1 (Heap.get?_push_of_some _ e))
 have w8:IsPair p8 p5.objs.size x y:=s8.extBut _ _ (Nat.ne_of_gt lz) (s7.extBut _ _ (Nat.ne_of_gt lz) (Heap.get?_push_size _ rfl))
 have n8:p8.objs.size=p5.objs.size+1:=by rw[s8.1,s7.1,Heap.size_push]
 rw[gs] at z8 w8 n8
 refine wpAny_pure ⟨_,rfl,?_⟩
 show Q (.ref p5.objs.size) _
 rw[gs]
 exact q p8 z8 (up _ _ D.a2 o5) (S1.keep _ _ _ Q7 (λo e=>up _ o D.a3 e) (λo e=>up _ o D.b1 e)) (S2.keep _ _ _ Q8 (λo e=>up _ o D.a4 e) (λo e=>up _ o D.b5 e)) w8 n8 λc o c1 c2 c3 c4 e=>up c o c1 (k5 c o c1 c2 c3 c4 e)
theorem L0 {z ti to j1 j2 m1 m2:Addr} {t1 t2:Nat->Heap->Prop} {v1 v2:Nat->Option Value} {k:Nat} {a b:Value} {Q:Fin->Shared->Prop} (D:Apart z ti to j1 j2 m1 m2) (S1:kD P w A j1 m1 t1 v1) (S2:kD P w A j2 m2 t2 v2)
  (gz:IsZip s.heap z ti to .none) (gi:IsPair s.heap ti (.ref j1) (.ref j2)) (go:IsPair s.heap to a b) (h1:t1 k s.heap) (h2:t2 k s.heap) (yD:v1 k=none\/v2 k=none)
  (q:∀h' e,(∀c o,c≠z->c≠to->c≠j1->c≠j2->s.heap.get? c=some o->h'.get? c=some o)->(∃o,h'.get? e=some o/\o.cls=.type "StopIteration")->E (.ref e) { s with heap:=h' }) :
  wpAny (model P w) A (Builtin.«zip.__next__» ⟨[.ref z],[]⟩) Q E s:=by
 show wpAny _ _ (field (.ref z) 2 >>= _) _ _ (_:Shared)
 refine wpAny_bind (wpAny_field gz rfl (x:=.bool false) rfl ?_)
 show wpAny _ _ (field (.ref z) 3 >>= _) _ _ (_:Shared)
 refine wpAny_bind (wpAny_field gz rfl (x:=.ref ti) rfl ?_)
 refine wpAny_bind (wpAny_seqItems gi rfl ?_)
 show wpAny _ _ (Builtin.SmallTypes.ownedTupleIsFree (.ref z) >>= _) _ _ (_:Shared)
 refine wpAny_bind ?_
 unfold Builtin.SmallTypes.ownedTupleIsFree
 refine wpAny_bind (wpAny_field gz rfl (x:=.none) rfl (wpAny_pure ?_))
 simp only[if_true]
 refine wpAny_bind (wpAny_rule ?_)
 refine wpAny_bind (wpAny_field gz rfl (x:=.ref to) rfl ?_)
 refine wpAny_bind (wpAny_setField_rec gz (by simp) λp1 z1 s1=>?_)
 replace z1:IsZip p1 z ti to .ellipsis:=z1
 refine wpAny_bind ?_
 simp only[List.zipIdx_cons,List.zipIdx_nil,List.forIn_cons,List.forIn_nil]
 refine wpAny_bind (wpAny_bind (wpAny_onRaise ?_))
 show wpAny _ _ (Builtin.SmallTypes.nextOf (.ref j1) >>= _) _ _ (_:Shared)
 have o7:t1 k p1:=S1.keep k _ _ h1 (λo e=>s1.extBut _ _ D.a3 e) (λo e=>s1.extBut _ _ D.b1 e)
 cases hx:v1 k with
 |none =>
  refine wpAny_bind (S1.stop k _ _ _ o7 hx λp2 e s2 he=>?_)
  obtain⟨oe,g1,g2⟩:=he
  have z2:IsZip p2 z ti to .ellipsis:=s2 _ _ D.a3.symm z1
  have ne:e≠z:=λu=>by subst u;rw[z2] at g1;cases g1;simp at g2
  refine wpAny_setField_rec z2 (by simp) λp3 _ s3=>q p3 e (λc o c1 _ c3 _ u=>s3.extBut _ _ c1 (s2 _ _ c3 (s1.extBut _ _ c1 u))) ⟨oe,s3.extBut _ _ ne g1,g2⟩
 |some x =>
  have hy:v2 k=none:=by
   rcases yD with h|h
   ·rw[hx] at h;cases h
   ·exact h
  refine wpAny_bind (S1.item k _ _ _ x o7 hx λp2 oZ s2=>wpAny_pure ?_)
  have o2:IsPair p2 to a b:=s2.extBut _ _ D.a8 (s1.extBut _ _ D.a2 go)
  refine wpAny_bind (wpAny_seqItems o2 rfl ?_)
  refine wpAny_bind (wpAny_updateSeq_pair o2 λp3 o3 s3=>?_)
  refine wpAny_bind (wpAny_letGo (wpAny_pure ?_))
  refine wpAny_bind (wpAny_bind (wpAny_onRaise ?_))
  show wpAny _ _ (Builtin.SmallTypes.nextOf (.ref j2) >>= _) _ _ (_:Shared)
  refine wpAny_bind (S2.stop k _ _ _ (S2.keep k _ _ h2 (λo e=>s3.extBut _ _ D.a9.symm (s2.extBut _ _ D.b0.symm (s1.extBut _ _ D.a4 e))) (λo e=>s3.extBut _ _ D.b6 (s2.extBut _ _ D.b7 (s1.extBut _ _ D.b5 e)))) hy λp4 e s4 he=>?_)
  obtain⟨oe,g1,g2⟩:=he
  have z4:IsZip p4 z ti to .ellipsis:=s4 _ _ D.a4.symm (s3.extBut _ _ D.a2.symm (s2.extBut _ _ D.a3.symm z1))
  have ne:e≠z:=λu=>by subst u;rw[z4] at g1;cases g1;simp at g2
  refine wpAny_setField_rec z4 (by simp) λp5 _ s5=>q p5 e (λc o c1 c2 c3 c4 u=>s5.extBut _ _ c1 (s4 _ _ c4 (s3.extBut _ _ c2 (s2.extBut _ _ c3 (s1.extBut _ _ c1 u))))) ⟨oe,s5.extBut _ _ ne g1,g2⟩
theorem next_item {z ti to j1 j2 m1 m2:Addr} {t1 t2:Nat->Heap->Prop} {v1 v2:Nat->Option Value} {k:Nat} {x y a b:Value} {Q:Option Value->Shared->Prop} (D:Apart z ti to j1 j2 m1 m2) (S1:kD P w A.in1 j1 m1 t1 v1) (S2:kD P w A.in1 j2 m2 t2 v2)
  (gz:IsZip s.heap z ti to .none) (gi:IsPair s.heap ti (.ref j1) (.ref j2)) (go:IsPair s.heap to a b) (h1:t1 k s.heap) (h2:t2 k s.heap) (hx:v1 k=some x) (hy:v2 k=some y)
  (q:∀h',IsZip h' z ti to (rawInt s.heap.objs.size)->IsPair h' to x y->t1 (k+1) h'->t2 (k+1) h'->IsPair h' s.heap.objs.size x y->h'.objs.size=s.heap.objs.size+1 ->
   (∀c o,c≠z->c≠to->c≠j1->c≠j2->s.heap.get? c=some o->h'.get? c=some o)->Q (some (.ref s.heap.objs.size)) { s with heap:=h' }):wpAny (model P w) A (pyNext (.ref z)) Q E s:=by
 have hT:s.TypeIs (.ref z) "zip":=⟨_,gz,rfl⟩
 unfold pyNext
 exact wpAny_bind (wpAny_attempt (wpAny_callSpecial?_slot (name:=Str.ofString "__next__") hT F.slot_zip_next
  (wpAny_call_entry F.slot_zip_next hT F.entry_zip_next (Ky D S1 S2 gz gi go h1 h2 hx hy λh' a1 a2 a3 a4 a5 a6 a7=>wpAny_pure (q h' a1 a2 a3 a4 a5 a6 a7)) (F.args_zip_next_1 _))))
theorem next_end {z ti to j1 j2 m1 m2:Addr} {t1 t2:Nat->Heap->Prop} {v1 v2:Nat->Option Value} {k:Nat} {a b:Value} {Q:Option Value->Shared->Prop} (D:Apart z ti to j1 j2 m1 m2) (S1:kD P w A.in1 j1 m1 t1 v1) (S2:kD P w A.in1 j2 m2 t2 v2)
  (gz:IsZip s.heap z ti to .none) (gi:IsPair s.heap ti (.ref j1) (.ref j2)) (go:IsPair s.heap to a b) (h1:t1 k s.heap) (h2:t2 k s.heap) (yD:v1 k=none\/v2 k=none)
  (q:∀h',(∀c o,c≠z->c≠to->c≠j1->c≠j2->s.heap.get? c=some o->h'.get? c=some o)->Q none { s with heap:=h' }):wpAny (model P w) A (pyNext (.ref z)) Q E s:=by
 have hT:s.TypeIs (.ref z) "zip":=⟨_,gz,rfl⟩
 unfold pyNext
 refine wpAny_bind (wpAny_attempt (wpAny_callSpecial?_slot (name:=Str.ofString "__next__") hT F.slot_zip_next
  (wpAny_call_entry F.slot_zip_next hT F.entry_zip_next (L0 D S1 S2 gz gi go h1 h2 yD λh' e hk he=>?_) (F.args_zip_next_1 _))))
 obtain⟨o,ho,hc⟩:=he
 exact wpAny_bind (wpAny_isInstance (T:="StopIteration") (b:=true) ⟨o,ho,hc⟩ isSubtype_stop (wpAny_pure (q _ hk)))
end
end HZ
namespace L2
open PySem PySem.Spec PyProof.Rows
theorem tU {X:Cx} {pins:List (Addr×Obj)} {σ:St} {H:Hp} {s:Shared} {a b:Addr} {xs:List V} (I:Inv X pins σ H s) (h:aR X.K H a xs) (f:fv X pins H b):a≠b:=by
 rintro rfl
 obtain⟨f0,_,_,f3,_⟩:=f
 rcases h with (h | ⟨o,h⟩) | ⟨o,its,n,hk,_⟩
 ·rw[f0] at h;cases h
 ·rw[f0] at h;cases h
 ·have hb:=I.mod.uY a o hk
  rcases f3 with z|z
  ·exact I.ok.mL a o hb z
  ·exact absurd (Nat.lt_of_lt_of_le (Heap.lt_size hb) (Nat.le_trans I.ok.jc z)) (Nat.lt_irrefl _)
theorem Inv.Ca {X:Cx} {pins:List (Addr×Obj)} {σ:St} {H:Hp} {s:Shared} {h':Heap} {t':Nat} {ch:List Addr} (I:Inv X pins σ H s) (k:∀b o,b∉ch->s.heap.get? b=some o->h'.get? b=some o) (hf:∀b∈ch,fv X pins H b) :
  Inv X pins σ H { s with heap:=h',toks:=t' }:=by
 have Gz:∀b u,H b=some u->b∉ch:=λb u e z=>by rw[(hf b z).1] at e;cases e
 refine I.step (g':=s.gens) (d':=s.drawn) (ch:=ch) (λb hb=>?_) (λb o _ _ hc e _=>k b o hc e) (λb o _ _ hc e _=>⟨o.slots,k b o hc e⟩) (λ_ _ _ _ n=>n) (λb o hc e=>⟨o,k b o hc e⟩) (λ_ _ e=>e) (λ_ _ _ e=>e)
  (λb ps e=>⟨#[],by rw[e];simp⟩) (λm hm=>?_) (λb u e=>?_) I.bare
 ·obtain⟨_,f1,_,f3,f4,f5⟩:=hf b hb
  exact⟨f3,f1,f4,f5⟩
 ·obtain⟨o,es,ep,ho,r⟩:=hm
  exact⟨o,es,ep,k _ o (λz=>(hf _ z).2.1 rfl) ho,r⟩
 ·refine(I.aJ b u e).fS (λc v hc q=>k c v ?_ q) (λ_ q=>q) λ_ _ q=>q
  rcases hc with z|z
  ·rw[z];exact Gz b u e
  ·exact Gz c _ z
theorem Inv.Js {X:Cx} {pins:List (Addr×Obj)} {σ:St} {H:Hp} {s:Shared} {h':Heap} {t':Nat} {ch:List Addr} {p:Addr} {u:HO} (I:Inv X pins σ H s) (k:∀b o,b∉ch->s.heap.get? b=some o->h'.get? b=some o) (hf:∀b∈ch,fv X pins H b)
  (hp:s.heap.objs.size<=p) (new:dC X.prog X.w (upd H p u) h' p u):Inv X pins σ (upd H p u) { s with heap:=h',toks:=t' }:=by
 have hn:H p=none:=I.aJ.fresh hp
 have aJ:cb X.prog X.w (upd H p u) h':=(I.Ca (t':=t') k hf).aJ.adopt hn new
 refine I.step (g':=s.gens) (d':=s.drawn) (ch:=ch) (λb hb=>?_) (λb o _ _ hc e _=>k b o hc e) (λb o _ _ hc e _=>⟨o.slots,k b o hc e⟩) (λb o _ e n=>?_) (λb o hc e=>⟨o,k b o hc e⟩) (λc xs e=>by rw[bx (dJ e hn)];exact e) (λc o v e=>by rw[bx (dJ e hn)];exact e)
  (λc ps e=>⟨#[],by rw[bx (dJ e hn),e];simp⟩) (λm hm=>?_) aJ I.bare
 ·obtain⟨_,f1,_,f3,f4,f5⟩:=hf b hb
  exact⟨f3,f1,f4,f5⟩
 ·rw[bx (Nat.ne_of_lt (Nat.lt_of_lt_of_le (Heap.lt_size e) hp))]
  exact n
 ·obtain⟨o,es,ep,ho,r⟩:=hm
  exact⟨o,es,ep,k _ o (λz=>(hf _ z).2.1 rfl) ho,r⟩
noncomputable def yE (K:Frag) (a b:Addr):It :=
 ⟨λi H=>∃xs ys x y,aR K H a xs/\aR K H b ys/\xs[i]?=some x/\ys[i]?=some y,λi H v H'=>∃p x y,H p=none/\v=.ref p/\H'=upd H p (.tup [x,y])/\∀xs ys,aR K H a xs->aR K H b ys->xs[i]?=some x/\ys[i]?=some y,
  λi H=>∃xs ys,aR K H a xs/\aR K H b ys/\(xs.length<=i\/ys.length<=i)⟩
structure O0 (it:Nat->Heap->Prop) (ip:Nat->Heap->Prop) (z ti to j1 j2:Addr) (i:Nat) (h:Heap):Prop where
 z:IsZip h z ti to .none
 ti:IsPair h ti (.ref j1) (.ref j2)
 to:∃u v,IsPair h to u v
 h1:it i h
 h2:ip i h
structure FU (z ti to j1 j2:Addr):Prop where
 a1:ti≠z
 a2:to≠z
 a3:j1≠z
 a4:j2≠z
 a5:ti≠to
 a6:ti≠j1
 a7:ti≠j2
 a8:to≠j1
 a9:to≠j2
 b0:j1≠j2
theorem Jt {P:Program} {w:World} {K:Frag} {elts:List Expr} {kk:Nat} {pos:Pos} (a b z ti to j1 j2:Addr) (F:FU z ti to j1 j2) :
  Turn P w K (.Tuple elts kk pos) (yE K a b) [z,ti,to,j1,j2] z (O0 (λi h=>h.IsTupleIter j1 a i) (λi h=>h.IsTupleIter j2 b i) z ti to j1 j2) where
 mem:=by simp
 obj:=λi h st c hc=>by
  have jK:c=z\/c=ti\/c=to\/c=j1\/c=j2:=by simpa using hc
  rcases jK with rfl|rfl|rfl|rfl|rfl
  ·exact⟨_,st.z,λv q=>nomatch q⟩
  ·exact⟨_,st.ti,λv q=>nomatch q⟩
  ·obtain⟨u,v,q⟩:=st.to;exact⟨_,q,λv q=>nomatch q⟩
  ·obtain⟨o,e,_,d⟩:=st.h1;exact⟨o,e,λv q=>by rw[d] at q;cases q⟩
  ·obtain⟨o,e,_,d⟩:=st.h2;exact⟨o,e,λv q=>by rw[d] at q;cases q⟩
 keep:=λi h h' st k=>⟨k z (by simp) _ st.z,k ti (by simp) _ st.ti,by obtain⟨u,v,q⟩:=st.to;exact⟨u,v,k to (by simp) _ q⟩,st.h1.at λo e=>k j1 (by simp) o e,st.h2.at λo e=>k j2 (by simp) o e⟩
 item:=by
  intro X hP hw hK hc i pins s σ H E I hf st hg
  subst hP hw hK
  obtain⟨xs,ys,x,y,hx,hy,ex,ey⟩:=hg
  obtain⟨i1,r1,p1,z1⟩:=I.tuple hx
  obtain⟨i2,r2,p2,z2⟩:=I.tuple hy
  obtain⟨u,eu,ru⟩:=r1.get ex
  obtain⟨v,ev,rv⟩:=r2.get ey
  have ne:∀c∈[z,ti,to,j1,j2],a≠c/\b≠c:=λc lL=>⟨tU I hx (hf c lL),tU I hy (hf c lL)⟩
  have D:HZ.Apart z ti to j1 j2 a b:=⟨F.a1,F.a2,F.a3,F.a4,F.a5,F.a6,F.a7,F.a8,F.a9,F.b0,(ne z (by simp)).1,(ne to (by simp)).1,(ne j1 (by simp)).1,(ne j2 (by simp)).1,(ne z (by simp)).2,(ne to (by simp)).2,(ne j1 (by simp)).2,(ne j2 (by simp)).2⟩
  obtain⟨w1,w2,u7⟩:=st.to
  have hh:X.A.in1.handled=none:=I.ok.hd hc
  refine HZ.next_item D (HZ.tm hh j1 a i1.toArray) (HZ.tm hh j2 b i2.toArray) st.z st.ti u7 ⟨st.h1,p1⟩ ⟨st.h2,p2⟩ (by simpa using eu) (by simpa using ev) λh' c1 c2 c3 c4 c5 c6 c7=>⟨_,rfl,?_⟩
  refine wpAny_letOwnedTupleGo_zip c1 λh2 d1 d2=>?_
  have hn:H s.heap.objs.size=none:=I.aJ.fresh (Nat.le_refl _)
  have Q9:z<s.heap.objs.size:=Heap.lt_size st.z
  have oM:IsTup h2 s.heap.objs.size #[u,v]:=⟨_,d2.extBut _ _ (Nat.ne_of_gt Q9) c5,rfl,_,rfl⟩
  have I2:Inv X pins σ (upd H s.heap.objs.size (.tup [x,y])) { s with heap:=h2,toks:=s.toks }:=I.Js (ch:=[z,ti,to,j1,j2]) (λc o zm e=>by
   have q:c≠z/\c≠ti/\c≠to/\c≠j1/\c≠j2:=by simpa using zm
   exact d2.extBut c o q.1 (c7 c o q.1 q.2.2.1 q.2.2.2.1 q.2.2.2.2 e)) hf (Nat.le_refl _) ⟨by show 2<=sizeLine;decide,[u,v],.cons ru (.cons rv .nil),oM⟩
  refine⟨.ref s.heap.objs.size,_,I2,rfl,⟨_,x,y,hn,rfl,rfl,λTw Tx q1 q2=>?_⟩,?_,λc lL=>?_⟩
  ·rw[I.vX q1 hx,I.vX q2 hy];exact⟨ex,ey⟩
  ·refine⟨d1,d2.extBut _ _ F.a1 (c7 _ _ F.a1 F.a5 F.a6 F.a7 st.ti),⟨_,_,d2.extBut _ _ F.a2 c2⟩,c3.1.extBut d2.extBut F.a3,c4.1.extBut d2.extBut F.a4⟩
  ·rw[bx]
   ·exact(hf c lL).1
   ·intro e
    obtain⟨o,eo⟩:∃o,s.heap.get? c=some o:=by
     have jK:c=z\/c=ti\/c=to\/c=j1\/c=j2:=by simpa using lL
     rcases jK with q|q|q|q|q
     ·rw[q];exact⟨_,st.z⟩
     ·rw[q];exact⟨_,st.ti⟩
     ·rw[q];exact⟨_,u7⟩
     ·rw[q];obtain⟨o,e,_⟩:=st.h1;exact⟨o,e⟩
     ·rw[q];obtain⟨o,e,_⟩:=st.h2;exact⟨o,e⟩
    exact absurd (Heap.lt_size eo) (by rw[e];exact Nat.lt_irrefl _)
 done:=by
  intro X hP hw hK hc i pins s σ H E I hf st hg
  subst hP hw hK
  obtain⟨xs,ys,hx,hy,hle⟩:=hg
  obtain⟨i1,r1,p1,z1⟩:=I.tuple hx
  obtain⟨i2,r2,p2,z2⟩:=I.tuple hy
  have ne:∀c∈[z,ti,to,j1,j2],a≠c/\b≠c:=λc lL=>⟨tU I hx (hf c lL),tU I hy (hf c lL)⟩
  have D:HZ.Apart z ti to j1 j2 a b:=⟨F.a1,F.a2,F.a3,F.a4,F.a5,F.a6,F.a7,F.a8,F.a9,F.b0,(ne z (by simp)).1,(ne to (by simp)).1,(ne j1 (by simp)).1,(ne j2 (by simp)).1,(ne z (by simp)).2,(ne to (by simp)).2,(ne j1 (by simp)).2,(ne j2 (by simp)).2⟩
  obtain⟨w1,w2,u7⟩:=st.to
  have hh:X.A.in1.handled=none:=I.ok.hd hc
  have l1:=r1.length
  have l2:=r2.length
  refine HZ.next_end D (HZ.tm hh j1 a i1.toArray) (HZ.tm hh j2 b i2.toArray) st.z st.ti u7 ⟨st.h1,p1⟩ ⟨st.h2,p2⟩ ?_ λh' c7=>⟨rfl,I.Ca (t':=s.toks) (ch:=[z,ti,to,j1,j2]) (λc o zm e=>by
   have q:c≠z/\c≠ti/\c≠to/\c≠j1/\c≠j2:=by simpa using zm
   exact c7 c o q.1 q.2.2.1 q.2.2.2.1 q.2.2.2.2 e) hf⟩
  rcases hle with q|q
  ·left;simp;omega
  ·right;simp;omega
 self:=λA i s Q E st h=>wpAny_pyIter_zip st.z h
end L2
namespace HZ
open PySem PySem.Spec PyProof.Rows
noncomputable abbrev y1 (h:Heap) (m1:Addr):Heap:=h.push { cls:=.type "tuple_iterator",data:=.fields #[.ref m1,.int 0 0] }
noncomputable abbrev y2 (h:Heap) (m1 m2:Addr):Heap:=(y1 h m1).push { cls:=.type "tuple_iterator",data:=.fields #[.ref m2,.int 0 0] }
noncomputable abbrev y3 (h:Heap) (m1 m2:Addr):Heap:=(y2 h m1 m2).push { cls:=.type "tuple",data:=.seq #[.ref h.objs.size,.ref (y1 h m1).objs.size] }
noncomputable abbrev y4 (h:Heap) (m1 m2:Addr):Heap:=(y3 h m1 m2).push { cls:=.type "tuple",data:=.seq #[.none,.none] }
noncomputable abbrev y5 (h:Heap) (m1 m2:Addr):Heap:=(y4 h m1 m2).push { cls:=.type "zip",data:=.fields #[.none,.bool false,.bool false,.ref (y2 h m1 m2).objs.size,.ref (y3 h m1 m2).objs.size] }
theorem IA (m1 m2:Addr) (xs ys:Array Value) :
  Meets (Builtin.«zip.__new__» ⟨[.type "zip",.ref m1,.ref m2],[]⟩) (λ_ R s=>s.heap.IsTuple m1 xs/\s.heap.IsTuple m2 ys/\R (.ok (.ret (.ref (y4 s.heap m1 m2).objs.size))) { s with heap:=y5 s.heap m1 m2 }) :=
 .of_wp λprog w A R s h=>by
  obtain⟨hp,g,d,tk,os⟩:=s;obtain⟨h1,h2,h⟩:=h
  have Tj:=sub_zip
  have L1:Heap.IsTuple (Shared.heap ⟨hp,g,d,tk,os⟩) m1 xs:=h1
  have L2:Heap.IsTuple (Shared.heap ⟨hp.push { cls:=.type "tuple_iterator",data:=.fields #[.ref m1,.int 0 0] },g,d,tk,os⟩) m2 ys:=Heap.IsTuple.push h2 _
  wp_walk using wpAny_pyIter_tuple L1,wpAny_pyIter_tuple L2
  exact⟨_,rfl,h⟩
section
variable {P:Program} {w:World} {A:Around} {E:Value->Shared->Prop} {s:Shared}
theorem Hq {m1 m2:Addr} {xs ys:Array Value} {Q:Value->Shared->Prop} (h1:s.heap.IsTuple m1 xs) (h2:s.heap.IsTuple m2 ys)
  (h:∀h',IsZip h' (s.heap.objs.size+4) (s.heap.objs.size+2) (s.heap.objs.size+3) .none->IsPair h' (s.heap.objs.size+2) (.ref s.heap.objs.size) (.ref (s.heap.objs.size+1)) ->
   IsPair h' (s.heap.objs.size+3) .none .none->h'.IsTupleIter s.heap.objs.size m1 0->h'.IsTupleIter (s.heap.objs.size+1) m2 0->h'.objs.size=s.heap.objs.size+5 ->
   (∀c o,s.heap.get? c=some o->h'.get? c=some o)->Q (.ref (s.heap.objs.size+4)) { s with heap:=h' }):wpAny (model P w) A (call (.type "zip") [.ref m1,.ref m2]) Q E s:=by
 refine callType_new F.called_zip (by decide) (F.typeCall_zip_2 _ _) (F.newCall_zip_2 _ _) (λobj=>F.args_object_init_3 obj _ _) F.entry_zip_new (IA m1 m2 xs ys) ⟨h1,h2,?_⟩
 have e1:(y1 s.heap m1).objs.size=s.heap.objs.size+1:=Heap.size_push ..
 have e2:(y2 s.heap m1 m2).objs.size=s.heap.objs.size+2:=by rw[Heap.size_push,e1]
 have e3:(y3 s.heap m1 m2).objs.size=s.heap.objs.size+3:=by rw[Heap.size_push,e2]
 have e4:(y4 s.heap m1 m2).objs.size=s.heap.objs.size+4:=by rw[Heap.size_push,e3]
 have e5:(y5 s.heap m1 m2).objs.size=s.heap.objs.size+5:=by rw[Heap.size_push,e4]
 have g5:(y5 s.heap m1 m2).get? (y4 s.heap m1 m2).objs.size=some _:=Heap.get?_push_size _ rfl
 have g4:(y5 s.heap m1 m2).get? (y3 s.heap m1 m2).objs.size=some _:=Heap.get?_push_of_some _ (Heap.get?_push_size _ rfl)
 have g3:(y5 s.heap m1 m2).get? (y2 s.heap m1 m2).objs.size=some _:=Heap.get?_push_of_some _ (Heap.get?_push_of_some _ (Heap.get?_push_size _ rfl))
 have g2:(y5 s.heap m1 m2).get? (y1 s.heap m1).objs.size=some _:=Heap.get?_push_of_some _ (Heap.get?_push_of_some _ (Heap.get?_push_of_some _ (Heap.get?_push_size _ rfl)))
 have g1:(y5 s.heap m1 m2).get? s.heap.objs.size=some _:=Heap.get?_push_of_some _ (Heap.get?_push_of_some _ (Heap.get?_push_of_some _ (Heap.get?_push_of_some _ (Heap.get?_push_size _ rfl))))
 show _/\_
 rw[e2,e3,e4] at g5
 rw[e1,e2] at g3
 rw[e3] at g4
 rw[e1] at g2
 rw[e4]
 exact⟨⟨_,g5,rfl⟩,h _ g5 g3 g4 ⟨_,g1,rfl,rfl⟩ ⟨_,g2,rfl,rfl⟩ e5 λc o q=>Heap.get?_push_of_some _ (Heap.get?_push_of_some _ (Heap.get?_push_of_some _ (Heap.get?_push_of_some _ (Heap.get?_push_of_some _ q))))⟩
end
end HZ
namespace L2
open PySem PySem.Spec PyProof.Rows
theorem Kz (n:Nat):FU (n+4) (n+2) (n+3) n (n+1):=by constructor<;>(show (_:Nat)≠_)<;>omega
section
variable {X:Cx} {elts:List Expr} {kk:Nat} {tp:Pos}
noncomputable def O1 (K:Frag) (ta:TA):TI:=fun σ H R=>ta σ H λvs H1=>∃a b xs ys,vs=[.ref a,.ref b]/\aR K H1 a xs/\aR K H1 b ys/\R (yE K a b) H1
theorem Ju:bootBuiltins "zip"=some (.type "zip"):=by decide +kernel
theorem NI {pins:List (Addr×Obj)} {σ:St} {H:Hp} {s:Shared} (I:Inv X pins σ H s):∀b∈[s.heap.objs.size+4,s.heap.objs.size+2,s.heap.objs.size+3,s.heap.objs.size,s.heap.objs.size+1],fv X pins H b:=λb hb=>by
 have eV:s.heap.objs.size<=b:=by
  have q:b=s.heap.objs.size+4\/b=s.heap.objs.size+2\/b=s.heap.objs.size+3\/b=s.heap.objs.size\/b=s.heap.objs.size+1:=by simpa using hb
  omega
 exact I.oJ eV (I.aJ.fresh eV)
theorem L7 {a b:Expr} {ta:TA} {p pos:Pos} (hg:Gl X "zip") (hm:X.mg "zip"=none) (ha:PA X [a,b] ta) (hs:starEach [a,b] X.env=[(false,eval a X.env),(false,eval b X.env)]:=by rfl) (dF:starEach [b] X.env=[(false,eval b X.env)]:=by rfl) :
  PI X (.Tuple elts kk tp) (.Call (.Name "zip" p) [a,b] [] pos) (O1 X.K ta):=by
 intro pins s σ H R I h
 refine Call_ (kY I hg hm Ju (PyProof.Rows.callWith_type1 (aK (ha pos pins s σ H _ I h) λus s1 ⟨vs,H1,I1,r1,q1⟩=>?_) (by rw[hs,dF]) (by rw[dF];rfl)))
 obtain⟨a,b,xs,ys,e,hx,hy,q⟩:=q1
 subst e
 obtain⟨u,v,rfl,ru,rv⟩:=vals2 r1
 cases ru
 cases rv
 obtain⟨i1,_,p1,_⟩:=I1.tuple hx
 obtain⟨i2,_,p2,_⟩:=I1.tuple hy
 refine HZ.Hq (xs:=i1.toArray) (ys:=i2.toArray) p1 p2 λh' c1 c2 c3 c4 c5 c6 c7=>?_
 refine wpAny_pyIter_zip (s:={ s1 with heap:=h' }) c1 ?_
 exact⟨_,[s1.heap.objs.size+4,s1.heap.objs.size+2,s1.heap.objs.size+3,s1.heap.objs.size,s1.heap.objs.size+1],_,_,H1,rfl,I1.kept (t':=s1.toks) c7,Jt a b _ _ _ _ _ (Kz _),⟨c1,c2,⟨_,_,c3⟩,c4,c5⟩,NI I1,q⟩
end
end L2
namespace PySem
section
variable {P:Program} {w:World} {A:Around} {E:Value->Shared->Prop} {s:Shared}
end
end PySem
namespace L2
open PySem PySem.Spec PyProof.Rows
theorem map_getD (ns:List Int):(List.range ns.length).map (λi=>ns.getD i 0)=ns:=by
 apply List.ext_getElem?
 intro i
 rw[List.getElem?_map]
 by_cases h:i<ns.length
 ·rw[List.getElem?_range h,List.getElem?_eq_getElem h]
  simp[List.getD,List.getElem?_eq_getElem h]
 ·rw[List.getElem?_eq_none (by simpa using h),List.getElem?_eq_none (by omega)]
  rfl
section
variable {X:Cx}
end
end L2
namespace L2
open PySem PySem.Spec PyProof.Rows
section
variable {κ:Type} [DecidableEq κ]
end
section
variable {P:Program} {w:World} {H:Hp} {h:Heap} {a:Addr}
end
section
variable {X:Cx} {pins:List (Addr×Obj)} {σ:St} {H:Hp} {s:Shared} {a:Addr} {y v:V} {u r:Value} {o:Option V} {A:Around} {E:Value->Shared->Prop}
theorem Inv.big (I:Inv X pins σ H s):sysModules<s.heap.objs.size:=by
 have h:mainGlobals<s.heap.objs.size:=(I.mod.glob.keeps I.bk).lt
 exact Nat.lt_trans (by decide) h
theorem L8 {h':Heap} {t':Nat} {ob:HO} (I:Inv X pins σ H s) (mu:qR (H a)) (hs:Heap.SameBut a s.heap h') (he:∃q,h'.get? a=some q) (new:dC X.prog X.w (upd H a ob) h' a ob) :
  Inv X pins σ (upd H a ob) { s with heap:=h',toks:=t' } :=
 I.write (x:=a) (e:=a) mu (.inl rfl) (λb q hb z=>(hs.2 b hb).trans z) he new
end
section
variable {X:Cx} {pins:List (Addr×Obj)} {σ:St} {H:Hp} {s:Shared} {a:Addr} {ao:List (Key×V)} {k:Key} {u:Value} {A:Around} {E:Value->Shared->Prop}
end
section
variable {X:Cx} {o i e value:Expr} {pos pos' yy:Pos} {td ty tv:TE}
end
section
variable {X:Cx} {pos:Pos}
end
structure M1 (X:Cx) (o:Expr) (m:Str) (apos:Pos) (e:Expr) (dh:Pos):Prop where
 base:attributeBase o m X.env (eval o X.env)=eval o X.env
 lM:((backTo dh (starEach [e] X.env)).all (λx=>!x.1)&&(backToKw dh (keywordEach [] X.env)).all (λx=>x.1.isSome)
  && decide (([e]:List Expr).length+([]:List Keyword).length+(if ([]:List Keyword).isEmpty then 0 else 1)<30))=true
 line:(apos.endLine==dh.line)=true
 trees:backTo dh (starEach [e] X.env)=[(false,eval e X.env)]
structure M2 (X:Cx) (o:Expr) (m:Str) (apos:Pos) (e f:Expr) (dh:Pos):Prop where
 base:attributeBase o m X.env (eval o X.env)=eval o X.env
 lM:((backTo dh (starEach [e,f] X.env)).all (λx=>!x.1)&&(backToKw dh (keywordEach [] X.env)).all (λx=>x.1.isSome)
  && decide (([e,f]:List Expr).length+([]:List Keyword).length+(if ([]:List Keyword).isEmpty then 0 else 1)<30))=true
 line:(apos.endLine==dh.line)=true
 trees:backTo dh (starEach [e,f] X.env)=[(false,eval e X.env),(false,eval f X.env)]
section
variable {X:Cx} {pins:List (Addr×Obj)} {σ:St} {H:Hp} {s:Shared} {a:Addr} {y d:V} {u r:Value} {o:Option V} {A:Around} {E:Value->Shared->Prop}
end
section
variable {X:Cx} {o e f:Expr} {apos dh:Pos} {td ty tx:TE}
end
section
variable {X:Cx} {pins:List (Addr×Obj)} {σ:St} {H:Hp} {s:Shared} {a:Addr} {ao:List (Key×V)} {A:Around} {E:Value->Shared->Prop}
end
section
variable {X:Cx} {pins:List (Addr×Obj)} {σ:St} {H:Hp} {s:Shared} {a:Addr} {y:V} {u:Value} {A:Around} {E:Value->Shared->Prop}
end
end L2
namespace L2
open PySem PySem.Spec PyProof.Rows
section
variable {K:Frag} {caps:St} {H:Hp} {tf:TT} {te:TE} {Q:VK}
end
noncomputable def Em (sc:Scope) (on:List (Str×NameKind)) (oN N:List Str) (nt:Nat) (cap:List Nat):Bool :=
 decide (sc.kind=.function)&&sc.names.all (λx=>decide (x.2≠.cell))&&sc.names.all (λx=>decide (x.2=.local->sc.names.lookup x.1=some .local)) &&
 sc.names.all (λx=>decide (x.2=.free->sc.names.lookup x.1=some .free/\(on.lookup x.1=some .cell\/on.lookup x.1=some .free)))&&decide (N.length=nt+cap.length) &&
 (List.range cap.length).all (λk=>match cap[k]? with
  |some j=>match oN[j]? with
   |some x=>decide (N[nt+k]?=some x)&&decide ((x,NameKind.free)∈sc.names)
   |none=>false
  |none=>true)
theorem E8 {X:Cx} {sc:Scope} {N:List Str} {nt:Nat} {cap:List Nat} (h:Em sc X.env.scope.names X.N N nt cap=true):p9 X sc N nt cap:=by
 unfold Em at h
 simp only[Bool.and_eq_true,List.all_eq_true,decide_eq_true_eq] at h
 obtain⟨⟨⟨⟨⟨h1,h2⟩,h3⟩,h4⟩,h5⟩,h6⟩:=h
 refine⟨h1,h2,h3,λx hx e=>h4 x hx e,h5,λk j e=>?_⟩
 have hk:k<cap.length:=(List.getElem?_eq_some_iff.mp e).1
 have:=h6 k (List.mem_range.mpr hk)
 rw[e] at this
 dsimp only at this
 cases ex:X.N[j]? with
 |none=>rw[ex] at this;cases this
 |some x =>
  rw[ex] at this
  simp only[Bool.and_eq_true,decide_eq_true_eq] at this
  exact⟨x,rfl,this.1,this.2⟩
end L2
namespace TS
open PySem
abbrev i7 (l:List Nat):Prop:=l.Pairwise (· < ·)
theorem KC (xs:Array Nat) (k d:Nat):xs.getD k d=xs.toList.getD k d:=by
 cases xs with
 |mk l =>
  by_cases h:k<l.length
  ·simp[Array.getD,List.getD,h]
  ·simp[Array.getD,List.getD,h]
theorem tu {l:List Nat} (h:i7 l) {a b:Nat} (rB:a<b) (hb:b<l.length):l.getD a 0<l.getD b 0:=by
 have:=List.pairwise_iff_getElem.mp h a b (by omega) hb rB
 simpa [List.getD,List.getElem?_eq_getElem hb,List.getElem?_eq_getElem (show a<l.length by omega)] using this
theorem KD (l:List Nat) {k:Nat} (hk:k<l.length) (d e:Nat):l.getD k d=l.getD k e:=by
 simp[List.getD,List.getElem?_eq_getElem hk]
theorem wZ (xs:Array Nat) (j:Nat) (hr:i7 xs.toList):∀(fuel lo hi:Nat),hi-lo<=fuel->lo<=hi->hi<=xs.toList.length->(∀k,k<lo->xs.toList.getD k 0<j)->(∀k,hi<=k->k<xs.toList.length->j<=xs.toList.getD k 0) ->
  SetTable.below.go xs j fuel lo hi<=xs.toList.length/\(∀k,k<SetTable.below.go xs j fuel lo hi->xs.toList.getD k 0<j)/\(∀k,SetTable.below.go xs j fuel lo hi<=k->k<xs.toList.length->j<=xs.toList.getD k 0)
 |0,lo,hi,hf,hl,hh,h1,h2=>by
  have e:lo=hi:=by omega
  subst e
  exact⟨hh,h1,h2⟩
 |fuel+1,lo,hi,hf,hl,hh,h1,h2=>by
  unfold SetTable.below.go
  by_cases bh:lo<hi
  ·rw[if_pos bh]
   dsimp only
   have hm:(lo+hi) / 2<xs.toList.length:=by omega
   rw[KC,KD _ hm j 0]
   by_cases hc:xs.toList.getD ((lo+hi) / 2) 0<j
   ·rw[if_pos hc]
    refine wZ xs j hr fuel _ _ (by omega) (by omega) hh (λk hk=>?_) h2
    by_cases lO:k=(lo+hi) / 2
    ·rw[lO];exact hc
    ·exact Nat.lt_trans (tu hr (by omega) hm) hc
   ·rw[if_neg hc]
    refine wZ xs j hr fuel _ _ (by omega) (by omega) (by omega) h1 (λk hk lO=>?_)
    by_cases lP:k=(lo+hi) / 2
    ·rw[lP];omega
    ·have:=tu hr (show (lo+hi) / 2<k by omega) lO
     omega
  ·rw[if_neg bh]
   have e:lo=hi:=by omega
   subst e
   exact⟨hh,h1,h2⟩
theorem BF (xs:Array Nat) (j:Nat) (hr:i7 xs.toList):SetTable.below xs j<=xs.toList.length/\(∀k,k<SetTable.below xs j->xs.toList.getD k 0<j)/\(∀k,SetTable.below xs j<=k->k<xs.toList.length->j<=xs.toList.getD k 0):=by
 unfold SetTable.below
 exact wZ xs j hr xs.size 0 xs.size (by omega) (Nat.zero_le _) (by simp) (λk hk=>by omega) (λk hk lO=>by simp at lO;omega)
theorem HX {l:List Nat} {p j:Nat} (h:∀k,k<p->l.getD k 0<j):∀x∈l.take p,x<j:=by
 intro x hx
 obtain⟨k,hk,e⟩:=List.getElem_of_mem hx
 have rD:k<p/\k<l.length:=by rw[List.length_take] at hk;omega
 have:=h k rD.1
 rw[List.getElem_take] at e
 rw[<- e]
 simpa [List.getD,List.getElem?_eq_getElem rD.2] using this
theorem HY {l:List Nat} {p j:Nat} (h:∀k,p<=k->k<l.length->j<=l.getD k 0):∀x∈l.drop p,j<=x:=by
 intro x hx
 obtain⟨k,hk,e⟩:=List.getElem_of_mem hx
 have rD:p+k<l.length:=by rw[List.length_drop] at hk;omega
 have:=h (p+k) (by omega) rD
 rw[List.getElem_drop] at e
 rw[<- e]
 simpa [List.getD,List.getElem?_eq_getElem rD] using this
theorem KG {xs:Array Nat} {j:Nat} (hr:i7 xs.toList) (hn:xs[SetTable.below xs j]?≠some j):i7 (SetTable.insertAt xs (SetTable.below xs j) j).toList:=by
 obtain⟨h0,h1,h2⟩:=BF xs j hr
 rw[SetTable.toList_insertAt]
 have a1:=HX h1
 have a2:∀x∈xs.toList.drop (SetTable.below xs j),j<x:=by
  intro x hx
  have u9:=HY h2
  have hd:i7 (xs.toList.drop (SetTable.below xs j)):=List.Pairwise.sublist (List.drop_sublist _ _) hr
  cases hc:xs.toList.drop (SetTable.below xs j) with
  |nil=>rw[hc] at hx;cases hx
  |cons y r =>
   rw[hc] at hd hx u9
   have hy:j≠y:=by
    intro e
    apply hn
    have:(xs.toList.drop (SetTable.below xs j))[0]?=some y:=by rw[hc];rfl
    rw[List.getElem?_drop] at this
    have e2:xs.toList[SetTable.below xs j]?=some y:=by simpa using this
    rw[<- Array.getElem?_toList,e2,e]
   have GA:j<y:=Nat.lt_of_le_of_ne (u9 y List.mem_cons_self) hy
   rcases List.mem_cons.mp hx with e|hx
   ·rw[e];exact GA
   ·exact Nat.lt_trans GA ((List.pairwise_cons.mp hd).1 x hx)
 first
  |(refine List.pairwise_append.mpr ⟨List.Pairwise.sublist (List.take_sublist _ _) hr,List.pairwise_cons.mpr ⟨a2,List.Pairwise.sublist (List.drop_sublist _ _) hr⟩,λx hx y hy=>?_⟩
    rcases List.mem_cons.mp hy with e|hy
    ·rw[e];exact a1 x hx
    ·exact Nat.lt_trans (a1 x hx) (a2 y hy))
  |trace_state
theorem w6 (t:SetTable) (h:Int):∀(fuel:Nat) (p:SetTable.Probe) (j:Nat) (dm:Option Nat),(∀d,p.dummy=some d->t.slot d=.dummy)->SetTable.probe.go t (λ_=>h+1) h fuel p=some (.empty j dm)->t.slot j=.empty/\∀d,dm=some d->t.slot d=.dummy
 |0,p,j,dm,hp,e=>by simp[SetTable.probe.go] at e
 |fuel+1,p,j,dm,hp,e=>by
  unfold SetTable.probe.go at e
  cases hs:t.slot p.j with
  |empty =>
   rw[hs] at e
   simp at e
   rw[<- e.1,<- e.2]
   exact⟨hs,hp⟩
  |dummy =>
   rw[hs] at e
   refine w6 t h fuel _ j dm (λd hd=>?_) e
   unfold SetTable.advance at hd
   split at hd
   ·simp at hd;rw[<- hd];exact hs
   ·simp at hd;rw[<- hd];exact hs
  |live i =>
   rw[hs] at e
   have gr:(h+1==h)=false:=by simp;omega
   simp only[gr,Bool.false_eq_true,if_false] at e
   refine w6 t h fuel _ j dm (λd hd=>?_) e
   unfold SetTable.advance at hd
   split at hd
   ·exact hp d hd
   ·exact hp d hd
theorem Cb {t:SetTable} {j:Nat} (h:t.slot j=.empty\/t.slot j=.dummy):t.place[SetTable.below t.place j]?≠some j:=by
 intro e
 have:t.slot j=.live (SetTable.below t.place j):=by
  unfold SetTable.slot
  simp[e]
 rw[this] at h
 rcases h with h|h<;>cases h
theorem Jv {t:SetTable} {h:Int} {j:Nat} {b:Bool} (e:t.freeSlot h=some (j,b)):t.place[SetTable.below t.place j]?≠some j:=by
 unfold SetTable.freeSlot SetTable.probe at e
 split at e
 ·rename_i j' dm hg
  have k:=w6 t h _ _ j' dm (λd hd=>by simp[SetTable.probeStart] at hd) hg
  simp at e
  rw[<- e.1]
  cases dm with
  |none=>exact Cb (.inl k.1)
  |some d=>exact Cb (.inr (k.2 d rfl))
 ·cases e
structure gC (led:Bool) (t:SetTable):Prop where
 led:t.led=led
 rise:t.plain=true->i7 t.place.toList
theorem sr {led:Bool} {t:SetTable} (h:gC led t) (n:Nat):gC led (t.standIn n):=⟨h.led,λz=>by simp[SetTable.standIn] at z⟩
theorem IC {led:Bool} {t:SetTable} (h:gC led t) (es:Array (Int×Value)) (hs:Int) (x:Value):gC led (layNew t es hs x).2.1:=by
 unfold layNew
 split
 ·rename_i slot wd e
  dsimp only
  unfold SetTable.orStandIn
  have hp:gC led (t.put slot).1:=⟨h.led,λz=>KG (h.rise z) (Jv e)⟩
  split
  ·exact hp
  ·exact sr hp _
 ·exact sr h _
theorem KH {mask finger moves:Nat} {led plain:Bool} {hs:Array Int} {t:SetTable} {o:Array Nat} (e:SetTable.laid mask finger moves led plain hs=some (t,o)):gC led t/\t.plain=plain:=by
 unfold SetTable.laid at e
 cases hl:SetTable.layClean mask hs with
 |none=>rw[hl] at e;simp at e
 |some owner =>
  rw[hl] at e
  simp at e
  obtain⟨e1,e2⟩:=e
  subst e1
  refine⟨⟨rfl,λ_=>?_⟩,rfl⟩
  show i7 (List.toArray _).toList
  simp only[List.map_filterMap]
  refine List.pairwise_filterMap.mpr ?_
  refine List.Pairwise.imp (R:=(· < ·)) ?_ (List.pairwise_lt_range)
  intro a b rB x hx y hy
  cases ha:(owner[a]?.getD none) with
  |none=>rw[ha] at hx;simp at hx
  |some q =>
   cases hb:(owner[b]?.getD none) with
   |none=>rw[hb] at hy;simp at hy
   |some r =>
    rw[ha] at hx;rw[hb] at hy
    simp at hx hy
    omega
theorem Jw {led:Bool} {t:SetTable} (h:gC led t) (es:Array (Int×Value)) (n:Nat):gC led (relayAll t es n).2.1:=by
 unfold relayAll
 split
 ·rename_i t' o e
  dsimp only
  split
  ·unfold SetTable.relaid at e
   have k:=KH e
   exact⟨k.1.led.trans h.led,k.1.rise⟩
  ·exact sr h _
 ·exact sr h _
theorem Jx (led:Bool):gC led (.fresh 0 0 led):=⟨rfl,λ_=>List.Pairwise.nil⟩
end TS
namespace TS
open PySem PySem.Spec PyProof.Rows
section
variable {P:Program} {w:World} {A:Around} {E:Value->Shared->Prop} {s:Shared} {led:Bool}
def fx (P:Program) (w:World) (led:Bool) (h:Heap) (a:Addr) (S:Int->Bool) (n:Nat):Prop :=
 ∃o es ep t,h.get? a=some o/\o.ExactSet/\o.data=.set es ep t/\ElemsOf (intKind P w) es.toList/\(∀k,S k=true↔∃e∈es.toList,(intKind P w).is k e.2=true)/\es.size<scanBound/\t.fits es.size=true/\es.size=n/\gC led t
theorem fx.at {h h':Heap} {a:Addr} {S:Int->Bool} {n:Nat} (x:fx P w led h a S n) (k:∀o,h.get? a=some o->h'.get? a=some o):fx P w led h' a S n:=by
 obtain⟨o,es,ep,t,ho,r⟩:=x
 exact⟨o,es,ep,t,k o ho,r⟩
theorem fx.congr {h:Heap} {a:Addr} {S S':Int->Bool} {n n':Nat} (x:fx P w led h a S n) (e:∀k,S k=S' k) (en:n=n'):fx P w led h a S' n':=by
 obtain rfl:S=S':=funext e
 subst en;exact x
theorem w9 {a:Addr} {u:Obj} {es fH:Array (Int×Value)} {ep:Nat} {t t':SetTable} {h:Heap} (hu:h.get? a=some u) (hx:u.ExactSet) (hd:u.data=.set es ep t) {S:Int->Bool}
  (c1:ElemsOf (intKind P w) fH.toList) (c2:∀k,S k=true↔∃e∈fH.toList,(intKind P w).is k e.2=true) (c3:fH.size<scanBound) (c4:t'.fits fH.size=true) (c5:gC led t') :
  (h.update a (Obj.putSet fH t')).get? a=some { u with data:=.set fH (ep+1) t' }/\fx P w led (h.update a (Obj.putSet fH t')) a S fH.size:=by
 have g:=(SetOf_store (knd:=intKind P w) hu hx hd c1 c2 c3 c4).1
 exact⟨g,_,fH,ep+1,t',g,hx,rfl,c1,c2,c3,c4,rfl,c5⟩
theorem L9 {a:Addr} {S:Int->Bool} {n:Nat} {k:Int} {tk:Tok} {Q:Bool->Shared->Prop} (hS:fx P w led s.heap a S n) (O2:n+1<scanBound)
  (h:∀h',Heap.SameBut a s.heap h'->fx P w led h' a (λj=>S j||decide (j=k)) (if S k then n else n+1)->Q (!S k) { s with heap:=h' }) :
  wpAny (model P w) A (setAddHashed a (.int k tk) ((intKind P w).hash k)) Q E s:=by
 obtain⟨u,es,ep,t,hu,hx,hd,c1,c2,c3,c4,hn,c5⟩:=hS
 have ky:(intKind P w).is k (.int k tk)=true:=intKind_is _ _ _ _
 have sc:(Value.int k tk).scannable=true:=rfl
 have zo:es.size+1<scanBound:=by rw[hn];exact O2
 unfold setAddHashed setAddHashedIn
 refine wpAny_holding ?_
 refine wpAny_bind (wpAny_setState_of hu hd c4 ?_)
 dsimp only
 rw[byScan_of sc c3 c1,if_pos rfl]
 unfold setAddByScan
 refine wpAny_bind (wpAny_bind (wpAny_rule ?_))
 refine wpAny_bind (wpAny_setScan_of ky hu hd c4 c1 ?_)
 cases GB:es.toList.findIdx? (λe=>(intKind P w).is k e.2) with
 |some j =>
  dsimp only
  obtain⟨hj,pj,_⟩:=List.findIdx?_eq_some_iff_getElem.mp GB
  have Sk:S k=true:=(c2 k).mpr ⟨es.toList[j],List.getElem_mem hj,pj⟩
  have q:=h s.heap (Heap.SameBut.refl a s.heap) ⟨u,es,ep,t,hu,hx,hd,c1,λj'=>by
   rw[Bool.or_eq_true,decide_eq_true_eq,<- c2 j']
   exact⟨λz=>z.elim id λe=>by rw[e];exact Sk,Or.inl⟩,c3,c4,by rw[Sk];exact hn,c5⟩
  rw[Sk] at q
  exact wpAny_pure (wpAny_pure q)
 |none =>
  dsimp only
  have Sk:S k=false:=by
   rw[<- Bool.not_eq_true,c2 k]
   rintro ⟨e,he,pe⟩
   have z:=List.findIdx?_eq_none_iff.mp GB e he
   rw[pe] at z;cases z
  have way:∀(b:Bool) {s1:Shared} {Q1:Unit->Shared->Prop},Q1 () s1->wpAny (model P w) A (match b with|true=>rule "set.scan.the-table-gave-way"|false=>pure ()) Q1 E s1 :=
   λb s1 Q1 q=>by cases b<;>first|exact wpAny_pure q|exact wpAny_rule q
  have pm:=layNew_perm t es ((intKind P w).hash k) (.int k tk)
  have ft:=layNew_fits t es ((intKind P w).hash k) (.int k tk)
  have tb:=IC c5 es ((intKind P w).hash k) (.int k tk)
  generalize layNew t es ((intKind P w).hash k) (.int k tk)=L at pm ft tb |-
  obtain⟨ff,t1,Te,Tn⟩:=L
  dsimp only at pm ft tb |-
  rw[Array.toList_push] at pm
  have d1:ElemsOf (intKind P w) ff.toList:=(c1.push ky sc).perm pm
  have d2:∀j,(S j||decide (j=k))=true↔∃e∈ff.toList,(intKind P w).is j e.2=true:=mem_push_iff ky c2 pm
  have z1:ff.size=n+1:=by
   have l:=pm.length_eq
   rw[List.length_append,Array.length_toList,Array.length_toList,hn] at l
   exact l
  have d3:ff.size<scanBound:=by omega
  refine wpAny_bind (way _ ?_)
  obtain⟨g1,T1⟩:=w9 (S:=λj=>S j||decide (j=k)) hu hx hd d1 d2 d3 ft tb
  have va:=Heap.SameBut.update s.heap a (Obj.putSet ff t1)
  have fin:∀h',Heap.SameBut a s.heap h'->fx P w led h' a (λj=>S j||decide (j=k)) ff.size->Q true { s with heap:=h' }:=λh' sb T=>by
   have q:=h h' sb
   rw[Sk] at q
   rw[z1] at T
   exact q T
  have iN:=relayAll_perm t1 ff (SetTable.grown ff.size)
  have ji:=relayAll_fits t1 ff (SetTable.grown ff.size)
  have o9:=Jw tb ff (SetTable.grown ff.size)
  have hv:hashByValue 8 (Value.int k tk)=pure true:=rfl
  split
  ·refine wpAny_bind ?_
   rw[hv]
   refine wpAny_pure ?_
   simp only[if_true]
   refine wpAny_bind (wpAny_storeSet_of hu hd ?_ (fits_of_scanBound d3))
   split
   ·generalize relayAll t1 ff (SetTable.grown ff.size)=L2 at iN ji o9 |-
    obtain⟨rE,t2,O3⟩:=L2
    dsimp only at iN ji o9 |-
    have z2:rE.size=ff.size:=by
     have l:=iN.length_eq
     rwa [Array.length_toList,Array.length_toList] at l
    have f2:∀j,(S j||decide (j=k))=true↔∃e∈rE.toList,(intKind P w).is j e.2=true:=λj=>(d2 j).trans ⟨λ⟨e,he,q⟩=>⟨e,iN.mem_iff.mpr he,q⟩,λ⟨e,he,q⟩=>⟨e,iN.mem_iff.mp he,q⟩⟩
    refine wpAny_bind (way _ ?_)
    refine wpAny_bind (wpAny_storeSet_of g1 rfl ?_ (fits_of_scanBound (by rw[z2];exact d3)))
    obtain⟨g2,T2⟩:=w9 (S:=λj=>S j||decide (j=k)) (led:=led) g1 hx rfl (d1.perm iN) f2 (by rw[z2];exact d3) ji o9
    rw[z2] at T2
    exact wpAny_pure (wpAny_pure (fin _ (va.trans (Heap.SameBut.update _ a _)) T2))
   ·exact wpAny_pure (wpAny_pure (fin _ va T1))
  ·refine wpAny_bind (wpAny_pure ?_)
   simp only[if_true]
   refine wpAny_bind (wpAny_storeSet_of hu hd ?_ (fits_of_scanBound d3))
   split
   ·generalize relayAll t1 ff (SetTable.grown ff.size)=L2 at iN ji o9 |-
    obtain⟨rE,t2,O3⟩:=L2
    dsimp only at iN ji o9 |-
    have z2:rE.size=ff.size:=by
     have l:=iN.length_eq
     rwa [Array.length_toList,Array.length_toList] at l
    have f2:∀j,(S j||decide (j=k))=true↔∃e∈rE.toList,(intKind P w).is j e.2=true:=λj=>(d2 j).trans ⟨λ⟨e,he,q⟩=>⟨e,iN.mem_iff.mpr he,q⟩,λ⟨e,he,q⟩=>⟨e,iN.mem_iff.mp he,q⟩⟩
    refine wpAny_bind (way _ ?_)
    refine wpAny_bind (wpAny_storeSet_of g1 rfl ?_ (fits_of_scanBound (by rw[z2];exact d3)))
    obtain⟨g2,T2⟩:=w9 (S:=λj=>S j||decide (j=k)) (led:=led) g1 hx rfl (d1.perm iN) f2 (by rw[z2];exact d3) ji o9
    rw[z2] at T2
    exact wpAny_pure (wpAny_pure (fin _ (va.trans (Heap.SameBut.update _ a _)) T2))
   ·exact wpAny_pure (wpAny_pure (fin _ va T1))
end
end TS
namespace TS
open PySem PySem.Spec PyProof.Rows
theorem Hi:entryFor table "set.__iter__"=some Builtin.«frozenset.__iter__»:=entryFor_alias (id':="frozenset.__iter__") (by kernel_rfl) rfl (by decide +kernel) (by kernel_rfl)
theorem iR:Slot "set_iterator" "__next__" "set_iterator.__next__" :=
 .of (owner:="set_iterator") (n:="__next__") (by rw[typeLookup_type,builtinLookup_eq_fast];kernel_rfl) (by decide +kernel) (by decide +kernel) (by decide +kernel)
  (by first|exact .inl (by decide +kernel)|exact .inr (by decide +kernel)) (by rw[isSubtype_type];kernel_rfl)
theorem sf:entryFor table "set_iterator.__next__"=some Builtin.«set_iterator.__next__»:=entryFor_of_tree (by kernel_rfl)
theorem sk (a:Value):argsOk "set_iterator.__next__" ⟨[a],[]⟩:=by unfold argsOk;kernel_rfl
theorem A3:Slot "set_iterator" "__iter__" "set_iterator.__iter__" :=
 .of (owner:="set_iterator") (n:="__iter__") (by rw[typeLookup_type,builtinLookup_eq_fast];kernel_rfl) (by decide +kernel) (by decide +kernel) (by decide +kernel)
  (by first|exact .inl (by decide +kernel)|exact .inr (by decide +kernel)) (by rw[isSubtype_type];kernel_rfl)
def hV (h:Heap) (I a:Addr) (first:Value) (i n ep:Nat):Prop:=∃o,h.get? I=some o/\o.cls=.type "set_iterator"/\o.data=.fields #[first,.int i 0,.ref a,.int n 0,.int ep 0]
section
variable {P:Program} {w:World} {A:Around} {E:Value->Shared->Prop} {s:Shared}
theorem Dt {I a:Addr} {slot i n ep nx:Nat} {u:Obj} {es:Array (Int×Value)} {t:SetTable} {x:Value} {Q:Option Value->Shared->Prop} (hit:hV s.heap I a (.int slot 0) i n ep)
  (hu:s.heap.get? a=some u) (hd:u.data=.set es ep t) (hf:t.fits es.size=true) (hn:es.size=n)
  (hs:∀(A':Around) (Q':Option (Value×Nat)->Shared->Prop) (E':Value->Shared->Prop),Q' (some (x,nx)) s->wpAny (model P w) A' (setNext a slot i ep) Q' E' s)
  (hQ:∀h',hV h' I a (.int nx 0) (i+1) n ep->Heap.SameBut I s.heap h'->Q (some x) { s with heap:=h' }):wpAny (model P w) A (pyNext (.ref I)) Q E s:=by
 obtain⟨o,ho,hc,dH⟩:=id hit
 have hT:s.TypeIs (.ref I) "set_iterator":=⟨o,ho,hc⟩
 unfold pyNext
 refine wpAny_bind (wpAny_attempt (wpAny_callSpecial?_slot (name:=Str.ofString "__next__") hT iR
  (wpAny_call_entry iR hT sf ?_ (sk _))))
 unfold Builtin.«set_iterator.__next__» slotArgs
 simp only[List.isEmpty_nil,Bool.not_true,Bool.false_eq_true,↓reduceIte,bind_assoc,List.length_nil,bne_self_eq_false]
 refine wpAny_bind (wpAny_pure ?_)
 refine wpAny_bind (wpAny_fieldsOf ho dH ?_)
 dsimp only
 refine wpAny_bind (wpAny_setEntries_of hu hd hf ?_)
 rw[hn]
 simp only[bne_self_eq_false,Bool.false_eq_true,↓reduceIte,Int.toNat_natCast]
 refine wpAny_bind (hs _ _ _ ?_)
 dsimp only
 refine wpAny_bind (wpAny_setField ho dH (by simp) ?_)
 refine wpAny_bind (wpAny_setField (Heap.get?_update_self _ ho (Obj.isFreed_of_fields (Obj.data_mapFields dH _))) (Obj.data_mapFields dH _) (by simp) ?_)
 refine wpAny_pure ⟨x,rfl,wpAny_pure (hQ _ ⟨_,Heap.get?_update_self _ (Heap.get?_update_self _ ho (Obj.isFreed_of_fields (Obj.data_mapFields dH _))) (Obj.isFreed_of_fields (Obj.data_mapFields (Obj.data_mapFields dH _) _)),(Obj.cls_mapFields ..).trans ((Obj.cls_mapFields ..).trans hc),?_⟩ ((Heap.SameBut.update ..).trans (Heap.SameBut.update ..)))⟩
 rw[Obj.data_mapFields (Obj.data_mapFields dH _)]
 simp[rawInt]
theorem ID {src:Source} {m:Nat} {Q:Nat->Shared->Prop} (hm:m≠0) (h:Q (w.draws src (s.drawn.get src) % m) { s with drawn:=s.drawn.bump src }):wpAny (model P w) A (choose src m) Q E s:=fun Γ p Tz=>by
 unfold choose
 rw[Sem.wp_choose]
 exact⟨hm,h⟩
theorem Cc {I:Addr} {o:Obj} {vs:Array Value} {Q:Option Value->Shared->Prop} (hh:A.handled=none) (ho:s.heap.get? I=some o) (dH:o.data=.fields vs) (h2:2<vs.size)
  (hQ:∀h',Heap.ExtBut I s.heap h'->Q none { s with heap:=h' }) :
  wpAny (model P w) A.in1 (setField (.ref I) 2 .none >>= λ_=>newExc (.type "StopIteration") [] >>= λe=>(raiseNew e:Sem Fin)) (λfin s'=>∃v,fin=Fin.done (Flow.ret v)/\wpAny (model P w) A (pure (some v)) Q E s')
   (λe s'=>wpAny (model P w) A (isInstance e (Value.type "StopIteration") >>= λb=>if b=true then pure none else throw e) Q E s') s:=by
 refine wpAny_bind (wpAny_setField ho dH h2 ?_)
 refine wpAny_bind ?_
 simp only[newExc,newTuple]
 refine wpAny_bind (wpAny_newObj_type ?_ (by size_fits))
 refine wpAny_bind (m:=firstArgMember _ _) (wpAny_of_eq (a:=Value.none) (by first|rfl | (simp only[firstArgMember];rfl)) ?_)
 refine wpAny_newObj_type ?_ (by size_fits)
 simp only[raiseNew]
 refine wpAny_bind (wpAny_handled ?_)
 first|rw[show A.in1.handled=none from hh]|rw[hh]
 refine wpAny_bind (wpAny_pure (wpAny_throw ?_))
 refine wpAny_bind (wpAny_isInstance (T:="StopIteration") (b:=true) ⟨_,Heap.get?_push_size _ rfl,rfl⟩ isSubtype_stop ?_)
 exact wpAny_pure (hQ _ (((Heap.SameBut.update ..).extBut.push _).push _))
theorem En {I a:Addr} {slot i n ep:Nat} {u:Obj} {es:Array (Int×Value)} {t:SetTable} {Q:Option Value->Shared->Prop} (hh:A.handled=none) (hit:hV s.heap I a (.int slot 0) i n ep)
  (hu:s.heap.get? a=some u) (hd:u.data=.set es ep t) (hf:t.fits es.size=true) (hn:es.size=n)
  (hs:∀(A':Around) (Q':Option (Value×Nat)->Shared->Prop) (E':Value->Shared->Prop),Q' none s->wpAny (model P w) A' (setNext a slot i ep) Q' E' s)
  (hQ:∀h',Heap.ExtBut I s.heap h'->Q none { s with heap:=h' }):wpAny (model P w) A (pyNext (.ref I)) Q E s:=by
 obtain⟨o,ho,hc,dH⟩:=id hit
 have hT:s.TypeIs (.ref I) "set_iterator":=⟨o,ho,hc⟩
 unfold pyNext
 refine wpAny_bind (wpAny_attempt (wpAny_callSpecial?_slot (name:=Str.ofString "__next__") hT iR
  (wpAny_call_entry iR hT sf ?_ (sk _))))
 unfold Builtin.«set_iterator.__next__» slotArgs
 simp only[List.isEmpty_nil,Bool.not_true,Bool.false_eq_true,↓reduceIte,bind_assoc,List.length_nil,bne_self_eq_false]
 refine wpAny_bind (wpAny_pure ?_)
 refine wpAny_bind (wpAny_fieldsOf ho dH ?_)
 dsimp only
 refine wpAny_bind (wpAny_setEntries_of hu hd hf ?_)
 rw[hn]
 simp only[bne_self_eq_false,Bool.false_eq_true,↓reduceIte,Int.toNat_natCast]
 refine wpAny_bind (hs _ _ _ ?_)
 dsimp only
 exact Cc hh ho dH (by simp) hQ
theorem KI {I a tp:Addr} {i n ep pl:Nat} {u:Obj} {es:Array (Int×Value)} {t:SetTable} {x:Int×Value} {places:Array Value} {tk:Tok} {Q:Option Value->Shared->Prop} (hit:hV s.heap I a (.ref tp) i n ep)
  (hu:s.heap.get? a=some u) (hd:u.data=.set es ep t) (hf:t.fits es.size=true) (hn:es.size=n) (zp:s.heap.IsTuple tp places) (cT:places[i]?=some (.int pl tk)) (hx:es[pl]?=some x)
  (hQ:∀h',hV h' I a (.ref tp) (i+1) n ep->Heap.SameBut I s.heap h'->Q (some x.2) { s with heap:=h' }):wpAny (model P w) A (pyNext (.ref I)) Q E s:=by
 obtain⟨o,ho,hc,dH⟩:=id hit
 obtain⟨op,zq,Ra,np,zr⟩:=zp
 have hT:s.TypeIs (.ref I) "set_iterator":=⟨o,ho,hc⟩
 unfold pyNext
 refine wpAny_bind (wpAny_attempt (wpAny_callSpecial?_slot (name:=Str.ofString "__next__") hT iR
  (wpAny_call_entry iR hT sf ?_ (sk _))))
 unfold Builtin.«set_iterator.__next__» slotArgs
 simp only[List.isEmpty_nil,Bool.not_true,Bool.false_eq_true,↓reduceIte,bind_assoc,List.length_nil,bne_self_eq_false]
 refine wpAny_bind (wpAny_pure ?_)
 refine wpAny_bind (wpAny_fieldsOf ho dH ?_)
 dsimp only
 refine wpAny_bind (wpAny_setEntries_of hu hd hf ?_)
 rw[hn]
 simp only[bne_self_eq_false,Bool.false_eq_true,↓reduceIte,Int.toNat_natCast]
 refine wpAny_bind (wpAny_seqItems zq zr ?_)
 dsimp only
 rw[cT]
 dsimp only
 unfold setNextDrawn
 refine wpAny_bind (wpAny_bind (wpAny_setState_of hu hd hf ?_))
 dsimp only
 simp only[bne_self_eq_false,Bool.false_eq_true,↓reduceIte,Int.toNat_natCast]
 rw[hx]
 dsimp only
 refine wpAny_pure ?_
 refine wpAny_bind (wpAny_setField ho dH (by simp) ?_)
 refine wpAny_pure ⟨x.2,rfl,wpAny_pure (hQ _ ⟨_,Heap.get?_update_self _ ho (Obj.isFreed_of_fields (Obj.data_mapFields dH _)),(Obj.cls_mapFields ..).trans hc,?_⟩ (Heap.SameBut.update ..))⟩
 rw[Obj.data_mapFields dH]
 simp[rawInt]
theorem Ma {I a tp:Addr} {i n ep:Nat} {u:Obj} {es:Array (Int×Value)} {t:SetTable} {places:Array Value} {Q:Option Value->Shared->Prop} (hh:A.handled=none) (hit:hV s.heap I a (.ref tp) i n ep)
  (hu:s.heap.get? a=some u) (hd:u.data=.set es ep t) (hf:t.fits es.size=true) (hn:es.size=n) (zp:s.heap.IsTuple tp places) (cT:places[i]?=none)
  (hQ:∀h',Heap.ExtBut I s.heap h'->Q none { s with heap:=h' }):wpAny (model P w) A (pyNext (.ref I)) Q E s:=by
 obtain⟨o,ho,hc,dH⟩:=id hit
 obtain⟨op,zq,Ra,np,zr⟩:=zp
 have hT:s.TypeIs (.ref I) "set_iterator":=⟨o,ho,hc⟩
 unfold pyNext
 refine wpAny_bind (wpAny_attempt (wpAny_callSpecial?_slot (name:=Str.ofString "__next__") hT iR
  (wpAny_call_entry iR hT sf ?_ (sk _))))
 unfold Builtin.«set_iterator.__next__» slotArgs
 simp only[List.isEmpty_nil,Bool.not_true,Bool.false_eq_true,↓reduceIte,bind_assoc,List.length_nil,bne_self_eq_false]
 refine wpAny_bind (wpAny_pure ?_)
 refine wpAny_bind (wpAny_fieldsOf ho dH ?_)
 dsimp only
 refine wpAny_bind (wpAny_setEntries_of hu hd hf ?_)
 rw[hn]
 simp only[bne_self_eq_false,Bool.false_eq_true,↓reduceIte,Int.toNat_natCast]
 refine wpAny_bind (wpAny_seqItems zq zr ?_)
 dsimp only
 rw[cT]
 dsimp only
 refine wpAny_bind (wpAny_setField ho dH (by simp) ?_)
 exact Cc (s:={ s with heap:=_ }) hh (Heap.get?_update_self _ ho (Obj.isFreed_of_fields (Obj.data_mapFields dH _))) (Obj.data_mapFields dH _) (by simp) λh' e=>hQ h' (Heap.ExtBut.trans (Heap.SameBut.update ..).extBut e)
end
end TS
namespace TS
open PySem PySem.Spec PyProof.Rows
theorem Hr:entryFor table "set_iterator.__iter__"=some Builtin.«dict_keyiterator.__iter__»:=entryFor_alias (id':="dict_keyiterator.__iter__") (by kernel_rfl) rfl (by decide +kernel) (by kernel_rfl)
theorem HB (a:Value):argsOk "set_iterator.__iter__" ⟨[a],[]⟩:=by unfold argsOk;kernel_rfl
section
variable {P:Program} {w:World} {A:Around} {E:Value->Shared->Prop} {s:Shared}
theorem xa {I a:Addr} {f:Value} {i n ep:Nat} {Q:Value->Shared->Prop} (hit:hV s.heap I a f i n ep) (h:Q (.ref I) s):wpAny (model P w) A (pyIter (.ref I)) Q E s:=by
 obtain⟨o,ho,hc,dH⟩:=id hit
 have hT:s.TypeIs (.ref I) "set_iterator":=⟨o,ho,hc⟩
 refine wpAny_pyIter_slot hT A3 (wpAny_call_entry A3 hT Hr ?_ (HB _))
 show wpAny _ _ (ret (.ref I)) _ _ s
 exact wpAny_pure ⟨_,rfl,"set_iterator",_,hT,iR.lookup,h⟩
theorem hV.at {h h':Heap} {I a:Addr} {f:Value} {i n ep:Nat} (x:hV h I a f i n ep) (k:∀o,h.get? I=some o->h'.get? I=some o):hV h' I a f i n ep:=by
 obtain⟨o,ho,r⟩:=x
 exact⟨o,k o ho,r⟩
theorem Cd {a:Addr} {slot i ep:Nat} {u:Obj} {es:Array (Int×Value)} {t:SetTable} (gu:w.params.followText "set-order"=true) (hu:s.heap.get? a=some u) (hd:u.data=.set es ep t) (hf:t.fits es.size=true)
  {Q':Option (Value×Nat)->Shared->Prop} (h:Q' (((pickOrder (w.params.setOrder a ep) es)[i]?).map λe=>(e.2,slot)) s):wpAny (model P w) A (setNext a slot i ep) Q' E s:=by
 unfold setNext
 refine wpAny_bind (wpAny_setState_of hu hd hf ?_)
 dsimp only
 unfold setsByText
 refine wpAny_bind (wpAny_bind (wpAny_askSetting (wpAny_pure ?_)))
 show wpAny _ _ (if w.params.followText "set-order"=true then _ else _) _ _ _
 rw[if_pos gu]
 simp only[bne_self_eq_false,Bool.false_eq_true,↓reduceIte]
 unfold setWalk
 refine wpAny_bind (wpAny_bind (wpAny_setState_of hu hd hf ?_))
 dsimp only
 unfold setsByText
 refine wpAny_bind (wpAny_bind (wpAny_askSetting (wpAny_pure ?_)))
 show wpAny _ _ (if w.params.followText "set-order"=true then _ else _) _ _ _
 rw[if_pos gu]
 refine wpAny_bind (wpAny_askSetting (wpAny_pure ?_))
 exact wpAny_pure h
theorem nV {xs:Array Nat} {slot i:Nat} (hr:i7 xs.toList) (hi:i<=xs.toList.length) (h1:∀k,k<i->xs.toList.getD k 0<slot) (h2:∀k,i<=k->k<xs.toList.length->slot<=xs.toList.getD k 0):SetTable.below xs slot=i:=by
 obtain⟨a0,a1,a2⟩:=BF xs slot hr
 by_cases bh:SetTable.below xs slot<i
 ·have b1:=a2 _ (Nat.le_refl _) (by omega)
  have b2:=h1 _ bh
  omega
 ·by_cases Rb:i<SetTable.below xs slot
  ·have b1:=a1 i Rb
   have b2:=h2 i (Nat.le_refl _) (by omega)
   omega
  ·omega
theorem BG {a:Addr} {slot i ep:Nat} {u:Obj} {es:Array (Int×Value)} {t:SetTable} (gu:w.params.followText "set-order"=false) (hu:s.heap.get? a=some u) (hd:u.data=.set es ep t) (hf:t.fits es.size=true)
  (hl:t.led=true) (hp:t.plain=true\/es.size<=1) (hb:SetTable.below t.place slot=i)
  {Q':Option (Value×Nat)->Shared->Prop} (h:Q' (match es[i]?,t.place[i]? with|some (_,x),some j=>some (x,j+1) | _,_=>none) s):wpAny (model P w) A (setNext a slot i ep) Q' E s:=by
 unfold setNext
 refine wpAny_bind (wpAny_setState_of hu hd hf ?_)
 dsimp only
 unfold setsByText
 refine wpAny_bind (wpAny_bind (wpAny_askSetting (wpAny_pure ?_)))
 show wpAny _ _ (if w.params.followText "set-order"=true then _ else _) _ _ _
 rw[if_neg (by rw[gu];decide)]
 split
 ·rename_i Rc
  have yF:(!t.plain&&decide (es.size > 1))=true:=Rc
  rcases hp with hp|hp
  ·rw[hp] at yF;cases yF
  ·simp at yF;omega
 ·refine wpAny_bind ?_
  show wpAny _ _ (if (!t.led&&!es.isEmpty)=true then _ else _) _ _ _
  rw[hl]
  simp only[Bool.not_true,Bool.false_and,Bool.false_eq_true,↓reduceIte]
  refine wpAny_pure ?_
  rw[hb]
  exact wpAny_pure h
theorem vN {I:Addr} {h':Heap} (sb:Heap.SameBut I s.heap h'):Moved [I] (λa b=>b=a) s { s with heap:=h' }:=⟨λb o hb e=>by rw[sb.2 b (λz=>hb (by simp[z]))];exact e,rfl,rfl,rfl,Nat.le_refl _⟩
theorem vZ {I:Addr} {h':Heap} (sb:Heap.ExtBut I s.heap h'):Moved [I] (λa b=>b=a) s { s with heap:=h' }:=⟨λb o hb e=>sb b o (λz=>hb (by simp[z])) e,rfl,rfl,rfl,Nat.le_refl _⟩
end
theorem IE {P:Program} {w:World} {A:Around} (hh:A.handled=none) {I a:Addr} (gr:a≠I) {u:Obj} {es:Array (Int×Value)} {ep:Nat} {t:SetTable} (gu:w.params.followText "set-order"=true) (hd:u.data=.set es ep t) (hf:t.fits es.size=true) (hsz:(pickOrder (w.params.setOrder a ep) es).size=es.size) :
  WalksS P w A I [I,a] [I] (λa b=>b=a) es.size (λi v=>((pickOrder (w.params.setOrder a ep) es).map (·.2))[i]?=some v) (λi s=>hV s.heap I a (.int 0 0) i es.size ep/\s.heap.get? a=some u) where
 sub:=λb hb=>by simp at hb;simp[hb]
 grefl:=λ_=>rfl
 gtrans:=λ_ _ _ h1 h2=>h2.trans h1
 frame:=λi s h' tk st _ hk=>⟨st.1.at λo e=>hk I (by simp) o e,hk a (by simp) _ st.2⟩
 item:=λi s Q E hi st hQ=>by
  have hx:i<(pickOrder (w.params.setOrder a ep) es).size:=by rw[hsz];exact hi
  have ex:(pickOrder (w.params.setOrder a ep) es)[i]?=some (pickOrder (w.params.setOrder a ep) es)[i]:=by simp[hx]
  refine Dt (nx:=0) (x:=(pickOrder (w.params.setOrder a ep) es)[i].2) (slot:=0) st.1 st.2 hd hf rfl (λA' Q' E' q=>Cd gu st.2 hd hf (by rw[ex];exact q)) λh' it sb=>?_
  exact hQ _ _ (by simp[ex]) ⟨it,by rw[sb.2 a gr];exact st.2⟩ (vN sb)
 done:=λs Q E st hQ=>by
  refine En (slot:=0) hh st.1 st.2 hd hf rfl (λA' Q' E' q=>Cd gu st.2 hd hf (by
   rw[show (pickOrder (w.params.setOrder a ep) es)[es.size]?=none by simp[hsz]];exact q)) λh' sb=>hQ _ (vZ sb)
 self:=λi s Q E st hQ=>xa st.1 hQ
theorem H0 {P:Program} {w:World} {A:Around} (hh:A.handled=none) {I a:Addr} (gr:a≠I) {u:Obj} {es:Array (Int×Value)} {ep:Nat} {t:SetTable} (gu:w.params.followText "set-order"=false) (hd:u.data=.set es ep t) (hf:t.fits es.size=true) (hl:t.led=true) (hp:t.plain=true\/es.size<=1) (hr:i7 t.place.toList) :
  WalksS P w A I [I,a] [I] (λa b=>b=a) es.size (λi v=>(es.map (·.2))[i]?=some v) (λi s=>∃slot:Nat,hV s.heap I a (.int slot 0) i es.size ep/\s.heap.get? a=some u/\i<=es.size/\(∀k,k<i->t.place.toList.getD k 0<slot)/\∀k,i<=k->k<t.place.toList.length->slot<=t.place.toList.getD k 0) where
 sub:=λb hb=>by simp at hb;simp[hb]
 grefl:=λ_=>rfl
 gtrans:=λ_ _ _ h1 h2=>h2.trans h1
 frame:=λi s h' tk st _ hk=>by
  obtain⟨slot,x1,x2,x3⟩:=st
  exact⟨slot,x1.at λo e=>hk I (by simp) o e,hk a (by simp) _ x2,x3⟩
 item:=λi s Q E hi st hQ=>by
  obtain⟨slot,x1,x2,x3,x4,x5⟩:=st
  have cT:t.place.toList.length=es.size:=by
   simp only[SetTable.fits,Bool.and_eq_true,beq_iff_eq,decide_eq_true_eq] at hf
   simpa using hf.1
  have pb:i<t.place.toList.length:=by omega
  have e1:es[i]?=some es[i]:=by simp[hi]
  have e2:t.place[i]?=some (t.place.toList.getD i 0):=by
   rw[<- Array.getElem?_toList,List.getElem?_eq_getElem pb]
   simp[List.getD,List.getElem?_eq_getElem pb]
  refine Dt (nx:=t.place.toList.getD i 0+1) (x:=es[i].2) (slot:=slot) x1 x2 hd hf rfl (λA' Q' E' q=>BG gu x2 hd hf hl hp (nV hr (by omega) x4 x5) (by rw[e1,e2];exact q)) λh' it sb=>?_
  refine hQ _ _ (by simp[e1]) ⟨_,it,by rw[sb.2 a gr];exact x2,hi,λk hk=>?_,λk hk lO=>?_⟩ (vN sb)
  ·by_cases Rf:k=i
   ·rw[Rf];omega
   ·have:=tu hr (show k<i by omega) pb
    omega
  ·have:=tu hr (show i<k by omega) lO
   omega
 done:=λs Q E st hQ=>by
  obtain⟨slot,x1,x2,x3,x4,x5⟩:=st
  have cT:t.place.toList.length=es.size:=by
   simp only[SetTable.fits,Bool.and_eq_true,beq_iff_eq,decide_eq_true_eq] at hf
   simpa using hf.1
  refine En (slot:=slot) hh x1 x2 hd hf rfl (λA' Q' E' q=>BG gu x2 hd hf hl hp (nV hr (by omega) x4 x5) (by
   rw[show es[es.size]?=none by simp];exact q)) λh' sb=>hQ _ (vZ sb)
 self:=λi s Q E st hQ=>by
  obtain⟨slot,x1,_⟩:=st
  exact xa x1 hQ
theorem H9 {P:Program} {w:World} {A:Around} (hh:A.handled=none) {I a tp:Addr} (gr:a≠I) (Rg:tp≠I) {u:Obj} {es:Array (Int×Value)} {ep:Nat} {t:SetTable} (hd:u.data=.set es ep t) (hf:t.fits es.size=true) (pl:List Nat) (cT:pl.length=es.size) (kE:∀x∈pl,x<es.size) :
  WalksS P w A I [I,a,tp] [I] (λa b=>b=a) es.size (λi v=>(pl.map λk=>(es.getD k (0,Value.none)).2)[i]?=some v) (λi s=>hV s.heap I a (.ref tp) i es.size ep/\s.heap.get? a=some u/\s.heap.IsTuple tp (pl.map λ(k:Nat)=>rawInt k).toArray) where
 sub:=λb hb=>by simp at hb;simp[hb]
 grefl:=λ_=>rfl
 gtrans:=λ_ _ _ h1 h2=>h2.trans h1
 frame:=λi s h' tk st _ hk=>⟨st.1.at λo e=>hk I (by simp) o e,hk a (by simp) _ st.2.1,let ⟨o,ho,r⟩:=st.2.2;⟨o,hk tp (by simp) o ho,r⟩⟩
 item:=λi s Q E hi st hQ=>by
  have pb:i<pl.length:=by omega
  have e1:pl[i]?=some pl[i]:=List.getElem?_eq_getElem pb
  have hk:=kE _ (List.getElem_mem pb)
  refine KI (pl:=pl[i]) (x:=es.getD pl[i] (0,Value.none)) (tk:=0) st.1 st.2.1 hd hf rfl st.2.2 (by simp[e1,rawInt]) (by simp[hk,Array.getD]) λh' it sb=>?_
  refine hQ _ _ (by simp[e1]) ⟨it,by rw[sb.2 a gr];exact st.2.1,let ⟨o,ho,r⟩:=st.2.2;⟨o,by rw[sb.2 tp Rg];exact ho,r⟩⟩ (vN sb)
 done:=λs Q E st hQ=>Ma hh st.1 st.2.1 hd hf rfl st.2.2 (by simp[cT]) λh' sb=>hQ _ (vZ sb)
 self:=λi s Q E st hQ=>xa st.1 hQ
end TS
namespace TS
open PySem PySem.Spec PyProof.Rows
noncomputable def dX (w:World):Bool:=!(w.params.followText "set-order")
section
variable {P:Program} {w:World} {A:Around} {E:Value->Shared->Prop} {s:Shared}
theorem KJ (a:Value) {Q₁:Value->Shared->Prop}
  (hq:Q₁ (.ref s.heap.objs.size) { s with heap:=s.heap.push { cls:=.type "set",dict:=none,data:=.set #[] 0 (.fresh 0 0 (dX w)) } }) :
  codeAny (model P w) A (.call (.builtin "set.__new__") ⟨[.type "set",a],[]⟩) (wants Q₁ E) s:=by
 refine codeAny_of_tree ?_
 show wpAny _ A.in1 (checkBuiltinCall "set.__new__" ⟨[.type "set",a],[]⟩ >>= λ_=>again (.builtin "set.__new__" ⟨[.type "set",a],[]⟩)) _ _ s
 refine wpAny_bind ?_
 refine wpAny_of_eq (F.newCall_set_1 a) ?_
 refine wpAny_pure ⟨plainId_quiet F.plain_set_new _,codeAny_builtin F.entry_set_new ?_⟩
 rw[Around.under_plainId F.plain_set_new _]
 unfold Builtin.«set.__new__» Builtin.Frozenset.newClass
 have ss:=sub_set_self
 obtain⟨h1,h2,h3,h4,h5⟩:=s
 dsimp only
 wp_walk
 refine wpAny_askSetting (wpAny_pure ?_)
 dsimp only
 simp only[newObj]
 refine wpAny_bind (wpAny_alloc ?_)
 exact wpAny_pure (wpAny_pure hq)
end
section
variable {P:Program} {w:World} {A:Around} {R:Result->Shared->Prop} {I:Addr} {fp wr:List Addr} {G:Array GenState->Array GenState->Prop} {n:Nat} {Pv:Nat->Value->Prop} {St:Nat->Shared->Prop} {led:Bool}
theorem KL (W:WalksS P w A.in1 I fp wr G n Pv St) (S:Addr) (rF:S∉fp)
  (val:Nat->Int) (Qr:∀i v,Pv i v->∃t,v=.int (val i) t) (hb:n+1<scanBound) :
  ∀(k i:Nat) (s:Shared),n-i=k->i<=n->St i s ->
   fx P w led s.heap S (λj=>(firstMet val i).any (·==j)) (firstMet val i).length ->
   (∀s',Moved (S::wr) G s s'->fx P w led s'.heap S (λj=>(firstMet val n).any (·==j)) (firstMet val n).length->R (.ok (.ret .none)) s') ->
   codeAny (model P w) A (.builtin "set.update.loop" ⟨[.ref S,.ref I],[]⟩) R s:=by
 have nw:S∉wr:=λz=>rF (W.sub _ z)
 have sw:∀b∈wr,b∈S::wr:=λb z=>List.mem_cons_of_mem _ z
 intro k
 induction k with
 |zero =>
  intro i s hk hi st T hR
  obtain rfl:i=n:=by omega
  refine codeAny_builtin F.entry_set_update_loop ?_
  rw[Around.under_plainId F.plain_set_update_loop _]
  show wpAny _ A.in1 (pyNext (.ref I) >>= _) _ _ s
  refine wpAny_bind (W.done s _ _ st λs' m=>?_)
  show wpAny _ A.in1 (ret Value.none) _ _ s'
  exact wpAny_pure (hR s' (m.mono sw) (T.at λo e=>m.heap S o nw e))
 |succ k ih =>
  intro i s hk hi st T hR
  have lt:i<n:=by omega
  refine codeAny_builtin F.entry_set_update_loop ?_
  rw[Around.under_plainId F.plain_set_update_loop _]
  show wpAny _ A.in1 (pyNext (.ref I) >>= _) _ _ s
  refine wpAny_bind (W.item i s _ _ lt st λv s' pv cX m=>?_)
  obtain⟨t,rfl⟩:=Qr i v pv
  have T':=T.at (h':=s'.heap) λo e=>m.heap S o nw e
  show wpAny _ A.in1 (holding [Value.int (val i) t] (setAdd S (.int (val i) t)) >>= _) _ _ s'
  refine wpAny_bind (wpAny_holding ?_)
  unfold setAdd
  refine wpAny_holding ?_
  refine wpAny_bind ((intKind P w).pyHash (k:=val i) (intKind_is _ _ _ _) ?_)
  have room:(firstMet val i).length+1<scanBound:=by have:=firstMet_length_le val i;omega
  refine L9 (s:={ s' with toks:=s'.toks+1 }) T' room λh' sb T2=>?_
  have T3:fx P w led h' S (λj=>(firstMet val (i+1)).any (·==j)) (firstMet val (i+1)).length:=T2.congr (λj=>by rw[firstMet_succ,step_any]) (by rw[firstMet_succ,step_length])
  refine wpAny_pure ⟨plainId_quiet F.plain_set_update_loop _,ih (i+1) _ (by omega) lt (W.frame _ s' _ _ cX (Nat.le_succ _) λb eV o e=>?_) T3 λrj Rh Ri=>?_⟩
  ·rw[sb.2 b λz:b=S=>rF (z ▸ eV)];exact e
  ·refine hR rj (Moved.trans W.gtrans ((m.mono sw).then_heap (Nat.le_succ _) λb o eV e=>?_) Rh) Ri
   rw[sb.2 b λz:b=S=>eV (by rw[z];exact List.mem_cons_self)];exact e
end
section
variable {P:Program} {w:World} {A:Around} {E:Value->Shared->Prop} {s:Shared}
theorem IF {l:Addr} {its:Array Value} {ns:List Int} {Q:Value->Shared->Prop}
  (hh:A.handled=none) (hl:s.heap.IsList l its) (hi:IntsAre its.toList ns) (hb:its.size+1<scanBound)
  (h:∀(h':Heap) (tk:Nat),fx P w (dX w) h' s.heap.objs.size (λk'=>(firstMet (λi=>ns.getD i 0) its.size).any (·==k')) (firstMet (λi=>ns.getD i 0) its.size).length ->
   (∀b o,b<s.heap.objs.size->s.heap.get? b=some o->h'.get? b=some o)->Q (.ref s.heap.objs.size) { s with heap:=h',toks:=tk }) :
  wpAny (model P w) A (call (.type "set") [.ref l]) Q E s:=by
 obtain⟨c,tl,ur⟩:=F.called_set.mro
 have um:=F.called_set.made
 have ub:=F.called_set.sub
 refine wpAny_call (codeAny_of_tree ?_)
 show wpAny _ _ (callAny (.type "set") _) _ _ _
 refine wpAny_pure ⟨Code.quiet_builtin _ (by decide +kernel),codeAny_builtin F.entry_type_call ?_⟩
 rw[Around.under_plain (weight_type_call_type "set" [.ref l] []) rfl]
 have h1:=F.called_set.notType
 have h2:=F.called_set.canCreate
 have TB:=F.typeCall_set_1 (.ref l)
 repeat (any_goals (first|assumption|wp_step))
 refine codeAny_mono (KJ (.ref l) (E:=E) (Q₁:=λobj bz=>obj=.ref s.heap.objs.size/\bz={ s with heap:=s.heap.push { cls:=.type "set",dict:=none,data:=.set #[] 0 (.fresh 0 0 (dX w)) } }) ⟨rfl,rfl⟩) λr bz hr=>?_
 cases r with
 |error e=>exact hr
 |ok fl =>
  cases fl with
  |ret obj =>
   obtain⟨rfl,rfl⟩:=hr
   have v:(s.heap.push { cls:=.type "set",dict:=none,data:=.set #[] 0 (.fresh 0 0 (dX w)) }).get? s.heap.objs.size=some { cls:=.type "set",dict:=none,data:=.set #[] 0 (.fresh 0 0 (dX w)) }:=Heap.get?_push_size _ rfl
   have vT:Shared.TypeIs { s with heap:=s.heap.push { cls:=.type "set",dict:=none,data:=.set #[] 0 (.fresh 0 0 (dX w)) } } (.ref s.heap.objs.size) "set":=⟨_,v,rfl⟩
   have vl:=F.called_set.init.lookup
   have vb:=F.called_set.init.bind (.ref s.heap.objs.size)
   repeat (any_goals (first|assumption|wp_step))
   refine codeAny_mono (codeAny_call_builtin (R:=wants (λr uA=>r=.none/\∃h' tk,uA={ s with heap:=h',toks:=tk } /\
     fx P w (dX w) h' s.heap.objs.size (λk'=>(firstMet (λi=>ns.getD i 0) its.size).any (·==k')) (firstMet (λi=>ns.getD i 0) its.size).length /\
     (∀b o,b<s.heap.objs.size->s.heap.get? b=some o->h'.get? b=some o)) E) F.called_set.init.plain F.entry_set_init (check_set_init_1 vT ?_)) λQs uA vr=>?_
   ·obtain⟨ol,uo,uc,nn,ud⟩:=hl
    obtain⟨oc,od,oa,Rj⟩:=ol
    simp only at uc ud
    subst uc;subst ud
    have Rk:(s.heap.push { cls:=.type "set",dict:=none,data:=.set #[] 0 (.fresh 0 0 (dX w)) }).get? l=some { cls:=.type "list",dict:=od,data:=.seq its nn,slots:=Rj }:=Heap.get?_push_of_some _ uo
    have u1:=F.sub_list_set
    have u2:=F.sub_list_frozenset
    have gr:(Value.type "list"==Value.type "dict")=false:=by decide
    have ul:(s.heap.push { cls:=.type "set",dict:=none,data:=.set #[] 0 (.fresh 0 0 (dX w)) }).IsList l its:=⟨_,Rk,rfl,nn,rfl⟩
    unfold Builtin.«set.__init__» noKeywords Builtin.Frozenset.updateFrom
    generalize vP:pyIter=PI
    wp_walk
    subst vP
    refine wpAny_pyIter_list ul ?_
    refine wpAny_bind (wpAny_runValue ?_)
    have uS:l<s.heap.objs.size:=Heap.lt_size uo
    have v3:A.in1.in1.in1.handled=none:=by simp[hh]
    have uI:l≠(s.heap.push { cls:=.type "set",dict:=none,data:=.set #[] 0 (.fresh 0 0 (dX w)) }).objs.size:=by
     rw[Heap.size_push];exact Nat.ne_of_lt (Nat.lt_succ_of_lt uS)
    have uf:s.heap.objs.size∉[(s.heap.push { cls:=.type "set",dict:=none,data:=.set #[] 0 (.fresh 0 0 (dX w)) }).objs.size,l]:=by
     rw[Heap.size_push];simp only[List.mem_cons,List.mem_singleton,List.not_mem_nil,or_false,not_or]
     exact⟨Nat.ne_of_lt (Nat.lt_succ_self _),Nat.ne_of_gt uS⟩
    have uv:∀(i:Nat) (v:Value),its[i]?=some v->∃t,v=.int ((λi=>ns.getD i 0) i) t:=λi v hv =>
     IntsAre.int_at hi i v (by rw[Array.getElem?_toList];exact hv)
    refine KL (led:=dX w) ((Walks.list v3 _ l uI its).toS) s.heap.objs.size
     uf (λi=>ns.getD i 0) uv hb (its.size-0) 0 _ (by omega) (Nat.zero_le _)
     ⟨⟨_,Heap.get?_push_size _ rfl,rfl,rfl⟩,(ul.push _)⟩ ?v0 ?vR
    case v0 =>
     have vg:((s.heap.push { cls:=.type "set",dict:=none,data:=.set #[] 0 (.fresh 0 0 (dX w)) }).push { cls:=.type "list_iterator",data:=.fields #[.ref l,.int 0 0] }).get? s.heap.objs.size
       = some { cls:=.type "set",dict:=none,data:=.set #[] 0 (.fresh 0 0 (dX w)) }:=Heap.get?_push_of_some _ v
     exact⟨_,#[],0,_,vg,⟨rfl,rfl,rfl⟩,rfl,λe he=>by simp at he,λk=>by simp[firstMet_zero],by unfold scanBound;simp,by rfl,rfl,Jx _⟩
    case vR =>
     intro s' hm vS
     obtain⟨h',g',d',tq,zb⟩:=s'
     have eg:g'=s.gens:=hm.gens
     have ed:d'=s.drawn:=hm.drawn
     have eo:zb=s.os:=hm.os
     subst eg;subst ed;subst eo
     show wpAny _ _ _ _ _ _
     refine wpAny_pure ?_
     show wpAny _ _ (ret Value.none) _ _ _
     refine wpAny_pure ⟨rfl,h',tq,rfl,vS,λb o hb e=>?_⟩
     have v1:b≠s.heap.objs.size:=Nat.ne_of_lt hb
     have v2:b≠(s.heap.push { cls:=.type "set",dict:=none,data:=.set #[] 0 (.fresh 0 0 (dX w)) }).objs.size:=by
      rw[Heap.size_push];exact Nat.ne_of_lt (Nat.lt_succ_of_lt hb)
     exact hm.heap b o (by simp only[List.mem_cons,List.mem_singleton,List.not_mem_nil,or_false,not_or];exact⟨v1,v2⟩) (Heap.get?_push_of_some _ (Heap.get?_push_of_some _ e))
   ·cases Qs with
    |error e=>exact vr
    |ok O4 =>
     cases O4 with
     |ret r =>
      obtain⟨rfl,h',tk,rfl,vS,vk⟩:=vr
      repeat (any_goals (first|assumption|wp_step))
      exact h _ _ vS vk
     |_=>exact vr.elim
  |_=>exact hr.elim
end
end TS
namespace TS
open PySem PySem.Spec PyProof.Rows
theorem vO {α:Type}:∀{l:List α} {i:Nat} {x:α},l[i]?=some x->(x::l.eraseIdx i).Perm l
 | [],i,x,h=>by simp at h
 |y::l,0,x,h=>by
  have:y=x:=by simpa using h
  subst this
  exact List.Perm.refl _
 |y::l,i+1,x,h=>by
  have ih:=vO (l:=l) (i:=i) (x:=x) (by simpa using h)
  rw[List.eraseIdx_cons_succ]
  exact(List.Perm.swap y x _).trans (List.Perm.cons y ih)
theorem Du {α:Type} (next:Nat->Nat):∀(fuel k:Nat) (left:List α) (out:Array α),left.length=fuel->(pickOrder.go next fuel k left out).toList.Perm (out.toList++left)
 |0,k,left,out,h=>by
  have:left=[]:=List.length_eq_zero_iff.mp h
  subst this
  unfold pickOrder.go
  simp
 |fuel+1,k,left,out,h=>by
  unfold pickOrder.go
  have hm:next k % left.length<left.length:=Nat.mod_lt _ (by omega)
  rw[List.getElem?_eq_getElem hm]
  dsimp only
  have he:=vO (List.getElem?_eq_getElem hm)
  have ih:=Du next fuel (k+1) (left.eraseIdx (next k % left.length)) (out.push left[next k % left.length]) (by rw[List.length_eraseIdx_of_lt hm];omega)
  refine ih.trans ?_
  rw[Array.toList_push,List.append_assoc]
  exact List.Perm.append_left _ he
theorem Ce {α:Type} (next:Nat->Nat) (xs:Array α):(pickOrder next xs).toList.Perm xs.toList:=by
 unfold pickOrder
 have:=Du next xs.size 0 xs.toList #[] (by simp)
 simpa using this
section
variable {P:Program} {w:World} {A:Around} {E:Value->Shared->Prop}
theorem IG {α:Type} (n:Nat):∀(xs:List α) (s:Shared) (Q:List α->Shared->Prop),xs.length=n->(∀ys d,ys.Perm xs->Q ys { s with drawn:=d })->wpAny (model P w) A (drawOrder n xs) Q E s:=by
 induction n with
 |zero =>
  intro xs s Q h hQ
  have:xs=[]:=List.length_eq_zero_iff.mp h
  subst this
  unfold drawOrder
  exact wpAny_pure (hQ [] s.drawn (List.Perm.refl _))
 |succ n ih =>
  intro xs s Q h hQ
  cases xs with
  |nil=>simp at h
  |cons x xs =>
   unfold drawOrder
   refine wpAny_bind (ID (by simp) ?_)
   have hm:w.draws .order (s.drawn.get .order) % (x::xs).length<(x::xs).length:=Nat.mod_lt _ (by simp)
   rw[List.getElem?_eq_getElem hm]
   dsimp only
   refine wpAny_bind (ih _ _ _ (by rw[List.length_eraseIdx_of_lt hm];omega) λys d hp=>?_)
   refine wpAny_pure (hQ _ d ?_)
   exact(List.Perm.cons _ hp).trans (vO (List.getElem?_eq_getElem hm))
theorem KN {s:Shared} {a:Addr} {u:Obj} {es:Array (Int×Value)} {ep:Nat} {t:SetTable} {Q:Value->Shared->Prop} (hu:s.heap.get? a=some u) (hx:u.ExactSet) (hd:u.data=.set es ep t) (hf:t.fits es.size=true) (ht:gC (dX w) t)
  (hsz:es.size<=sizeLine)
  (hQ:∀(h':Heap) (d':Drawn) (I:Addr) (fp:List Addr) (St:Nat->Shared->Prop) (order:List Value),(∀b o,s.heap.get? b=some o->h'.get? b=some o)->(∀b∈fp,b<h'.objs.size)->(∀b∈fp,b=a\/s.heap.objs.size<=b)->I∈fp->s.heap.objs.size<=I->order.Perm (es.toList.map (·.2)) ->
   (∀A':Around,A'.handled=none->WalksS P w A' I fp [I] (λa b=>b=a) es.size (λi v=>order[i]?=some v) St)->St 0 { s with heap:=h',drawn:=d' }->Q (.ref I) { s with heap:=h',drawn:=d' }) :
  wpAny (model P w) A (pyIter (.ref a)) Q E s:=by
 have hT:s.TypeIs (.ref a) "set":=⟨u,hu,hx.1⟩
 have bh:a<s.heap.objs.size:=Heap.lt_size hu
 refine wpAny_pyIter_slot hT F.slot_set_iter (wpAny_call_entry F.slot_set_iter hT Hi ?_ (F.args_set_iter_1 _))
 unfold Builtin.«frozenset.__iter__» Builtin.Frozenset.slot0 slotArgs
 simp only[List.isEmpty_nil,Bool.not_true,Bool.false_eq_true,↓reduceIte,bind_assoc,List.length_nil,bne_self_eq_false]
 unfold Builtin.Frozenset.addrOf Builtin.Frozenset.sizeOf
 refine wpAny_bind (wpAny_pure ?_)
 try dsimp only
 refine wpAny_bind (wpAny_pure ?_)
 refine wpAny_bind (wpAny_bind (wpAny_setEntries_of hu hd hf (wpAny_pure ?_)))
 unfold setDrawn
 refine wpAny_bind (wpAny_bind (wpAny_setState_of hu hd hf ?_))
 dsimp only
 unfold setsByText
 refine wpAny_bind (wpAny_bind (wpAny_askSetting (wpAny_pure ?_)))
 refine wpAny_pure ?_
 show wpAny _ _ (if (!(w.params.followText "set-order")&&(!t.plain&&decide (es.size > 1)))=true then _ else _) _ _ _
 have zt:∀(o1:Obj) b o,s.heap.get? b=some o->(s.heap.push o1).get? b=some o:=λo1 b o e=>Heap.get?_push_of_some _ e
 by_cases hc:(!w.params.followText "set-order"&&(!t.plain&&decide (es.size > 1)))=true
 ·rw[if_pos hc]
  refine wpAny_bind (IG _ _ _ _ (by simp) λys d hp=>?_)
  refine wpAny_bind ?_
  simp only[newTuple]
  refine wpAny_newObj_type ?_ (by have:=hp.length_eq;rw[List.length_range] at this;show (List.toArray _).size<=sizeLine;rw[List.size_toArray,List.length_map,this];exact hsz)
  have kE:∀x∈ys,x<es.size:=λx hx=>by simpa using hp.mem_iff.mp hx
  have hl:ys.length=es.size:=by simpa using hp.length_eq
  refine wpAny_bind (wpAny_setEpoch_of (Heap.get?_push_of_some _ hu) hd hf ?_)
  refine wpAny_bind (wpAny_newObj_type ?_)
  refine wpAny_pure ⟨_,rfl,"set_iterator",_,⟨_,Heap.get?_push_size _ rfl,rfl⟩,iR.lookup,?_⟩
  have pd:(s.heap.push { cls:=.type "tuple",data:=.seq (ys.map λ(i:Nat)=>rawInt i).toArray }).objs.size=s.heap.objs.size+1:=by simp[Heap.size_push]
  refine hQ _ d _ [_,a,s.heap.objs.size] _ (ys.map λk=>(es.getD k (0,Value.none)).2) (λb o e=>Heap.get?_push_of_some _ (Heap.get?_push_of_some _ e)) ?_ ?_ (by simp) (by rw[pd];exact Nat.le_succ _) ?_ (λA' ha=>H9 (u:=u) (t:=t) (ep:=ep) ha (I:=_) (a:=a) (tp:=s.heap.objs.size) (by rw[pd];exact Nat.ne_of_lt (Nat.lt_succ_of_lt bh)) (by rw[pd];exact Nat.ne_of_lt (Nat.lt_succ_self _)) hd hf ys hl kE) ⟨⟨_,Heap.get?_push_size _ rfl,rfl,rfl⟩,Heap.get?_push_of_some _ (Heap.get?_push_of_some _ hu),⟨_,Heap.get?_push_of_some _ (Heap.get?_push_size _ rfl),rfl,_,rfl⟩⟩
  ·intro b hb
   simp only[List.mem_cons,List.not_mem_nil,or_false] at hb
   rw[Heap.size_push]
   rcases hb with e|e|e
   ·rw[e];exact Nat.lt_succ_self _
   ·rw[e,pd];exact Nat.lt_succ_of_lt (Nat.lt_succ_of_lt bh)
   ·rw[e,pd];exact Nat.lt_succ_of_lt (Nat.lt_succ_self _)
  ·intro b hb
   simp only[List.mem_cons,List.not_mem_nil,or_false] at hb
   rcases hb with e|e|e
   ·right;rw[e,pd];exact Nat.le_succ _
   ·exact .inl e
   ·right;rw[e];exact Nat.le_refl _
  ·refine(List.Perm.map _ hp).trans ?_
   have:(List.range es.size).map (λk=>(es.getD k (0,Value.none)).2)=es.toList.map (·.2):=by
    apply List.ext_getElem?
    intro i
    rw[List.getElem?_map,List.getElem?_map]
    by_cases hi:i<es.size
    ·rw[List.getElem?_range hi,Array.getElem?_toList]
     simp[Array.getD,hi]
    ·rw[List.getElem?_eq_none (by simpa using hi),List.getElem?_eq_none (by simpa using hi)]
     rfl
   rw[this]
 ·rw[if_neg hc]
  refine wpAny_bind (wpAny_pure ?_)
  refine wpAny_bind (wpAny_setEpoch_of hu hd hf ?_)
  refine wpAny_bind (wpAny_newObj_type ?_)
  refine wpAny_pure ⟨_,rfl,"set_iterator",_,⟨_,Heap.get?_push_size _ rfl,rfl⟩,iR.lookup,?_⟩
  have ar:∀(o1:Obj),∀b∈[s.heap.objs.size,a],b<(s.heap.push o1).objs.size:=λo1 b hb=>by
   simp only[List.mem_cons,List.not_mem_nil,or_false] at hb
   rw[Heap.size_push]
   rcases hb with e|e
   ·rw[e];exact Nat.lt_succ_self _
   ·rw[e];exact Nat.lt_succ_of_lt bh
  have FV:∀b∈[s.heap.objs.size,a],b=a\/s.heap.objs.size<=b:=λb hb=>by
   simp only[List.mem_cons,List.not_mem_nil,or_false] at hb
   rcases hb with e|e
   ·right;rw[e];exact Nat.le_refl _
   ·exact .inl e
  cases gu:w.params.followText "set-order" with
  |true =>
   have Rl:(pickOrder (w.params.setOrder a ep) es).size=es.size:=by
    have:=(Ce (w.params.setOrder a ep) es).length_eq
    simpa using this
   have hw:∀A':Around,A'.handled=none->WalksS P w A' s.heap.objs.size [s.heap.objs.size,a] [s.heap.objs.size] (λa b=>b=a) es.size (λi v=>((pickOrder (w.params.setOrder a ep) es).toList.map (·.2))[i]?=some v) _:=λA' ha=>by
    have:=IE (P:=P) (u:=u) (t:=t) ha (I:=s.heap.objs.size) (a:=a) (Nat.ne_of_lt bh) gu hd hf Rl
    simpa using this
   exact hQ _ s.drawn _ [_,a] _ ((pickOrder (w.params.setOrder a ep) es).toList.map (·.2)) (λb o e=>Heap.get?_push_of_some _ e) (ar _) FV (by simp) (Nat.le_refl _) (List.Perm.map _ (Ce _ _)) hw ⟨⟨_,Heap.get?_push_size _ rfl,rfl,rfl⟩,Heap.get?_push_of_some _ hu⟩
  |false =>
   have hp:t.plain=true\/es.size<=1:=by
    rw[gu] at hc
    simp at hc
    cases cT:t.plain with
    |true=>exact .inl rfl
    |false=>exact .inr (hc cT)
   have hl:t.led=true:=by rw[ht.led];unfold dX;rw[gu];rfl
   have hr:i7 t.place.toList:=by
    rcases hp with hp|hp
    ·exact ht.rise hp
    ·simp only[SetTable.fits,Bool.and_eq_true,beq_iff_eq,decide_eq_true_eq] at hf
     have hle:t.place.toList.length<=1:=by simp[hf.1];exact hp
     match t.place.toList,hle with
     | [],_=>exact List.Pairwise.nil
     | [x],_=>exact List.pairwise_singleton _ _
   have hw:∀A':Around,A'.handled=none->WalksS P w A' s.heap.objs.size [s.heap.objs.size,a] [s.heap.objs.size] (λa b=>b=a) es.size (λi v=>(es.toList.map (·.2))[i]?=some v) _:=λA' ha=>by
    have:=H0 (P:=P) (u:=u) (t:=t) (ep:=ep) ha (I:=s.heap.objs.size) (a:=a) (Nat.ne_of_lt bh) gu hd hf hl hp hr
    simpa using this
   exact hQ _ s.drawn _ [_,a] _ (es.toList.map (·.2)) (λb o e=>Heap.get?_push_of_some _ e) (ar _) FV (by simp) (Nat.le_refl _) (List.Perm.refl _) hw ⟨0,⟨_,Heap.get?_push_size _ rfl,rfl,rfl⟩,Heap.get?_push_of_some _ hu,Nat.zero_le _,λk hk=>by omega,λk _ _=>Nat.zero_le _⟩
end
end TS
namespace TS
open PySem PySem.Spec PyProof.Rows
section
variable {P:Program} {w:World} {A:Around} {E:Value->Shared->Prop} {s:Shared}
theorem split_len:splitId "set.__len__"=some ("set","__len__"):=by decide +kernel
theorem ints_of {es:List (Int×Value)} (h:ElemsOf (intKind P w) es) {vs:List Value} (hp:vs.Perm (es.map (·.2))):∃ns,IntsAre vs ns:=by
 have hv:∀v∈vs,∃k t,v=.int k t:=λv hv=>by
  obtain⟨e,he,rfl⟩:=List.mem_map.mp (hp.mem_iff.mp hv)
  obtain⟨⟨k,hk,_⟩,_⟩:=h e he
  cases hx:e.2 with
  |int i t=>exact⟨i,t,rfl⟩
  |_=>rw[hx] at hk;simp[intKind,Value.isInt] at hk
 clear hp
 induction vs with
 |nil=>exact⟨[],.nil⟩
 |cons v vs ih =>
  obtain⟨k,t,rfl⟩:=hv v List.mem_cons_self
  obtain⟨ns,h2⟩:=ih λx hx=>hv x (List.mem_cons_of_mem _ hx)
  exact⟨k::ns,.cons k t h2⟩
theorem Eo {α:Type} {c:Bool} {x y:Sem α} {Q:α->Shared->Prop} (hc:c=true) (h:wpAny (model P w) A x Q E s):wpAny (model P w) A (if c=true then x else y) Q E s:=by
 rw[if_pos hc];exact h
theorem Ia {a:Addr} {u:Obj} {es:Array (Int×Value)} {ep:Nat} {t:SetTable} {Q:List Value->Shared->Prop} (hh:A.handled=none) (hu:s.heap.get? a=some u) (hx:u.ExactSet) (hd:u.data=.set es ep t) (hf:t.fits es.size=true) (ht:gC (dX w) t) (hsz:es.size<scanBound)
  (hQ:∀(h':Heap) (d':Drawn) (tk:Nat) (vs:List Value),s.heap.objs.size<=h'.objs.size->(∀b o,s.heap.get? b=some o->h'.get? b=some o)->vs.Perm (es.toList.map (·.2))->Q vs { s with heap:=h',drawn:=d',toks:=tk }):wpAny (model P w) A (collect (.ref a)) Q E s:=by
 have hz:es.size<=sizeLine:=fits_of_scanBound hsz
 have bh:a<s.heap.objs.size:=Heap.lt_size hu
 unfold collect
 refine wpAny_bind (wpAny_runValue (codeAny_builtin F.entry_proto_collect ?_))
 rw[Around.under_plainId F.plain_proto_collect _]
 show wpAny _ A.in1 (newList [] >>= λl=>again (.builtin "list.__iadd__" ⟨[l,.ref a],[]⟩)) _ _ s
 refine wpAny_bind (wpAny_newObj_type ?_)
 refine wpAny_pure ⟨plainId_quiet F.plain_list_iadd _,codeAny_builtin F.entry_list_iadd ?_⟩
 rw[Around.under_plainId F.plain_list_iadd _]
 show wpAny _ A.in1 (Builtin.List.listExtendWith (.ref s.heap.objs.size) (.ref a) (.ref s.heap.objs.size)) _ _ _
 generalize fI:({ s with heap:=s.heap.push { cls:=.type "list",data:=.seq ([]:List Value).toArray } }:Shared)=s1
 have rG:s1.heap.objs.size=s.heap.objs.size+1:=by rw[<- fI];simp[Heap.size_push]
 have yG:∀b o,s.heap.get? b=some o->s1.heap.get? b=some o:=λb o e=>by rw[<- fI];exact Heap.get?_push_of_some _ e
 have zu:s1.heap.get? a=some u:=by rw[<- fI];exact Heap.get?_push_of_some _ hu
 have hT:s1.TypeIs (.ref a) "set":=⟨u,zu,hx.1⟩
 have Rm:s1.heap.get? s.heap.objs.size=some { cls:=.type "list",data:=.seq ([]:List Value).toArray }:=by rw[<- fI];exact Heap.get?_push_size _ rfl
 unfold Builtin.List.listExtendWith
 refine wpAny_bind (wpAny_typeOf hT ?_)
 have n1:Builtin.List.listSameRef (.ref s.heap.objs.size) (.ref a)=false:=by
  simp[Builtin.List.listSameRef]
  exact Nat.ne_of_gt bh
 have n2:(Value.type "set"==Value.type "list")=false:=by decide
 have n3:(Value.type "set"==Value.type "tuple")=false:=by decide
 simp only[n1,n2,n3,Bool.or_false,Bool.false_eq_true,if_false]
 refine wpAny_bind (KN zu hx hd hf ht hz λh' d' I fp St order k1 k2 k6 k3 k4 k5 W st=>?_)
 have zv:Shared.TypeIs { s1 with heap:=h',drawn:=d' } (.ref a) "set":=⟨u,k1 _ _ zu,hx.1⟩
 have GC:=k1 _ _ Rm
 refine wpAny_bind (wpAny_holding ?_)
 unfold Builtin.List.listLengthHint
 refine wpAny_bind (wpAny_specialOf zv F.slot_set_len.lookup ?_)
 dsimp only
 rw[split_len]
 dsimp only
 refine wpAny_bind (wpAny_isInstance zv sub_set_self ?_)
 rw[if_neg (by decide)]
 refine Eo (by decide +kernel) ?_
 refine wpAny_bind (wpAny_typeOf zv ?_)
 dsimp only
 refine wpAny_pure ?_
 refine Eo (by decide +kernel) ?_
 ··refine wpAny_bind (wpAny_rule ?_)
   refine wpAny_bind ?_
   show wpAny _ A.in1 (updateSeq s.heap.objs.size (·.push .none) >>= λ_=>updateSeq s.heap.objs.size (·.pop)) _ _ _
   refine wpAny_bind (wpAny_updateSeq GC rfl ?_)
   have GD:=Heap.get?_update_self (Obj.mapSeq (·.push Value.none)) GC rfl
   refine wpAny_updateSeq GD rfl ?_
   have Rn:=Heap.get?_update_self (Obj.mapSeq (·.pop)) GD rfl
   have rF:s.heap.objs.size∉fp:=λhm=>by
    rcases k6 _ hm with e|e
    ·exact Nat.ne_of_gt bh e
    ·rw[rG] at e;exact Nat.not_succ_le_self _ e
   have zt:∀b o,b≠s.heap.objs.size->h'.get? b=some o->((h'.update s.heap.objs.size (Obj.mapSeq (·.push Value.none))).update s.heap.objs.size (Obj.mapSeq (·.pop))).get? b=some o :=
    λb o hb e=>(Heap.get?_update_other _ _ (Ne.symm hb)).trans ((Heap.get?_update_other _ _ (Ne.symm hb)).trans e)
   refine wpAny_pure ⟨plainId_quiet F.plain_extend_loop _,codeAny_extend_loopS (W A.in1 (by simp[hh])) hz _ rF _ es.size 0 _ _ _ rfl (Nat.zero_le _) ((W A.in1 (by simp[hh])).frame 0 ({ s1 with heap:=h',drawn:=d' }:Shared) _ s1.toks st (Nat.le_refl _) λb hb o e=>zt b o (λz=>rF (z ▸ hb)) e) Rn (ItemsOf.nil _) λs' acc c m GF jD=>?_⟩
   show wpAny _ A (load s.heap.objs.size >>= _) _ _ s'
   refine wpAny_bind (wpAny_load GF ?_)
   refine wpAny_pure ?_
   have Ro:order.length=es.size:=by simpa using k5.length_eq
   have Qt:acc.toList=order:=by
    apply List.ext_getElem?
    intro j
    by_cases hj:j<acc.size
    ·have e1:acc[j]?=some acc[j]:=by simp[hj]
     rw[Array.getElem?_toList,e1,jD.2 j _ e1]
    ·rw[List.getElem?_eq_none (by simpa using hj),List.getElem?_eq_none (by rw[Ro,<- jD.1];omega)]
   obtain⟨h2,g2,d2,t2,o2⟩:=s'
   have eg:g2=s1.gens:=m.gens
   have ed:d2=d':=m.drawn
   have eo:o2=s1.os:=m.os
   subst eg ed eo
   have q:=hQ h2 d2 t2 acc.toList (Nat.le_of_lt (Heap.lt_size GF)) (λb o e=>m.heap b o (λhb=>by
    simp only[List.mem_cons,List.not_mem_nil,or_false] at hb
    have kF:=Heap.lt_size e
    rcases hb with z|z
    ·rw[z] at kF;exact Nat.lt_irrefl _ kF
    ·rw[rG] at k4;rw[z] at kF;exact Nat.lt_irrefl _ (Nat.lt_of_lt_of_le kF (Nat.le_of_succ_le k4))) (zt b o (λz=>by
     have kF:=Heap.lt_size e
     rw[z] at kF;exact Nat.lt_irrefl _ kF) (k1 b o (yG b o e)))) (by rw[Qt];exact k5)
   rw[<- fI]
   exact q
end
end TS
namespace TS
open PySem PySem.Spec PyProof.Rows
section
variable {P:Program} {w:World} {A:Around} {E:Value->Shared->Prop} {s:Shared}
theorem IH {a:Addr} {u:Obj} {es:Array (Int×Value)} {ep:Nat} {t:SetTable} {Q:Value->Shared->Prop} (hh:A.handled=none) (hu:s.heap.get? a=some u) (hx:u.ExactSet) (hd:u.data=.set es ep t) (hf:t.fits es.size=true) (ht:gC (dX w) t) (zw:ElemsOf (intKind P w) es.toList) (TC:es.size<64)
  (h:∀(h':Heap) (d':Drawn) (tk:Nat) (p:Addr) (vs:List Value) (ns:List Int) (out:List Value) (ms:List Int) (e:Nat),(∀b o,s.heap.get? b=some o->h'.get? b=some o)->s.heap.objs.size<=p->vs.Perm (es.toList.map (·.2))->IntsAre vs ns->h'.get? p=some { cls:=.type "list",data:=.seq out.toArray e }->IntsAre out ms->ms.Perm ns->ms.Pairwise (·<=·)->Q (.ref p) { s with heap:=h',drawn:=d',toks:=tk }) :
  wpAny (model P w) A (call (.builtin "sorted") [.ref a]) Q E s:=by
 refine Calls.call_function_entry kind_sorted plain_sorted entry_sorted (args_sorted1 _) ?_
 unfold Builtin.«sorted»
 refine wpAny_bind (m:=checkCount "sorted" 1 1 _) (wpAny_pure ?_)
 refine wpAny_bind (Ia (by simp[hh]) hu hx hd hf ht (by unfold scanBound;omega) λh' d' tk vs k0 k1 k2=>?_)
 obtain⟨ns,hI⟩:=ints_of zw k2
 have hl:vs.length<64:=by have:=k2.length_eq;simp at this;omega
 refine wpAny_bind (wpAny_newList ?_)
 have qW:(h'.push (seqObj "list" vs.toArray 0)).get? h'.objs.size=some (seqObj "list" vs.toArray 0):=Heap.get?_push_size _ rfl
 refine wpAny_bind (wpAny_holding (wpAny_call_entry slot_list_sort ⟨_,qW,rfl⟩ entry_list_sort (list_sort_tree qW hI hl λout ms a1 a2 a3=>⟨_,rfl,?_⟩) (args_list_sort _)))
 obtain⟨e,he⟩:=sortedHeap_at (out:=out) qW
 refine wpAny_pure ⟨_,rfl,h _ d' tk h'.objs.size vs ns out.toList ms e (λb o hb=>?_) ?_ k2 hI (by simpa [seqObj] using he) a1 a2 a3⟩
 ·have eV:=k1 b o hb
  have bh:=Heap.lt_size eV
  rw[sortedHeap_old (Nat.ne_of_lt bh) (by rw[size_push'];exact Nat.lt_succ_of_lt bh)]
  exact Heap.get?_push_of_some _ eV
 ·exact k0
end
end TS
namespace L2
open PySem PySem.Spec PyProof.Rows
noncomputable def jE (P:Program) (w:World) (p:Addr) (ns:List Int):Heap->Prop:=λh=>∃(S:Int->Bool) (n:Nat),TS.fx P w (TS.dX w) h p S n/\(∀k,S k=true↔k∈ns)/\n<=ns.length/\n=(ns.foldl step_dedup []).length
section
variable {X:Cx}
theorem kT (l:List Int) (k:Int):(l.any (·==k))=true↔k∈l:=by
 rw[List.any_eq_true]
 exact⟨λ⟨x,h1,h2⟩=>by rw[<- beq_iff_eq.mp h2];exact h1,λh=>⟨k,h,by simp⟩⟩
theorem Mb {h:Heap} {p:Addr} {ns:List Int} {m:Nat} (hm:m=ns.length) (hS:TS.fx X.prog X.w (TS.dX X.w) h p (λk'=>(firstMet (λi=>ns.getD i 0) m).any (·==k')) (firstMet (λi=>ns.getD i 0) m).length):jE X.prog X.w p ns h:=by
 subst hm
 refine⟨_,_,hS,λk=>?_,firstMet_length_le _ _,?_⟩
 ·rw[firstMet_any,map_getD]
  exact kT ns k
 ·unfold firstMet
  rw[map_getD]
theorem Mc {H:Hp} {h:Heap} {p:Addr} {ns:List Int} (hx:jE X.prog X.w p ns h):dC X.prog X.w (upd H p (.ext (jE X.prog X.w p ns))) h p (.ext (jE X.prog X.w p ns)):=by
 refine⟨hx,?_,λh1 h2 q k=>?_⟩
 ·obtain⟨_,_,⟨o,_,_,_,ho,_⟩,_⟩:=hx
  exact⟨o,ho⟩
 ·obtain⟨S,n,T,r⟩:=q
  exact⟨S,n,T.at k,r⟩
theorem II (hc:X.calm=true):cF X (.type "set") (λxs H Q=>∃(a:Addr) (ns:List Int),xs=[.ref a]/\bL X.K H a (ns.map V.int)/\ns.length<4000/\∀p,H p=none->Q (.ref p) (upd H p (.ext (jE X.prog X.w p ns)))):=by
 intro pins s σ H xs us Q I r h
 obtain⟨a,ns,rfl,ha,hl,q⟩:=h
 obtain⟨u,rfl,ru⟩:=vals1 r
 cases ru
 obtain⟨its,rv,p,_⟩:=I.list ha
 have hn:its.toArray.size=ns.length:=by
  have e:=rv.length
  rw[List.length_map] at e
  simpa using e.symm
 refine TS.IF (its:=its.toArray) (ns:=ns) (I.ok.hd hc) p.isList (by simpa using intsAre_of rv) (by rw[hn];show ns.length+1<4096;omega) λh' tk hS hk=>?_
 exact⟨.ref _,_,I.laid (t':=tk) (λb o e=>hk b o (Heap.lt_size e) e) (Nat.le_refl _) (Mc (Mb hn hS)),rfl,q _ (I.aJ.fresh (Nat.le_refl _))⟩
theorem A4:∀{out:List Value} {ms:List Int},IntsAre out ms->Vals (ms.map V.int) out
 |_,_,.nil=>.nil
 |_,_,.cons n t h=>.cons ⟨t,rfl⟩ (A4 h)
theorem Bo:∀(ns acc:List Int),acc.Nodup->(ns.foldl step_dedup acc).Nodup
 | [],acc,h=>h
 |n::ns,acc,h=>by
  refine Bo ns _ ?_
  unfold step_dedup
  split
  ·exact h
  ·rename_i hn
   rw[Bool.not_eq_true] at hn
   refine List.nodup_append.mpr ⟨h,by simp,λa ha b hb=>?_⟩
   have:b=n:=by simpa using hb
   subst this
   intro e
   subst e
   rw[(kT acc a).mpr ha] at hn
   cases hn
theorem CJ:∀{vs:List Value} {ns:List Int},IntsAre vs ns->∀k,k∈ns↔∃t,Value.int k t∈vs
 |_,_,.nil,k=>by simp
 |_,_,.cons n t h,k=>by
  rw[List.mem_cons,CJ h k]
  constructor
  ·rintro (e | ⟨t',h'⟩)
   ·subst e;exact⟨t,List.mem_cons_self⟩
   ·exact⟨t',List.mem_cons_of_mem _ h'⟩
  ·rintro ⟨t',h'⟩
   rcases List.mem_cons.mp h' with e|h'
   ·injection e with e _;exact .inl e
   ·exact .inr ⟨t',h'⟩
theorem sub_len:∀{m l:List Int},m.Nodup->(∀k,k∈m->k∈l)->m.length<=l.length
 | [],l,_,_=>Nat.zero_le _
 |x::m,l,h,hk=>by
  obtain⟨h1,h2⟩:=List.nodup_cons.mp h
  have hx:=hk x List.mem_cons_self
  have ih:=sub_len (m:=m) (l:=l.erase x) h2 λk hm=>(List.mem_erase_of_ne (λ(e:k=x)=>h1 (by rw[<- e];exact hm))).mpr (hk k (List.mem_cons_of_mem _ hm))
  rw[List.length_erase_of_mem hx] at ih
  have:=List.length_pos_of_mem hx
  rw[List.length_cons]
  omega
theorem A5:∀{l m:List Int},m.Nodup->(∀k,k∈m↔k∈l)->l.length<=m.length->l.Nodup
 | [],m,_,_,_=>List.nodup_nil
 |a::r,m,hm,hk,hl=>by
  have ha:a∉r:=λh=>by
   have:=sub_len hm λk h'=>(List.mem_cons.mp ((hk k).mp h')).elim (λe=>e ▸ h) id
   rw[List.length_cons] at hl
   omega
  have Rp:a∈m:=(hk a).mpr List.mem_cons_self
  refine List.nodup_cons.mpr ⟨ha,A5 (m:=m.erase a) (hm.erase a) (λk=>?_) ?_⟩
  ·rw[hm.mem_erase_iff,hk k,List.mem_cons]
   constructor
   ·rintro ⟨h1,h2|h2⟩
    ·exact absurd h2 h1
    ·exact h2
   ·intro h
    exact⟨λe=>ha (e ▸ h),.inr h⟩
  ·rw[List.length_erase_of_mem Rp]
   rw[List.length_cons] at hl
   omega
theorem HC (hc:X.calm=true):cF X (.builtin "sorted") (λxs H Q=>∃(p:Addr) (ns:List Int),xs=[.ref p]/\H p=some (.ext (jE X.prog X.w p ns))/\ns.length<64 /\
  ∀(l:Addr) (ms:List Int),H l=none->ms.Pairwise (· < ·)->(∀k,k∈ms↔k∈ns)->Q (.ref l) (upd H l (.lst (ms.map V.int)))):=by
 intro pins s σ H xs us Q I r h
 obtain⟨p,ns,rfl,hp,hl,q⟩:=h
 obtain⟨v,rfl,rv⟩:=vals1 r
 cases rv
 obtain⟨⟨S,n,⟨u,es,ep,t,hu,hx,hd,zw,Qu,hb,hf,hn,ht⟩,hS,zx,Rq⟩,_⟩:=I.aJ p _ hp
 refine TS.IH (I.ok.hd hc) hu hx hd hf ht zw (by omega) λh' d' tk l vs ks out ms e k1 k2 k3 k4 k5 k6 k7 k8=>?_
 have E9:∀k,k∈ms↔k∈ns:=λk=>by
  rw[k7.mem_iff,CJ k4 k,<- hS k,Qu k]
  constructor
  ·rintro ⟨t',Rr⟩
   obtain⟨x,kG,jO⟩:=List.mem_map.mp (k3.mem_iff.mp Rr)
   exact⟨x,kG,by rw[jO];exact intKind_is _ _ _ _⟩
  ·rintro ⟨x,kG,jO⟩
   obtain⟨i,t',e'⟩:∃i t',x.2=.int i t':=by
    cases hv:x.2 with
    |int i t'=>exact⟨i,t',rfl⟩
    |_=>rw[hv] at jO;simp[intKind,Value.isInt] at jO
   have ng:k=i:=(intKind X.prog X.w).inj (.int i t') k i (by rw[<- e'];exact jO) (intKind_is _ _ _ _)
   subst ng
   exact⟨t',k3.mem_iff.mpr (List.mem_map.mpr ⟨x,kG,e'⟩)⟩
 have Qv:ms.Nodup:=by
  have nh:=Bo ns [] List.nodup_nil
  refine A5 nh (λk=>?_) ?_
  ·rw[E9 k,<- kT,<- kT]
   have:=firstMet_any (λi=>ns.getD i 0) ns.length k
   unfold firstMet at this
   rw[map_getD] at this
   rw[this]
  ·rw[<- Rq,<- hn]
   have e1:=k7.length_eq
   have e2:=k4.length
   have e3:=k3.length_eq
   simp at e3
   omega
 have bh:ms.Pairwise (· < ·):=by
  have:=List.pairwise_and_iff.mpr ⟨k8,Qv⟩
  exact this.imp λ⟨a,b⟩=>by omega
 have J:=I.laid (t':=tk) (a:=l) (o:=.lst (ms.map V.int)) k1 k2 ⟨by
  rw[List.length_map,sizeLine_eq]
  have e1:=k7.length_eq
  have e2:=k4.length
  have e3:=k3.length_eq
  simp at e3
  omega,out,e,A4 k6,k5⟩
 exact⟨.ref l,_,J.xR (s':={ s with heap:=h',drawn:=d',toks:=tk }) (ch:=[]) rfl Un.refl J.aJ J.bare (λb hb=>by cases hb),rfl,q l ms (I.aJ.fresh k2) bh E9⟩
end
end L2
namespace L2
open PySem PySem.Spec PyProof.Rows
section
variable {X:Cx}
end
end L2
namespace L2
open PySem PySem.Spec PyProof.Rows
mutual
noncomputable def vc:PyData->Bool
 | .tuple ds=>uF ds
 | .list _=>false
 |_=>true
noncomputable def uF:List PyData->Bool
 | []=>true
 |d::ds=>vc d&&uF ds
end
section
variable {X:Cx} {pins:List (Addr×Obj)} {σ:St} {H:Hp} {s:Shared} {Z:Addr->Prop}
mutual
theorem DV.tV (I:Inv X pins σ H s):∀{d:PyData} {v:V} {u:Value},DV X.K Z H d v->RelV v u->vc d=true->∃as,Reads s.heap u d as/\sysModules∉as
 | .none,v,u,h,r,_=>by
  have e:v=.aB:=h
  subst e;cases r
  exact⟨[],.none,by simp⟩
 | .bool b,v,u,h,r,_=>by
  have e:v=.bl b:=h
  subst e;cases r
  exact⟨[],.bool b,by simp⟩
 | .int i,v,u,h,r,_=>by
  have e:v=.int i:=h
  subst e;obtain⟨t,rfl⟩:=r
  exact⟨[],.int i t,by simp⟩
 | .str x,v,u,h,r,_=>by
  have e:v=.str x:=h
  subst e;obtain⟨t,rfl⟩:=r
  exact⟨[],.str x t,by simp⟩
 | .tuple ds,v,u,h,r,hn=>by
  simp only[DV] at h
  obtain⟨a,xs,e,hq,hr⟩:=h
  subst e;cases r
  obtain⟨its,rv,⟨o,e,c,n,hd⟩,_⟩:=I.tuple hq
  obtain⟨as,rs,hs⟩:=aq.tV I hr rv (by simpa only [vc] using hn)
  exact⟨as,.tuple e c hd (by simpa using rs),hs⟩
 | .list ds,v,u,h,r,hn=>by
  simp only[vc] at hn
  cases hn
 | .dict ao,v,u,h,r,_=>by
  simp only[DV] at h
  obtain⟨a,es,e,_,hq,l,e1,e2⟩:=h
  subst e e1 e2;cases r
  obtain⟨_,Qw,vs,kv,o,fH,ep,g1,g2,g3,_,g5,_⟩:=(show dC X.prog X.w H s.heap a (.dK _) from I.aJ a _ hq)
  obtain⟨r1,r2⟩:=vI (h:=s.heap) kv g5
  refine⟨a::[]++[],.dict g1 g2.1 g3 r1 r2,λhm=>?_⟩
  have e:sysModules=a:=by simpa using hm
  subst e
  simp at Qw
theorem aq.tV (I:Inv X pins σ H s):∀{ds:List PyData} {vs:List V} {us:List Value},aq X.K Z H ds vs->Vals vs us->uF ds=true->∃as,ReadsAll s.heap us ds as/\sysModules∉as
 | [],vs,us,h,r,_=>by
  have e:vs=[]:=h
  subst e;cases r
  exact⟨[],.nil,by simp⟩
 |d::ds,vs,us,h,r,hn=>by
  obtain⟨v,rr,e,h1,h2⟩:=h
  subst e
  simp only[uF,Bool.and_eq_true] at hn
  cases r with
  |cons ru rt =>
   obtain⟨as,a1,n1⟩:=DV.tV I h1 ru hn.1
   obtain⟨bs,a2,n2⟩:=aq.tV I h2 rt hn.2
   refine⟨as++bs,.cons a1 a2,λhm=>?_⟩
   rcases List.mem_append.mp hm with z|z
   ·exact n1 z
   ·exact n2 z
end
end
section
variable {X:Cx}
end
end L2
namespace HZ
open PySem PySem.Spec PyProof.Rows
open AutoSeq1 (wpAny_loadPart')
section
variable {P:Program} {w:World} {A:Around} {E:Value->Shared->Prop} {s:Shared}
end
end HZ
namespace L2
open PySem PySem.Spec PyProof.Rows
section
variable {X:Cx} {elts:List Expr} {kk:Nat} {tp:Pos}
end
end L2
namespace L2
open PySem PySem.Spec PyProof.Rows
section
variable {K:Frag} {caps:St} {H:Hp} {tf:TT} {te:TE} {Q:VK}
end
end L2
namespace HZ
open PySem PySem.Spec PyProof.Rows
theorem G9:fillsNumberSlot (.type "tuple") "mul"=pure false:=by
 first|rfl | (unfold fillsNumberSlot;kernel_rfl)|kernel_rfl
theorem HD:seqRepeat? (.type "tuple")=pure (some (.builtin "tuple.__mul__")):=by
 first|rfl|kernel_rfl
theorem IJ (a:Int) (t:Tok) (l:Addr) (items:Array Value) (n:Nat) (d:Option Addr) (sl:Array (Option Value)) :
  Meets (Builtin.«int.__rmul__» ⟨[.int a t,.ref l],[]⟩) (λ_ R s=>s.heap.get? l=some { cls:=.type "tuple",dict:=d,data:=.seq items n,slots:=sl }/\R (.ok (.ret Value.notImplemented)) s) :=
 .of_wp λprog w A R s h=>by
  obtain⟨h1,h2,h3,h4,h5⟩:=s;obtain⟨hl,h⟩:=h;wp_walk;exact⟨_,rfl,h⟩
section
variable {P:Program} {w:World} {A:Around} {E:Value->Shared->Prop} {s:Shared}
theorem Md {t:Addr} {vs:List Value} {k:Int} {tk:Tok} {Q:Value->Shared->Prop} (ht:IsTup s.heap t vs.toArray) (hv:vs≠[]) (hk:1<=k) (hz:vs.length*k.toNat<=sizeLine)
  (h1:k=1->Q (.ref t) s) (h2:k≠1->Q (.ref s.heap.objs.size) { s with heap:=s.heap.push { cls:=.type "tuple",data:=.seq (List.replicate k.toNat vs).flatten.toArray } }) :
  wpAny (model P w) A (binaryOp .Mult (.ref t) (.int k tk)) Q E s:=by
 obtain⟨⟨cls,dd,data,sl⟩,ho,hc,n,hd⟩:=id ht
 simp only at hc hd
 subst hc hd
 have lO:k<=16777216:=by
  have hl:1<=vs.length:=by
   cases vs with
   |nil=>exact absurd rfl hv
   |cons a r=>simp
  have jN:vs.length*k.toNat<=16777216:=by rw[<- sizeLine_eq];exact hz
  have:1*k.toNat<=vs.length*k.toNat:=Nat.mul_le_mul_right _ hl
  omega
 refine wpAny_binaryOp_repeat_ref (T:="tuple") (U:="int") (by decide) ⟨_,ho,rfl⟩ (λs'=>typeIs_int s' k tk) G9 F.fills_int_mul F.slot_int_rmul HD F.slot_int_index.lookup
  (call_meets F.slot_int_rmul (typeIs_int s k tk) F.entry_int_rmul (F.args_int_rmul_2 _ _) (IJ k tk t vs.toArray n dd sl) ⟨ho,rfl,⟨_,ho,rfl⟩,?_⟩)
 refine wpAny_call_entry F.slot_tuple_mul ⟨_,ho,rfl⟩ F.entry_tuple_mul ?_ (F.args_tuple_mul_2 _ _)
 show wpAny _ _ (asIndex (.int k tk) >>= _) _ _ _
 refine wpAny_bind ?_
 refine wpAny_of_eq (a:=k) (by first|rfl | (unfold asIndex;rfl)) ?_
 dsimp only
 rw[if_neg (by simp;omega)]
 unfold Builtin.Tuple.tupleItemsOf
 refine wpAny_bind (wpAny_bind (wpAny_seqItems ho rfl ?_))
 refine wpAny_pure ?_
 have ne:vs.toArray.isEmpty=false:=by
  cases vs with
  |nil=>exact absurd rfl hv
  |cons a r=>simp
 by_cases h:k=1
 ·rw[if_pos (by rw[h];simp)]
  unfold Builtin.Tuple.tupleIsExact
  refine wpAny_bind (wpAny_bind (wpAny_typeOf (T:="tuple") ⟨_,ho,rfl⟩ (wpAny_pure ?_)))
  rw[if_pos (by decide)]
  exact wpAny_bind (wpAny_rule (wpAny_pure ⟨_,rfl,h1 h⟩))
 ·rw[if_neg (by rw[ne];simp[h])]
  rw[if_neg (by rw[ne];simp;omega)]
  have hm:(vs.toArray.size:Int)*k=((vs.length*k.toNat:Nat):Int):=by
   rw[List.size_toArray,Int.natCast_mul]
   congr 1
   omega
  have zy:vs.length*k.toNat<=16777216:=by rw[<- sizeLine_eq];exact hz
  rw[if_neg (by rw[hm];omega)]
  rw[if_neg (by
   unfold Builtin.Tuple.tupleTooMany
   rw[hm,sizeLine_eq,decide_eq_true_eq]
   generalize vs.length*k.toNat=q at zy
   omega)]
  unfold Builtin.Tuple.tupleExact
  have e:List.foldl (λx1 x2=>x1++x2) #[] (List.replicate k.toNat vs.toArray)=(List.replicate k.toNat vs).flatten.toArray:=by
   have:=L2.foldl_rep vs k.toNat []
   rw[List.nil_append] at this
   exact this
  rw[e]
  refine wpAny_bind (wpAny_newObj_type ?_ (by
   show (List.toArray _).size<=sizeLine
   rw[List.size_toArray,L2.len_rep,Nat.mul_comm]
   exact hz))
  exact wpAny_pure ⟨_,rfl,h2 h⟩
end
end HZ
namespace L2
open PySem PySem.Spec PyProof.Rows
section
variable {X:Cx}
noncomputable def O5 (K:Frag):R2:=λx y H Q=>∃a xs k,x=.ref a/\y=.int k/\aR K H a xs/\xs≠[]/\1<=k/\xs.length*k.toNat<=sizeLine/\ku K H (List.replicate k.toNat xs).flatten Q
theorem Me:bg X (binaryOp .Mult) (O5 X.K):=by
 intro pins s σ H x y v u Q I rx ry h
 obtain⟨a,xs,k,rfl,rfl,hs,hx,hk,hz,q⟩:=h
 cases rx
 obtain⟨t,rfl⟩:=ry
 obtain⟨its,r,p,z⟩:=I.tuple hs
 have hl:=r.length
 refine HZ.Md p (λe=>hx (by rw[e] at hl;exact List.length_eq_zero_iff.mp hl)) hk (by rw[<- hl];exact hz) (λe=>?_) (λ_=>?_)
 ·have e1:(List.replicate k.toNat xs).flatten=xs:=by rw[e];simp
  rw[e1] at q
  exact⟨.ref a,H,I,rfl,q.here hs⟩
 ·have jN:(List.replicate k.toNat xs).flatten.length<=sizeLine:=by rw[len_rep,Nat.mul_comm];exact hz
  exact⟨.ref _,_,I.laid (t':=s.toks) (o:=.tup (List.replicate k.toNat xs).flatten) (λb o e=>Heap.get?_push_of_some _ e) (Nat.le_refl _) ⟨jN,_,r.rep k.toNat,⟨_,Heap.get?_push_size _ rfl,rfl,_,rfl⟩⟩,rfl,q.new (I.aJ.fresh (Nat.le_refl _))⟩
end
end L2
namespace HZ
open PySem PySem.Spec PyProof.Rows
theorem Dv:mroOf (.type "reversed")=pure [.type "reversed",.type "object"]:=by rw[mroOf_type];kernel_rfl
theorem Hj:typeLookup (.type "reversed") "__new__"=pure (some (.builtin "reversed.__new__")):=by rw[typeLookup_type,builtinLookup_eq_fast];kernel_rfl
theorem KO:Bind.madeBy (.type "reversed")=pure (some "reversed.__new__"):=madeBy_type Dv Hj (by decide +kernel)
theorem Hs:entryFor table "reversed.__new__"=some Builtin.«reversed.__new__»:=entryFor_of_tree (by kernel_rfl)
theorem Ht:plainId "reversed.__new__"=true:=by decide +kernel
theorem HE (a:Value):checkTypeCall "reversed" ⟨[a],[]⟩=pure ():=by kernel_rfl
theorem Ib (a:Value):checkBuiltinCall "reversed.__new__" ⟨[.type "reversed",a],[]⟩=pure ():=by kernel_rfl
theorem Mf:isSubtype (.type "reversed") (.type "reversed")=pure true:=by rw[isSubtype_type];kernel_rfl
theorem IK:isSubtype (.type "range_iterator") (.type "reversed")=pure false:=by rw[isSubtype_type];kernel_rfl
theorem HF:(Value.type "reversed"==Value.type "type")=false:=by decide +kernel
theorem Mg:((Manifest.find? "reversed").bind (·.mro.findSome? λt=>(Manifest.find? t).bind λb=>if b.noNew then some true else if b.attrs.any (·.1=="__new__") then some false else none)).getD false=false:=by decide +kernel
section
variable {P:Program} {w:World} {A:Around} {E:Value->Shared->Prop} {s:Shared}
theorem HG {r:Addr} {a b c:Int} {t1 t2 t3:Tok} {Q:Int×Int×Int->Shared->Prop} (hr:s.heap.get? r=some { cls:=.type "range",data:=.fields #[.int a t1,.int b t2,.int c t3] }) (h:Q (a,b,c) s):wpAny (model P w) A (Builtin.Range.rangeFields (.ref r)) Q E s:=by
 unfold Builtin.Range.rangeFields
 refine wpAny_bind (wpAny_field hr rfl (x:=.int a t1) rfl ?_)
 refine wpAny_bind (wpAny_of_eq (a:=some a) (by rfl) ?_)
 refine wpAny_bind (wpAny_field hr rfl (x:=.int b t2) rfl ?_)
 refine wpAny_bind (wpAny_of_eq (a:=some b) (by rfl) ?_)
 refine wpAny_bind (wpAny_field hr rfl (x:=.int c t3) rfl ?_)
 refine wpAny_bind (wpAny_of_eq (a:=some c) (by rfl) ?_)
 exact wpAny_pure h
theorem Mh {r:Addr} {n:Nat} {t1 t2 t3:Tok} {Q:Value->Shared->Prop} (hr:s.heap.get? r=some { cls:=.type "range",data:=.fields #[.int 0 t1,.int n t2,.int 1 t3] }) (hn:n<2 ^ 62)
  (h:Q (.ref s.heap.objs.size) { s with heap:=s.heap.push { cls:=.type "range_iterator",data:=.fields #[rawInt (n-1),rawInt n,rawInt (-1)] } }) :
  wpAny (model P w) A (Builtin.«reversed.__new__» ⟨[.type "reversed",.ref r],[]⟩) (λfin s'=>∃v,fin=.done (.ret v)/\Q v s') E s:=by
 have hT:s.TypeIs (.ref r) "range":=⟨_,hr,rfl⟩
 have ss:=Mf
 unfold Builtin.«reversed.__new__» Builtin.SmallTypes.newClass Builtin.SmallTypes.refuseKeywords
 have l1:=F.slot_range_reversed.lookup
 have l2:=F.slot_range_reversed.bind (.ref r)
 wp_walk
 refine codeAny_mono (codeAny_call_builtin (R:=wants (λv s'=>v=.ref s.heap.objs.size/\s'={ s with heap:=s.heap.push { cls:=.type "range_iterator",data:=.fields #[rawInt (n-1),rawInt n,rawInt (-1)] } }) E) F.slot_range_reversed.plain F.entry_range_reversed (F.slot_range_reversed.check _ _ _ _ _ _ _ _ hT (F.args_range_reversed_1 _) ?_)) λr2 s2 hq=>?_
 ·unfold Builtin.«range.__reversed__»
  refine wpAny_bind (wpAny_of_eq (a:=.ref r) (by rfl) ?_)
  refine wpAny_bind (HG hr ?_)
  dsimp only
  have sz:Builtin.Range.rangeSize 0 n 1=n:=by
   unfold Builtin.Range.rangeSize
   rw[if_pos (by decide)]
   split<;>omega
  rw[sz]
  have fl:(Builtin.Range.rangeFitsLong 0&&Builtin.Range.rangeFitsLong n&&Builtin.Range.rangeFitsLong 1&&Builtin.Range.rangeFitsLong (-1)&&Builtin.Range.rangeFitsLong (0-1)&&Builtin.Range.rangeFitsLong n)=true:=by
   have Gh:(n:Int)<2 ^ 62:=by omega
   unfold Builtin.Range.rangeFitsLong
   simp only[Bool.and_eq_true,decide_eq_true_eq]
   refine⟨⟨⟨⟨⟨⟨by decide,by decide⟩,by omega,by omega⟩,by decide,by decide⟩,by decide,by decide⟩,by decide,by decide⟩,by omega,by omega⟩
  rw[fl]
  rw[if_neg (by decide)]
  refine wpAny_bind (wpAny_newObj_type ?_)
  refine wpAny_pure ?_
  refine⟨rfl,?_⟩
  have e:(0:Int)+((n:Int)-1)*1=n-1:=by omega
  simp[rawInt]
 ·cases r2 with
  |error e=>exact hq
  |ok fl =>
   cases fl with
   |ret v =>
    obtain⟨rfl,rfl⟩:=hq
    exact wpAny_pure ⟨_,rfl,h⟩
   |_=>exact hq
theorem KP {r:Addr} {n:Nat} {t1 t2 t3:Tok} {Q:Value->Shared->Prop} (hr:s.heap.get? r=some { cls:=.type "range",data:=.fields #[.int 0 t1,.int n t2,.int 1 t3] }) (hn:n<2 ^ 62)
  (h:Q (.ref s.heap.objs.size) { s with heap:=s.heap.push { cls:=.type "range_iterator",data:=.fields #[rawInt (n-1),rawInt n,rawInt (-1)] } }):wpAny (model P w) A (call (.type "reversed") [.ref r]) Q E s:=by
 have m1:=Dv
 have m2:=KO
 have m3:=IK
 have m4:=HF
 have m5:=Mg
 have m6:=HE (.ref r)
 refine wpAny_call (codeAny_of_tree ?_)
 show wpAny _ _ (callAny (.type "reversed") _) _ _ _
 refine wpAny_pure ⟨Code.quiet_builtin _ (by decide +kernel),codeAny_builtin F.entry_type_call ?_⟩
 rw[Around.under_plain (weight_type_call_type "reversed" [.ref r] []) rfl]
 repeat (any_goals (first|assumption|wp_step))
 refine codeAny_mono (codeAny_call_builtin (R:=wants (λv s'=>v=.ref s.heap.objs.size/\s'={ s with heap:=s.heap.push { cls:=.type "range_iterator",data:=.fields #[rawInt (n-1),rawInt n,rawInt (-1)] } }) E) Ht Hs (wpAny_of_eq (Ib _) ?_)) λr2 s2 hq=>?_
 ·refine wpAny_mono (Mh (Q:=λv s'=>v=.ref s.heap.objs.size/\s'={ s with heap:=s.heap.push { cls:=.type "range_iterator",data:=.fields #[rawInt (n-1),rawInt n,rawInt (-1)] } }) hr hn ⟨rfl,rfl⟩) (λf s' hf=>?_) λ_ _ e=>e
  obtain⟨v,rfl,hv⟩:=hf
  exact hv
 ·cases r2 with
  |error e=>exact hq
  |ok fl =>
   cases fl with
   |ret v =>
    obtain⟨rfl,rfl⟩:=hq
    have hT:Shared.TypeIs { s with heap:=s.heap.push { cls:=.type "range_iterator",data:=.fields #[rawInt (n-1),rawInt n,rawInt (-1)] } } (.ref s.heap.objs.size) "range_iterator":=⟨_,Heap.get?_push_size _ rfl,rfl⟩
    repeat (any_goals (first|assumption|wp_step))
   |_=>exact hq.elim
end
end HZ
namespace L2
open PySem PySem.Spec PyProof.Rows
noncomputable def uG (n:Nat):It:=⟨λi _=>i<n,λi H x H'=>H'=H/\x=.int ((n:Int)-1-i),λi _=>n<=i⟩
theorem CK {P:Program} {w:World} {K:Frag} {tg:Expr} (it:Addr) (n:Nat):Turn P w K tg (uG n) [it] it (λi h=>IsRangeIter h it (((n:Int)-1)+(i:Nat)*(-1)) ((n:Int)-(i:Nat)) (-1)) where
 mem:=by simp
 obj:=λi h st b hb=>by
  have e:b=it:=by simpa using hb
  subst e
  exact⟨_,st,λv z=>by
   have z':Data.fields _=Data.cell v:=z
   cases z'⟩
 keep:=λi h h' st k=>k it (by simp) _ st
 item:=by
  intro X hP hw hK hc i pins s σ H E I hf st hg
  subst hP hw hK
  obtain⟨f0,f1,f2,f3,f4,f5⟩:=hf it (by simp)
  have W:=Walks.range (prog:=X.prog) (w:=X.w) (I.ok.hd hc) it ((n:Int)-1) (-1) n
  refine W.item i s _ _ hg st λv h' tk hv cX kk=>?_
  obtain⟨t,rfl⟩:=hv
  have I1:Inv X pins σ H { s with heap:=h',toks:=tk }:=I.turned (λb o hb e=>kk b o (by simpa using hb) e) f0 f1 f3 f4 f5
  refine⟨_,rfl,my (s:={ s with heap:=h',toks:=tk }) (n:="range_iterator") cX rfl rfl (by decide) ⟨.int ((n:Int)-1-i),H,I1,⟨t,?_⟩,⟨rfl,rfl⟩,cX,λb hb=>(hf b hb).1⟩⟩
  rw[Int.mul_neg_one]
  rfl
 done:=by
  intro X hP hw hK hc i pins s σ H E I hf st hg
  subst hP hw hK
  obtain⟨f0,f1,f2,f3,f4,f5⟩:=hf it (by simp)
  exact wpAny_pyNext_range_end (I.ok.hd hc) st (by have:n<=i:=hg;omega) λh' eb=>⟨rfl,I.turned (t':=s.toks) (λb o hb e=>eb b o hb e) f0 f1 f3 f4 f5⟩
 self:=λ_ _ _ _ _ st h=>wpAny_pyIter_rangeiter st h
section
variable {X:Cx} {tg:Expr}
theorem KQ:bootBuiltins "reversed"=some (.type "reversed"):=by decide +kernel
theorem Ic:cF X (.type "range") (λxs H Q=>∃j:Int,xs=[.int j]/\∀p,H p=none->Q (.ref p) (upd H p (.bR 0 j))):=by
 intro pins s σ H xs us Q I r h
 obtain⟨j,rfl,q⟩:=h
 obtain⟨u,rfl,ru⟩:=vals1 r
 obtain⟨t,rfl⟩:=ru
 exact call_range_1 ⟨.ref _,_,I.laid (o:=.bR 0 j) (t':=s.toks+1+1) (λb o e=>Heap.get?_push_of_some _ e) (Nat.le_refl _) ⟨_,_,_,Heap.get?_push_size _ rfl⟩,rfl,q _ (I.aJ.fresh (Nat.le_refl _))⟩
noncomputable def Qx (ta:TA):TI:=fun σ H R=>ta σ H λvs H1=>∃(p:Addr) (n:Nat),vs=[.ref p]/\H1 p=some (.bR 0 n)/\n<2 ^ 62/\R (uG n) H1
theorem NJ {a:Expr} {ta:TA} {p pos:Pos} (hg:Gl X "reversed") (hm:X.mg "reversed"=none) (ha:PA X [a] ta) (hs:starEach [a] X.env=[(false,eval a X.env)]:=by rfl):PI X tg (.Call (.Name "reversed" p) [a] [] pos) (Qx ta):=by
 intro pins s σ H R I h
 refine Call_ (kY I hg hm KQ (PyProof.Rows.callWith_type1 (aK (ha pos pins s σ H _ I h) λus s1 ⟨vs,H1,I1,r1,q1⟩=>?_) hs rfl))
 obtain⟨c,n,e,hx,hn,q⟩:=q1
 subst e
 obtain⟨u,rfl,ru⟩:=vals1 r1
 cases ru
 obtain⟨t1,t2,t3,hr⟩:=I1.aJ c _ hx
 refine HZ.KP hr hn ?_
 have st:IsRangeIter (s1.heap.push { cls:=.type "range_iterator",data:=.fields #[rawInt ((n:Int)-1),rawInt n,rawInt (-1)] }) s1.heap.objs.size (((n:Int)-1)+((0:Nat):Int)*(-1)) ((n:Int)-((0:Nat):Int)) (-1):=by
  have e1:((n:Int)-1)+((0:Nat):Int)*(-1)=n-1:=by simp
  have e2:(n:Int)-((0:Nat):Int)=n:=by simp
  rw[e1,e2]
  exact Heap.get?_push_size _ rfl
 refine wpAny_pyIter_rangeiter (s:={ s1 with heap:=_ }) st ?_
 refine⟨s1.heap.objs.size,[s1.heap.objs.size],_,_,H1,rfl,I1.kept (t':=s1.toks) λb o e=>Heap.get?_push_of_some _ e,CK _ n,st,λb hb=>?_,q⟩
 have e:b=s1.heap.objs.size:=by simpa using hb
 subst e
 exact I1.oJ (Nat.le_refl _) (I1.aJ.fresh (Nat.le_refl _))
end
end L2
namespace HZ
open PySem PySem.Spec PyProof.Rows
section
variable {P:Program} {w:World} {A:Around} {R:Result->Shared->Prop} {I:Addr} {fp wr:List Addr} {n:Nat} {Pv:Nat->Value->Prop} {St:Nat->Heap->Prop} {kw:List (Str×Value)}
end
end HZ
namespace HZ
open PySem PySem.Spec PyProof.Rows
section
variable {P:Program} {w:World} {A:Around} {E:Value->Shared->Prop} {s:Shared}
end
end HZ
namespace L2
open PySem PySem.Spec PyProof.Rows
section
variable {X:Cx} {p pos kp:Pos} {e d:Expr} {ta tk:TA}
end
end L2
namespace DI
open PySem L2
set_option genInjectivity true in
inductive D where
 |aB|bl (b:Bool)|int (i:Int)|str (x:Str)|tup (ds:List D)|lst (ds:List D)|bC (ao:List (Key×Int))|aj (k:Nat)|ty (n:String)|bF (ns:List Int)
set_option genInjectivity true in
inductive Cell where
 |dead|lst (ds:List D)|dK (ao:List (Key×D))|dT (ao:List (D×Int))
noncomputable abbrev ae:=List Cell
noncomputable abbrev Env:=List (Option D)
structure bq where
 c:Str
 many:Option D
noncomputable abbrev Res (α:Type):=Option (Except bq α×ae)
noncomputable abbrev ok {α:Type} (a:α) (s:ae):Res α:=some (.ok a,s)
noncomputable def ar {α β:Type} (r:Res α) (k:α->ae->Res β):Res β:=match r with
 |some (.ok a,s)=>k a s
 |some (.error x,s)=>some (.error x,s)
 |none=>none
@[simp] theorem eM {α β:Type} {a:α} {s:ae} {k:α->ae->Res β}:ar (some (.ok a,s)) k=k a s:=rfl
structure Wd where
 ρ:List Addr
 aI:ae
 H:Hp
def Wd.Z (w:Wd) (a:Addr):Prop:=∃(k:Nat) (c:Cell),w.ρ[k]?=some a/\w.aI[k]?=some c/\c≠.dead
def LstAt (w:Wd) (a:Addr) (xs:List V):Prop:=¬ w.Z a/\w.H a=some (.lst xs)
theorem LstAt.sq {K:Frag} {w:Wd} {a:Addr} {xs:List V} (h:LstAt w a xs):bL K w.H a xs:=bL.of h.2
def qo (K:Frag) (w:Wd) (a:Addr) (xs:List V):Prop:=(¬ w.Z a/\Rd w.H a (.lst xs)) \/
 ∃(o:Obj) (its:Array Value) (n:Nat),K.lookup a=some o/\o.cls=.type "list"/\o.dict=none/\o.data=.seq its n/\its.size<=sizeLine/\Vals xs its.toList
theorem qo.sq {K:Frag} {w:Wd} {a:Addr} {xs:List V} (h:qo K w a xs):bL K w.H a xs:=by
 rcases h with ⟨_,h⟩|h
 ·exact .inl h
 ·exact .inr h
mutual
noncomputable def DV (K:Frag) (w:Wd):D->V->Prop
 | .aB,v=>v=.aB
 | .bl b,v=>v=.bl b
 | .int i,v=>v=.int i
 | .str x,v=>v=.str x
 | .tup ds,v=>∃a xs,v=.ref a/\aR K w.H a xs/\aq K w ds xs
 | .lst ds,v=>∃a xs,v=.ref a/\LstAt w a xs/\aq K w ds xs
 | .bC ao,v=>∃a,v=.ref a/\¬ w.Z a/\w.H a=some (.dK (ao.map λp=>(p.1,V.int p.2)))
 | .aj k,v=>∃a,w.ρ[k]?=some a/\v=.ref a
 | .ty n,v=>v=.ty n
 | .bF ns,v=>∃a,v=.ref a/\qo K w a (ns.map V.int)
noncomputable def aq (K:Frag) (w:Wd):List D->List V->Prop
 | [],vs=>vs=[]
 |d::ds,vs=>∃v r,vs=v::r/\DV K w d v/\aq K w ds r
end
structure Fw (K:Frag) (w w':Wd):Prop where
 zz:∀(k:Nat) a,w.ρ[k]?=some a->w'.ρ[k]?=some a
 tup:∀a xs,aR K w.H a xs->aR K w'.H a xs
 lst:∀a xs,¬ w.Z a->w.H a=some (.lst xs)->¬ w'.Z a/\w'.H a=some (.lst xs)
 cH:∀a o xs,¬ w.Z a->w.H a=some (.cH o (.lst xs))->¬ w'.Z a/\w'.H a=some (.cH o (.lst xs))
 bC:∀a es,¬ w.Z a->w.H a=some (.dK es)->¬ w'.Z a/\w'.H a=some (.dK es)
theorem Fw.Fb {K:Frag} {w w':Wd} (S:Fw K w w') {a:Addr} {xs:List V} (h:LstAt w a xs):LstAt w' a xs:=S.lst a xs h.1 h.2
theorem Fw.O6 {K:Frag} {w w':Wd} (S:Fw K w w') {a:Addr} {xs:List V} (h:qo K w a xs):qo K w' a xs:=by
 rcases h with ⟨h1,h2 | ⟨o,h2⟩⟩|h
 ·have q:=S.lst a xs h1 h2
  exact .inl ⟨q.1,.inl q.2⟩
 ·have q:=S.cH a o xs h1 h2
  exact .inl ⟨q.1,.inr ⟨o,q.2⟩⟩
 ·exact .inr h
mutual
theorem DV.fw {K:Frag} {w w':Wd} (S:Fw K w w'):∀{d:D} {v:V},DV K w d v->DV K w' d v
 | .aB,_,h=>h
 | .bl _,_,h=>h
 | .int _,_,h=>h
 | .str _,_,h=>h
 | .tup ds,v,h=>by
  simp only[DV] at h |-
  obtain⟨a,xs,e,hq,r⟩:=h
  exact⟨a,xs,e,S.tup a xs hq,aq.fw S r⟩
 | .lst ds,v,h=>by
  simp only[DV] at h |-
  obtain⟨a,xs,e,hq,r⟩:=h
  exact⟨a,xs,e,S.Fb hq,aq.fw S r⟩
 | .bC ao,v,h=>by
  simp only[DV] at h |-
  obtain⟨a,e,hz,hq⟩:=h
  obtain⟨h1,h2⟩:=S.bC a _ hz hq
  exact⟨a,e,h1,h2⟩
 | .aj k,v,h=>by
  simp only[DV] at h |-
  obtain⟨a,e,e2⟩:=h
  exact⟨a,S.zz k a e,e2⟩
 | .ty _,_,h=>h
 | .bF ns,v,h=>by
  simp only[DV] at h |-
  obtain⟨a,e,hq⟩:=h
  exact⟨a,e,S.O6 hq⟩
theorem aq.fw {K:Frag} {w w':Wd} (S:Fw K w w'):∀{ds:List D} {vs:List V},aq K w ds vs->aq K w' ds vs
 | [],_,h=>h
 |d::ds,vs,h=>by
  simp only[aq] at h |-
  obtain⟨v,r,e,h1,h2⟩:=h
  exact⟨v,r,e,DV.fw S h1,aq.fw S h2⟩
end
structure Le (K:Frag) (w w':Wd):Prop where
 dv:∀d v,DV K w d v->DV K w' d v
 lst:∀a xs,LstAt w a xs->LstAt w' a xs
 tup:∀a xs,aR K w.H a xs->aR K w'.H a xs
noncomputable instance {K:Frag} {w w':Wd}:CoeFun (Le K w w') (λ_=>∀d v,DV K w d v->DV K w' d v):=⟨Le.dv⟩
theorem Le.refl {K:Frag} (w:Wd):Le K w w:=⟨λ_ _ h=>h,λ_ _ h=>h,λ_ _ h=>h⟩
theorem Le.trans {K:Frag} {a b c:Wd} (h:Le K a b) (g:Le K b c):Le K a c:=⟨λd v x=>g.dv d v (h.dv d v x),λp xs x=>g.lst p xs (h.lst p xs x),λp xs x=>g.tup p xs (h.tup p xs x)⟩
theorem Fw.le {K:Frag} {w w':Wd} (S:Fw K w w'):Le K w w':=⟨λ_ _ h=>h.fw S,λ_ _ h=>S.Fb h,S.tup⟩
theorem Le.all {K:Frag} {w w':Wd} (h:Le K w w'):∀{ds:List D} {vs:List V},aq K w ds vs->aq K w' ds vs
 | [],_,x=>x
 |d::ds,vs,x=>by
  simp only[aq] at x |-
  obtain⟨v,r,e,h1,h2⟩:=x
  exact⟨v,r,e,h d v h1,Le.all h h2⟩
theorem aq.length {K:Frag} {w:Wd}:∀{ds:List D} {vs:List V},aq K w ds vs->ds.length=vs.length
 | [],vs,h=>by
  have e:vs=[]:=h
  subst e
  rfl
 |d::ds,vs,h=>by
  obtain⟨v,r,e,_,h2⟩:=h
  subst e
  simp[aq.length h2]
theorem aq.get {K:Frag} {w:Wd}:∀{ds:List D} {vs:List V},aq K w ds vs->∀(i:Nat) v,vs[i]?=some v->∃d,ds[i]?=some d/\DV K w d v
 | [],vs,h,i,v,e=>by
  have e':vs=[]:=h
  subst e'
  simp at e
 |d::ds,vs,h,i,v,e=>by
  obtain⟨u,r,e',h1,h2⟩:=h
  subst e'
  cases i with
  |zero =>
   have:u=v:=by simpa using e
   subst this
   exact⟨d,rfl,h1⟩
  |succ i=>exact aq.get h2 i v (by simpa using e)
theorem aq.get' {K:Frag} {w:Wd}:∀{ds:List D} {vs:List V},aq K w ds vs->∀(i:Nat) d,ds[i]?=some d->∃v,vs[i]?=some v/\DV K w d v
 | [],vs,h,i,d,e=>by simp at e
 |d::ds,vs,h,i,d',e=>by
  obtain⟨u,r,e',h1,h2⟩:=h
  subst e'
  cases i with
  |zero =>
   have:d=d':=by simpa using e
   subst this
   exact⟨u,rfl,h1⟩
  |succ i=>exact aq.get' h2 i d' (by simpa using e)
theorem aq.append {K:Frag} {w:Wd}:∀{ds es:List D} {vs ws:List V},aq K w ds vs->aq K w es ws->aq K w (ds++es) (vs++ws)
 | [],es,vs,ws,h,h'=>by
  have e:vs=[]:=h
  subst e
  exact h'
 |d::ds,es,vs,ws,h,h'=>by
  obtain⟨v,r,e,h1,h2⟩:=h
  subst e
  exact⟨v,r++ws,rfl,h1,aq.append h2 h'⟩
theorem aq.take {K:Frag} {w:Wd}:∀{ds:List D} {vs:List V} (n:Nat),aq K w ds vs->aq K w (ds.take n) (vs.take n)
 | [],vs,n,h=>by
  have e:vs=[]:=h
  subst e
  simp[aq]
 |d::ds,vs,0,h=>by simp[aq]
 |d::ds,vs,n+1,h=>by
  obtain⟨v,r,e,h1,h2⟩:=h
  subst e
  exact⟨v,r.take n,rfl,h1,aq.take n h2⟩
theorem aq.drop {K:Frag} {w:Wd}:∀{ds:List D} {vs:List V} (n:Nat),aq K w ds vs->aq K w (ds.drop n) (vs.drop n)
 | [],vs,n,h=>by
  have e:vs=[]:=h
  subst e
  simp[aq]
 |d::ds,vs,0,h=>h
 |d::ds,vs,n+1,h=>by
  obtain⟨v,r,e,h1,h2⟩:=h
  subst e
  exact aq.drop n h2
theorem aq.reverse {K:Frag} {w:Wd}:∀{ds:List D} {vs:List V},aq K w ds vs->aq K w ds.reverse vs.reverse
 | [],vs,h=>by
  have e:vs=[]:=h
  subst e
  simp[aq]
 |d::ds,vs,h=>by
  obtain⟨v,r,e,h1,h2⟩:=h
  subst e
  rw[List.reverse_cons,List.reverse_cons]
  exact aq.append (aq.reverse h2) ⟨v,[],rfl,h1,rfl⟩
theorem aq.set {K:Frag} {w:Wd} {d:D} {v:V} (hd:DV K w d v):∀{ds:List D} {vs:List V} (i:Nat),aq K w ds vs->aq K w (ds.set i d) (vs.set i v)
 | [],vs,i,h=>by
  have e:vs=[]:=h
  subst e
  simp[aq]
 |d'::ds,vs,0,h=>by
  obtain⟨u,r,e,h1,h2⟩:=h
  subst e
  exact⟨v,r,rfl,hd,h2⟩
 |d'::ds,vs,i+1,h=>by
  obtain⟨u,r,e,h1,h2⟩:=h
  subst e
  exact⟨u,r.set i v,rfl,h1,aq.set hd i h2⟩
theorem aq.one {K:Frag} {w:Wd} {d:D} {v:V} (h:DV K w d v):aq K w [d] [v]:=⟨v,[],rfl,h,rfl⟩
theorem aq.two {K:Frag} {w:Wd} {d d':D} {v v':V} (h:DV K w d v) (h':DV K w d' v'):aq K w [d,d'] [v,v']:=⟨v,_,rfl,h,aq.one h'⟩
theorem aq.ints {K:Frag} {w:Wd}:∀(ns:List Int),aq K w (ns.map D.int) (ns.map V.int)
 | []=>rfl
 |n::ns=>⟨.int n,_,rfl,rfl,aq.ints ns⟩
theorem aq.CL {K:Frag} {w:Wd}:∀{ns:List Int} {vs:List V},aq K w (ns.map D.int) vs->vs=ns.map V.int
 | [],_,h=>h
 |n::ns,vs,h=>by
  obtain⟨v,r,e,h1,h2⟩:=h
  have e1:v=.int n:=h1
  rw[e,e1,aq.CL h2]
  rfl
theorem aq.xb {K:Frag} {w:Wd}:∀{bs:List Bool} {vs:List V},aq K w (bs.map D.bl) vs->vs=bs.map V.bl
 | [],_,h=>h
 |n::ns,vs,h=>by
  obtain⟨v,r,e,h1,h2⟩:=h
  have e1:v=.bl n:=h1
  rw[e,e1,aq.xb h2]
  rfl
def DX (a:Addr) (es:List (Int×Addr)) (h:Heap):Prop:=(a==sysModules)=false/\∃(o:Obj) (xs:Array DictEntry) (ep:Nat),h.get? a=some o/\o.ExactDict/\o.data=.dict xs ep/\xs.toList=es.map λp=>(⟨p.1,.ref p.2,.bool true⟩:DictEntry)
noncomputable def n9 (K:Frag) (w:Wd) (a:Addr):Cell->Prop
 | .dead=>True
 | .lst ds=>∃xs,w.H a=some (.lst xs)/\aq K w ds xs
 | .dK ao=>∃es:List (Key×V),w.H a=some (.dK es)/\es.map (·.1)=ao.map (·.1)/\aq K w (ao.map (·.2)) (es.map (·.2))
 | .dT ao=>∃as:List Addr,w.H a=some (.ext (DX a ((ao.map (·.2)).zip as)))/\aq K w (ao.map (·.1)) (as.map V.ref)/\(ao.map (·.1)).Nodup
structure aN (K:Frag) (w:Wd):Prop where
 len:w.ρ.length=w.aI.length
 nd:w.ρ.Nodup
 there:∀(k:Nat) a,w.ρ[k]?=some a->w.H a≠none
 cell:∀(k:Nat) a c,w.ρ[k]?=some a->w.aI[k]?=some c->n9 K w a c
theorem n9.le {K:Frag} {w w':Wd} {a:Addr} {c:Cell} (h:n9 K w a c) (le:Le K w w') (e:c≠.dead->w'.H a=w.H a):n9 K w' a c:=by
 cases c with
 |dead=>trivial
 |lst ds =>
  obtain⟨xs,h1,h2⟩:=h
  exact⟨xs,(e (by intro z;cases z)).trans h1,le.all h2⟩
 |dK ao =>
  obtain⟨es,h1,h2,h3⟩:=h
  exact⟨es,(e (by intro z;cases z)).trans h1,h2,le.all h3⟩
 |dT ao =>
  obtain⟨as,h1,h2,h3⟩:=h
  exact⟨as,(e (by intro z;cases z)).trans h1,le.all h2,h3⟩
section
variable {K:Frag} {w:Wd}
noncomputable def Wd.grow (w:Wd) (p:Addr) (o:HO):Wd:={ w with H:=upd w.H p o }
theorem Rd.grow {H:Hp} {p a:Addr} {o u:HO} (hp:H p=none) (h:Rd H a u):Rd (upd H p o) a u:=by
 rcases h with h | ⟨ob,h⟩
 ·exact .inl (by rw[bx (dJ h hp)];exact h)
 ·exact .inr ⟨ob,by rw[bx (dJ h hp)];exact h⟩
theorem aR.grow {H:Hp} {p a:Addr} {o:HO} {xs:List V} (hp:H p=none) (h:aR K H a xs):aR K (upd H p o) a xs:=by
 rcases h with h|h
 ·exact .inl (Rd.grow hp h)
 ·exact .inr h
theorem Fw.grow {p:Addr} {o:HO} (hp:w.H p=none):Fw K w (w.grow p o) where
 zz:=λ_ _ e=>e
 tup:=λa xs h=>aR.grow hp h
 lst:=λa xs hz h=>⟨hz,by show upd w.H p o a=_;rw[bx (dJ h hp)];exact h⟩
 cH:=λa ob xs hz h=>⟨hz,by show upd w.H p o a=_;rw[bx (dJ h hp)];exact h⟩
 bC:=λa es hz h=>⟨hz,by show upd w.H p o a=_;rw[bx (dJ h hp)];exact h⟩
theorem aN.grow {p:Addr} {o:HO} (S:aN K w) (hp:w.H p=none):aN K (w.grow p o) where
 len:=S.len
 nd:=S.nd
 there:=λk a e=>by
  have h:=S.there k a e
  show upd w.H p o a≠none
  unfold upd
  split
  ·intro z;cases z
  ·exact h
 cell:=λk a c e1 e2=>(S.cell k a c e1 e2).le (Fw.grow hp).le λ_=>by
  have h:=S.there k a e1
  show upd w.H p o a=w.H a
  rw[bx]
  intro z;rw[z] at h;exact h hp
noncomputable def Wd.cell (w:Wd) (p:Addr) (o:HO) (c:Cell):Wd:=⟨w.ρ++[p],w.aI++[c],upd w.H p o⟩
theorem Wd.xx {p:Addr} {o:HO} {c:Cell} (S:aN K w) {a:Addr} (h:(w.cell p o c).Z a):w.Z a\/a=p:=by
 obtain⟨k,c',e1,e2,e3⟩:=h
 have e1:(w.ρ++[p])[k]?=some a:=e1
 have e2:(w.aI++[c])[k]?=some c':=e2
 by_cases hk:k<w.ρ.length
 ·rw[List.getElem?_append_left hk] at e1
  rw[List.getElem?_append_left (by rw[<- S.len];exact hk)] at e2
  exact .inl ⟨k,c',e1,e2,e3⟩
 ·rw[List.getElem?_append_right (by omega)] at e1
  right
  cases hj:k-w.ρ.length with
  |zero=>rw[hj] at e1;exact(Option.some.inj e1).symm
  |succ j=>rw[hj] at e1;cases e1
theorem Fw.cell {p:Addr} {o:HO} {c:Cell} (S:aN K w) (hp:w.H p=none):Fw K w (w.cell p o c) where
 zz:=λk a e=>by
  show (w.ρ++[p])[k]?=some a
  rw[List.getElem?_append_left (List.getElem?_eq_some_iff.mp e).1];exact e
 tup:=λa xs h=>aR.grow hp h
 lst:=λa xs hz h=>⟨λz=>(Wd.xx S z).elim hz (λe=>by (subst e;rw[hp] at h;cases h)),by show upd w.H p o a=_;rw[bx (dJ h hp)];exact h⟩
 cH:=λa ob xs hz h=>⟨λz=>(Wd.xx S z).elim hz (λe=>by (subst e;rw[hp] at h;cases h)),by show upd w.H p o a=_;rw[bx (dJ h hp)];exact h⟩
 bC:=λa es hz h=>⟨λz=>(Wd.xx S z).elim hz (λe=>by (subst e;rw[hp] at h;cases h)),by show upd w.H p o a=_;rw[bx (dJ h hp)];exact h⟩
theorem aN.xX {p:Addr} {o:HO} {c:Cell} (S:aN K w) (hp:w.H p=none) (hc:n9 K (w.cell p o c) p c):aN K (w.cell p o c) where
 len:=by show (w.ρ++[p]).length=(w.aI++[c]).length;simp[S.len]
 nd:=by
  show (w.ρ++[p]).Nodup
  rw[List.nodup_append]
  refine⟨S.nd,by simp,λa ha b hb=>?_⟩
  obtain⟨k,e⟩:=List.getElem?_of_mem ha
  have h:=S.there k a e
  have e':b=p:=by simpa using hb
  rw[e']
  intro z;rw[z] at h;exact h hp
 there:=λk a e=>by
  have e:(w.ρ++[p])[k]?=some a:=e
  show upd w.H p o a≠none
  unfold upd
  split
  ·intro z;cases z
  ·rename_i gr
   by_cases hk:k<w.ρ.length
   ·rw[List.getElem?_append_left hk] at e
    exact S.there k a e
   ·rw[List.getElem?_append_right (by omega)] at e
    cases hj:k-w.ρ.length with
    |zero=>rw[hj] at e;exact absurd (Option.some.inj e).symm gr
    |succ j=>rw[hj] at e;cases e
 cell:=λk a c' e1 e2=>by
  have e1:(w.ρ++[p])[k]?=some a:=e1
  have e2:(w.aI++[c])[k]?=some c':=e2
  by_cases hk:k<w.ρ.length
  ·rw[List.getElem?_append_left hk] at e1
   rw[List.getElem?_append_left (by rw[<- S.len];exact hk)] at e2
   refine(S.cell k a c' e1 e2).le (Fw.cell S hp).le λ_=>?_
   have h:=S.there k a e1
   show upd w.H p o a=w.H a
   rw[bx]
   intro z;rw[z] at h;exact h hp
  ·rw[List.getElem?_append_right (by omega)] at e1
   rw[List.getElem?_append_right (by rw[<- S.len];omega)] at e2
   rw[<- S.len] at e2
   cases hj:k-w.ρ.length with
   |zero =>
    rw[hj] at e1 e2
    have e1:p=a:=Option.some.inj e1
    have e2:c=c':=Option.some.inj e2
    subst e1 e2
    exact hc
   |succ j=>rw[hj] at e1;cases e1
noncomputable def Wd.same (w:Wd) (H':Hp):Wd:={ w with H:=H' }
theorem Fw.same {H':Hp} (e:i6 w.H H'):Fw K w (w.same H') :=
 ⟨λ_ _ e=>e,λa xs h=>e.Q5 h,λa xs hz h=>⟨hz,e _ _ h⟩,λa o xs hz h=>⟨hz,e _ _ h⟩,λa es hz h=>⟨hz,e _ _ h⟩⟩
theorem aN.same {H':Hp} (S:aN K w) (e:i6 w.H H'):aN K (w.same H') where
 len:=S.len
 nd:=S.nd
 there:=λk a q=>by
  have h:=S.there k a q
  show H' a≠none
  cases hq:w.H a with
  |none=>exact absurd hq h
  |some o=>rw[e _ _ hq];intro z;cases z
 cell:=λk a c e1 e2=>(S.cell k a c e1 e2).le (Fw.same e).le λ_=>by
  have h:=S.there k a e1
  show H' a=w.H a
  cases hq:w.H a with
  |none=>exact absurd hq h
  |some o=>exact e _ _ hq
noncomputable def Wd.put (w:Wd) (k:Nat) (a:Addr) (o:HO) (c:Cell):Wd:=⟨w.ρ,w.aI.set k c,upd w.H a o⟩
theorem A6 {α:Type} {l:List α} (nd:l.Nodup) {i j:Nat} {a:α} (h1:l[i]?=some a) (h2:l[j]?=some a):i=j:=by
 exact(List.getElem?_inj (List.getElem?_eq_some_iff.mp h1).1 nd).mp (h1.trans h2.symm)
theorem Wd.xY {k:Nat} {a b:Addr} {o:HO} {c c0:Cell} (h0:w.ρ[k]?=some a) (h1:w.aI[k]?=some c0) (h2:c0≠.dead) (h:(w.put k a o c).Z b):w.Z b:=by
 obtain⟨j,c',e1,e2,e3⟩:=h
 have e1:w.ρ[j]?=some b:=e1
 have e2:(w.aI.set k c)[j]?=some c':=e2
 by_cases hj:k=j
 ·subst hj
  exact⟨k,c0,e1,h1,h2⟩
 ·rw[List.getElem?_set_ne hj] at e2
  exact⟨j,c',e1,e2,e3⟩
theorem Fw.put {k:Nat} {a:Addr} {o:HO} {c c0:Cell} (S:aN K w) (h0:w.ρ[k]?=some a) (h1:w.aI[k]?=some c0) (h2:c0≠.dead):Fw K w (w.put k a o c):=by
 have hz:w.Z a:=⟨k,c0,h0,h1,h2⟩
 have nt:∀xs,¬ Rd w.H a (.tup xs):=λxs h=>by
  have q:=S.cell k a c0 h0 h1
  cases c0 with
  |dead=>exact h2 rfl
  |lst ds=>obtain⟨ys,e,_⟩:=q;rcases h with h | ⟨_,h⟩<;>(rw[e] at h;cases h)
  |dK ao=>obtain⟨ys,e,_⟩:=q;rcases h with h | ⟨_,h⟩<;>(rw[e] at h;cases h)
  |dT ao=>obtain⟨ys,e,_⟩:=q;rcases h with h | ⟨_,h⟩<;>(rw[e] at h;cases h)
 refine⟨λ_ _ e=>e,λb xs h=>?_,λb xs hb h=>⟨λz=>hb (Wd.xY h0 h1 h2 z),?_⟩,λb ob xs hb h=>⟨λz=>hb (Wd.xY h0 h1 h2 z),?_⟩,λb es hb h=>⟨λz=>hb (Wd.xY h0 h1 h2 z),?_⟩⟩
 ·rcases h with h|h
  ·have ne:b≠a:=λe=>by subst e;exact nt xs h
   refine .inl ?_
   rcases h with h | ⟨ob,h⟩
   ·exact .inl (by show upd w.H a o b=_;rw[bx ne];exact h)
   ·exact .inr ⟨ob,by show upd w.H a o b=_;rw[bx ne];exact h⟩
  ·exact .inr h
 ·have ne:b≠a:=λe=>by subst e;exact hb hz
  show upd w.H a o b=_
  rw[bx ne];exact h
 ·have ne:b≠a:=λe=>by subst e;exact hb hz
  show upd w.H a o b=_
  rw[bx ne];exact h
 ·have ne:b≠a:=λe=>by subst e;exact hb hz
  show upd w.H a o b=_
  rw[bx ne];exact h
theorem aN.yH {k:Nat} {a:Addr} {o:HO} {c c0:Cell} (S:aN K w) (h0:w.ρ[k]?=some a) (h1:w.aI[k]?=some c0) (h2:c0≠.dead) (hc:n9 K (w.put k a o c) a c):aN K (w.put k a o c) where
 len:=by show w.ρ.length=(w.aI.set k c).length;rw[List.length_set];exact S.len
 nd:=S.nd
 there:=λj b e=>by
  show upd w.H a o b≠none
  unfold upd
  split
  ·intro z;cases z
  ·exact S.there j b e
 cell:=λj b c' e1 e2=>by
  have e1:w.ρ[j]?=some b:=e1
  have e2:(w.aI.set k c)[j]?=some c':=e2
  by_cases hj:k=j
  ·subst hj
   rw[h0] at e1
   have e1:a=b:=Option.some.inj e1
   rw[List.getElem?_set_self (List.getElem?_eq_some_iff.mp h1).1] at e2
   have e2:c=c':=Option.some.inj e2
   subst e1 e2
   exact hc
  ·rw[List.getElem?_set_ne hj] at e2
   refine(S.cell j b c' e1 e2).le (Fw.put S h0 h1 h2).le λ_=>?_
   show upd w.H a o b=w.H b
   rw[bx]
   intro z
   subst z
   exact hj (A6 S.nd h0 e1)
noncomputable def Wd.freeze (w:Wd) (k:Nat):Wd:={ w with aI:=w.aI.set k .dead }
theorem Wd.wg {k:Nat} {b:Addr} (h:(w.freeze k).Z b):w.Z b:=by
 obtain⟨j,c',e1,e2,e3⟩:=h
 have e2:(w.aI.set k .dead)[j]?=some c':=e2
 by_cases hj:k=j
 ·subst hj
  have hl:=(List.getElem?_eq_some_iff.mp e2).1
  rw[List.length_set] at hl
  rw[List.getElem?_set_self hl] at e2
  exact absurd (Option.some.inj e2).symm e3
 ·rw[List.getElem?_set_ne hj] at e2
  exact⟨j,c',e1,e2,e3⟩
theorem Fw.freeze {k:Nat}:Fw K w (w.freeze k) :=
 ⟨λ_ _ e=>e,λ_ _ h=>h,λ_ _ hz h=>⟨λz=>hz (Wd.wg z),h⟩,λ_ _ _ hz h=>⟨λz=>hz (Wd.wg z),h⟩,λ_ _ hz h=>⟨λz=>hz (Wd.wg z),h⟩⟩
theorem aN.freeze {k:Nat} (S:aN K w):aN K (w.freeze k) where
 len:=by show w.ρ.length=(w.aI.set k .dead).length;rw[List.length_set];exact S.len
 nd:=S.nd
 there:=S.there
 cell:=λj b c' e1 e2=>by
  have e2:(w.aI.set k .dead)[j]?=some c':=e2
  by_cases hj:k=j
  ·subst hj
   have hl:=(List.getElem?_eq_some_iff.mp e2).1
   rw[List.length_set] at hl
   rw[List.getElem?_set_self hl] at e2
   rw[<- Option.some.inj e2]
   trivial
  ·rw[List.getElem?_set_ne hj] at e2
   exact(S.cell j b c' e1 e2).le Fw.freeze.le λ_=>rfl
theorem Wd.Jy {k:Nat} {a:Addr} (S:aN K w) (h:w.ρ[k]?=some a):¬ (w.freeze k).Z a:=by
 rintro ⟨j,c',e1,e2,e3⟩
 have e1:w.ρ[j]?=some a:=e1
 have e2:(w.aI.set k .dead)[j]?=some c':=e2
 have hj:=A6 S.nd h e1
 subst hj
 have hl:=(List.getElem?_eq_some_iff.mp e2).1
 rw[List.length_set] at hl
 rw[List.getElem?_set_self hl] at e2
 exact e3 (Option.some.inj e2).symm
end
structure bP (K:Frag) (w:Wd) (env:Env) (σ:St):Prop where
 len:env.length=σ.length
 val:∀(i:Nat) d,env[i]?=some (some d)->∃v,σ[i]?=some (some v)/\DV K w d v
theorem bP.le {K:Frag} {w w':Wd} {env:Env} {σ:St} (h:bP K w env σ) (le:Le K w w'):bP K w' env σ :=
 ⟨h.len,λi d e=>by obtain⟨v,e1,e2⟩:=h.val i d e;exact⟨v,e1,le d v e2⟩⟩
theorem bP.set {K:Frag} {w:Wd} {env:Env} {σ:St} {d:D} {v:V} (h:bP K w env σ) (hd:DV K w d v) (i:Nat):bP K w (env.set i (some d)) (σ.set i (some v)):=by
 refine⟨by rw[List.length_set,List.length_set];exact h.len,λj d' e=>?_⟩
 by_cases hj:i=j
 ·subst hj
  have hl:=(List.getElem?_eq_some_iff.mp e).1
  rw[List.length_set] at hl
  rw[List.getElem?_set_self hl] at e
  have e:d=d':=Option.some.inj (Option.some.inj e)
  subst e
  exact⟨v,by rw[List.getElem?_set_self (by rw[<- h.len];exact hl)],hd⟩
 ·rw[List.getElem?_set_ne hj] at e
  rw[List.getElem?_set_ne hj]
  exact h.val j d' e
def Out (K:Frag) (Ξ:Wd->bq->Prop) (w:Wd) {α:Type} (r:Res α) (k:Wd->α->Prop):Prop:=match r with
 |none=>False
 |some (.ok a,s)=>∀w',Le K w w'->aN K w'->w'.aI=s->k w' a
 |some (.error x,s)=>∀w',Le K w w'->aN K w'->w'.aI=s->Ξ w' x
section
variable {K:Frag} {Ξ:Wd->bq->Prop} {w w':Wd} {α β:Type} {r:Res α} {k k':Wd->α->Prop}
theorem Out.from (h:Out K Ξ w r k) (le:Le K w w'):Out K Ξ w' r k:=by
 unfold Out at h |-
 split<;>simp only at h
 ·exact λw2 l2 o2 e2=>h w2 (le.trans l2) o2 e2
 ·exact λw2 l2 o2 e2=>h w2 (le.trans l2) o2 e2
theorem Out.mono (h:Out K Ξ w r k) (hk:∀w2 a,Le K w w2->aN K w2->k w2 a->k' w2 a):Out K Ξ w r k':=by
 unfold Out at h |-
 split<;>simp only at h
 ·exact λw2 l2 o2 e2=>hk w2 _ l2 o2 (h w2 l2 o2 e2)
 ·exact h
theorem Out.ar {g:α->ae->Res β} {q:Wd->β->Prop} (h:Out K Ξ w (DI.ar r g) q):Out K Ξ w r (λw2 a=>Out K Ξ w2 (g a w2.aI) q):=by
 match r,h with
 |some (.ok a,s),h =>
  intro w2 l2 o2 e2
  rw[e2]
  exact Out.from h l2
 |some (.error x,s),h=>exact h
theorem Out.done {a:α} (h:Out K Ξ w (some (.ok a,w.aI)) k) (S:aN K w):k w a:=h w (Le.refl w) S rfl
end
end DI
namespace DI
open PySem L2
noncomputable def tE (K:Frag) (Ξ:Wd->bq->Prop) (f:Env->ae->Res D):TE:=fun σ H Q=>∃w env,w.H=H/\aN K w/\bP K w env σ/\Out K Ξ w (f env w.aI) λw' d=>∀v,DV K w' d v->Q v w'.H
noncomputable def tT (K:Frag) (Ξ:Wd->bq->Prop) (f:Env->ae->Res Bool):TT:=fun σ H Q=>∃w env,w.H=H/\aN K w/\bP K w env σ/\Out K Ξ w (f env w.aI) λw' b=>Q b w'.H
noncomputable def tA (K:Frag) (Ξ:Wd->bq->Prop) (f:Env->ae->Res (List D)):TA:=fun σ H Q=>∃w env,w.H=H/\aN K w/\bP K w env σ/\Out K Ξ w (f env w.aI) λw' ds=>∀vs,aq K w' ds vs->Q vs w'.H
noncomputable def rO (K:Frag) (Ξ:Wd->bq->Prop) (o:D->D->ae->Res D):R2:=λx y H Q=>∃w dx dy,w.H=H/\aN K w/\DV K w dx x/\DV K w dy y/\Out K Ξ w (o dx dy w.aI) λw' d=>∀v,DV K w' d v->Q v w'.H
noncomputable def rU (K:Frag) (Ξ:Wd->bq->Prop) (o:D->ae->Res D):V->Hp->VK->Prop:=λx H Q=>∃w dx,w.H=H/\aN K w/\DV K w dx x/\Out K Ξ w (o dx w.aI) λw' d=>∀v,DV K w' d v->Q v w'.H
noncomputable def rC (K:Frag) (Ξ:Wd->bq->Prop) (o:List D->ae->Res D):List V->Hp->VK->Prop:=λxs H Q=>∃w ds,w.H=H/\aN K w/\aq K w ds xs/\Out K Ξ w (o ds w.aI) λw' d=>∀v,DV K w' d v->Q v w'.H
noncomputable def aa (i:Nat):Env->ae->Res D:=λenv s=>match env[i]? with
 |some (some d)=>ok d s
 |_=>none
noncomputable def eC (d:D):Env->ae->Res D:=λ_ s=>ok d s
noncomputable def e1 (o:D->ae->Res D) (f:Env->ae->Res D):Env->ae->Res D:=λenv s=>ar (f env s) λx s=>o x s
noncomputable def e2 (o:D->D->ae->Res D) (f g:Env->ae->Res D):Env->ae->Res D:=λenv s=>ar (f env s) λx s=>ar (g env s) λy s=>o x y s
noncomputable def ai:Env->ae->Res (List D):=λ_ s=>ok [] s
noncomputable def af (f:Env->ae->Res D) (g:Env->ae->Res (List D)):Env->ae->Res (List D):=λenv s=>ar (f env s) λx s=>ar (g env s) λxs s=>ok (x::xs) s
noncomputable def eB (o:List D->ae->Res D) (f:Env->ae->Res (List D)):Env->ae->Res D:=λenv s=>ar (f env s) λds s=>o ds s
noncomputable def gE {α:Type} (ds:List D) (r:Res α):Res α:=if ds.length<=sizeLine then r else none
noncomputable def bZ (f:Env->ae->Res (List D)):Env->ae->Res D:=λenv s=>ar (f env s) λds s=>gE ds (ok (.tup ds) s)
noncomputable def fy (f:Env->ae->Res (List D)):Env->ae->Res D:=λenv s=>ar (f env s) λds s=>gE ds (ok (.lst ds) s)
noncomputable def eNew (f:Env->ae->Res (List D)):Env->ae->Res D:=λenv s=>ar (f env s) λds s=>gE ds (ok (.aj s.length) (s++[.lst ds]))
noncomputable def cH:D->ae->Res D:=λd s=>match d with
 | .aj k=>match s[k]? with
  |some (.lst ds)=>ok (.lst ds) (s.set k .dead)
  |_=>none
 |_=>none
noncomputable def jF (f:Env->ae->Res D):Env->ae->Res D:=λenv s=>ar (f env s) cH
noncomputable def fc (d:D) (s:ae):Res Bool:=match d with
 | .bl b=>ok b s
 |_=>none
noncomputable def aH (f:Env->ae->Res D):Env->ae->Res Bool:=λenv s=>ar (f env s) fc
noncomputable def truth (d:D) (s:ae):Res Bool:=match d with
 | .aB=>ok false s
 | .bl b=>ok b s
 | .int i=>ok (i != 0) s
 | .str x=>if x.length<=sizeLine then ok ((x.length:Int) != 0) s else none
 | .tup ds=>ok (!ds.isEmpty) s
 | .lst ds=>ok (!ds.isEmpty) s
 | .bC ao=>ok (!ao.isEmpty) s
 | .aj k=>match s[k]? with
  |some (.lst ds)=>ok (!ds.isEmpty) s
  |some (.dK ao)=>ok (!ao.isEmpty) s
  |_=>none
 | .ty _=>none
 | .bF _=>none
noncomputable def dP (f:Env->ae->Res D):Env->ae->Res Bool:=λenv s=>ar (f env s) truth
noncomputable def cq (f g:Env->ae->Res Bool):Env->ae->Res Bool:=λenv s=>ar (f env s) λb s=>if b=true then g env s else ok false s
noncomputable def ik (f g:Env->ae->Res Bool):Env->ae->Res Bool:=λenv s=>ar (f env s) λb s=>if b=true then ok true s else g env s
noncomputable def fT (f:Env->ae->Res Bool):Env->ae->Res Bool:=λenv s=>ar (f env s) λb s=>ok (!b) s
noncomputable def cv (f g:Env->ae->Res D):Env->ae->Res D:=λenv s=>ar (f env s) λx s=>ar (fc x s) λb s=>if b=true then g env s else ok (.bl false) s
noncomputable def iq (f g:Env->ae->Res D):Env->ae->Res D:=λenv s=>ar (f env s) λx s=>ar (fc x s) λb s=>if b=true then ok (.bl true) s else g env s
noncomputable def lu (f:Env->ae->Res D):Env->ae->Res D:=λenv s=>ar (f env s) λx s=>ar (fc x s) λb s=>ok (.bl (!b)) s
noncomputable def GG (c:Env->ae->Res Bool) (f g:Env->ae->Res D):Env->ae->Res D:=λenv s=>ar (c env s) λb s=>if b=true then f env s else g env s
noncomputable def rH (o o':D->D->ae->Res D) (f g h:Env->ae->Res D):Env->ae->Res D:=λenv s=>ar (f env s) λx s=>ar (g env s) λy s=>ar (o x y s) λz s=>ar (fc z s) λb s =>
 if b=true then ar (h env s) λu s=>o' y u s else ok (.bl false) s
section
variable {X:Cx} {Ξ:Wd->bq->Prop} {e a b c:Expr} {es rest:List Expr} {pos:Pos} {f g h:Env->ae->Res D} {fa:Env->ae->Res (List D)} {ft gt:Env->ae->Res Bool}
theorem cP {t t':TE} (h:PE X e t) (i:∀ σ H Q,t' σ H Q->t σ H Q):PE X e t':=λpins s σ H Q I hq=>h pins s σ H Q I (i σ H Q hq)
theorem xy {t t':TT} (h:PT X e t) (i:∀ σ H Q,t' σ H Q->t σ H Q):PT X e t':=λpins s σ H Q I hq=>h pins s σ H Q I (i σ H Q hq)
theorem Ep {t t':TT} (h:PW X e t) (i:∀ σ H Q,t' σ H Q->t σ H Q):PW X e t':=λwh pins s σ H Q I hq=>h wh pins s σ H Q I (i σ H Q hq)
theorem Er {t t':TA} (h:PA X es t) (i:∀ σ H Q,t' σ H Q->t σ H Q):PA X es t':=λp pins s σ H Q I hq=>h p pins s σ H Q I (i σ H Q hq)
theorem iV {st:Stmt} {t t':TS} (h:PS X st t) (i:∀D σ H,t' D σ H->t D σ H):PS X st t':=λpins s σ H D I hq=>h pins s σ H D I (i D σ H hq)
theorem Dw {st:List Stmt} {t t':TS} (h:dE X st t) (i:∀D σ H,t' D σ H->t D σ H):dE X st t':=λpins s σ H D I hq=>h pins s σ H D I (i D σ H hq)
theorem aG {α:Type} {K:Frag} {w:Wd} {a:α} {k:Wd->α->Prop} (S:aN K w) (h:Out K Ξ w (ok a w.aI) k):k w a:=h w (Le.refl w) S rfl
theorem ag (i:Nat) {x:Str} (hN:X.N[i]?=some x:=by rfl) (hv:qS X.env.scope x:=by first|exact Or.inl rfl|exact Or.inr (Or.inl rfl)|exact Or.inr (Or.inr rfl)) (hd:(x==("__debug__":Str))=false:=by decide)
  (jd:(x==("__classdict__":Str))=false:=by decide):PE X (.Name x pos) (tE X.K Ξ (aa i)):=cP (M7 hN hv hd jd) fun σ H Q aC=>by
 obtain⟨w,env,eH,S,eo,h⟩:=aC
 unfold aa at h
 split at h
 ·rename_i d he
  obtain⟨v,e1,e2⟩:=eo.val i d he
  subst eH
  exact⟨v,e1,aG S h v e2⟩
 ·exact h.elim
theorem qp {d:D} {v:V} (h:PE X e (tC v)) (hd:∀w,DV X.K w d v):PE X e (tE X.K Ξ (eC d)):=cP h fun σ H Q aC=>by
 obtain⟨w,env,eH,S,eo,h⟩:=aC
 subst eH
 exact aG S h v (hd w)
theorem aA {i j}:PE X (.Constant (.int i) j pos) (tE X.K Ξ (eC (.int i))):=qp Ed λ_=>rfl
theorem dQ {b j}:PE X (.Constant (.bool b) j pos) (tE X.K Ξ (eC (.bl b))):=qp Ow λ_=>rfl
theorem jy {x j}:PE X (.Constant (.str x) j pos) (tE X.K Ξ (eC (.str x))):=qp M8 λ_=>rfl
theorem tw {K:Frag} {o:D->D->ae->Res D} (σ:St) (H:Hp) (Q:VK):tE K Ξ (e2 o f g) σ H Q->rg (rO K Ξ o) (tE K Ξ f) (tE K Ξ g) σ H Q:=by
 rintro ⟨w,env,rfl,S,eo,h⟩
 exact⟨w,env,rfl,S,eo,(Out.ar h).mono λw1 x l1 S1 h1 v1 eY=>⟨w1,env,rfl,S1,eo.le l1,(Out.ar h1).mono λw2 y l2 S2 h2 v2 jj=>⟨w2,x,y,rfl,S2,l2 _ _ eY,jj,h2⟩⟩⟩
theorem bV {op:Operator} {o:D->D->ae->Res D} (ho:bg X (binaryOp op) (rO X.K Ξ o)) (ha:PE X a (tE X.K Ξ f)) (hb:PE X b (tE X.K Ξ g)):PE X (.BinOp a op b pos) (tE X.K Ξ (e2 o f g)):=cP (OG ho ha hb) tw
theorem cQ {op:CmpOp} {o:D->D->ae->Res D} (ho:bg X (compareOp op) (rO X.K Ξ o)) (ha:PE X a (tE X.K Ξ f)) (hb:PE X b (tE X.K Ξ g)) (hm:behindInMarks op b=false):PE X (.Compare a [op] [b] pos) (tE X.K Ξ (e2 o f g)):=cP (LL ho ha hb hm) tw
theorem NK {K:Frag} (σ:St) (H:Hp) (Q:Bool->Hp->Prop):tT K Ξ (aH f) σ H Q->ue (tE K Ξ f) σ H Q:=by
 rintro ⟨w,env,rfl,S,eo,h⟩
 refine⟨w,env,rfl,S,eo,(Out.ar h).mono λw1 x l1 S1 h1 v1 eY=>?_⟩
 cases x with
 |bl b =>
  have e:v1=.bl b:=eY
  exact⟨b,e,aG S1 h1⟩
 |_=>exact h1.elim
theorem IL {t t':TE} (i:∀ σ H Q,t' σ H Q->t σ H Q) (σ:St) (H:Hp) (Q:Bool->Hp->Prop):ue t' σ H Q->ue t σ H Q:=λh=>i _ _ _ h
theorem bQ {op:CmpOp} {o:D->D->ae->Res D} (ho:bg X (compareOp op) (rO X.K Ξ o)) (ha:PE X a (tE X.K Ξ f)) (hb:PE X b (tE X.K Ξ g)) (hm:behindInMarks op b=false):PT X (.Compare a [op] [b] pos) (tT X.K Ξ (aH (e2 o f g))) :=
 xy (LM ho ha hb hm) fun σ H Q h=>IL tw σ H Q (NK σ H Q h)
theorem NL {K:Frag} {o o':D->D->ae->Res D} (σ:St) (H:Hp) (Q:VK):tE K Ξ (rH o o' f g h) σ H Q->Eg (rO K Ξ o) (rO K Ξ o') (tE K Ξ f) (tE K Ξ g) (tE K Ξ h) σ H Q:=by
 rintro ⟨w,env,rfl,S,eo,h⟩
 refine⟨w,env,rfl,S,eo,(Out.ar h).mono λw1 x l1 S1 h1 v1 eY=>⟨w1,env,rfl,S1,eo.le l1,(Out.ar h1).mono λw2 y l2 S2 h2 v2 jj=>⟨w2,x,y,rfl,S2,l2 _ _ eY,jj,(Out.ar h2).mono λw3 z l3 S3 h3 v3 zA=>?_⟩⟩⟩
 have h4:=Out.ar h3
 cases z with
 |bl b =>
  have e:v3=.bl b:=zA
  have h5:=aG S3 h4
  refine⟨b,e,?_⟩
  cases b with
  |true =>
   rw[if_pos rfl] at h5 |-
   exact⟨w3,env,rfl,S3,eo.le (l1.trans (l2.trans l3)),(Out.ar h5).mono λw4 u l4 S4 h6 v4 zB=>⟨w4,y,u,rfl,S4,(l3.trans l4) _ _ jj,zB,h6⟩⟩
  |false =>
   rw[if_neg Bool.false_ne_true] at h5 |-
   exact aG S3 h5 _ rfl
 |_=>exact h4.elim
theorem Mi {op m7:CmpOp} {o o':D->D->ae->Res D} (ho:bg X (compareOp op) (rO X.K Ξ o)) (dw:bg X (compareOp m7) (rO X.K Ξ o')) (ha:PE X a (tE X.K Ξ f)) (hb:PE X b (tE X.K Ξ g)) (hc:PE X c (tE X.K Ξ h))
  (hm:lastMarks [op,m7] [b,c]=false:=by with_unfolding_all rfl):PE X (.Compare a [op,m7] [b,c] pos) (tE X.K Ξ (rH o o' f g h)):=cP (Kp ho dw ha hb hc hm) NL
theorem FW {op:UnaryOp} {o:D->ae->Res D} (ho:rf X (unaryOp op) (rU X.K Ξ o)) (ha:PE X a (tE X.K Ξ f)):PE X (.UnaryOp op a pos) (tE X.K Ξ (e1 o f)):=cP (OH ho ha) fun σ H Q aC=>by
 obtain⟨w,env,eH,S,eo,h⟩:=aC
 subst eH
 exact⟨w,env,rfl,S,eo,(Out.ar h).mono λw1 x l1 S1 h1 v1 eY=>⟨w1,x,rfl,S1,eY,h1⟩⟩
theorem ak:PA X [] (tA X.K Ξ ai):=Er p6 fun σ H Q aC=>by
 obtain⟨w,env,eH,S,eo,h⟩:=aC
 subst eH
 exact aG S h _ rfl
theorem ah (ha:PE X e (tE X.K Ξ f)) (hr:PA X es (tA X.K Ξ fa)) (hs:starEach (e::es) X.env=(false,eval e X.env)::starEach es X.env:=by rfl):PA X (e::es) (tA X.K Ξ (af f fa)):=Er (pX ha hr hs) fun σ H Q aC=>by
 obtain⟨w,env,eH,S,eo,h⟩:=aC
 subst eH
 exact⟨w,env,rfl,S,eo,(Out.ar h).mono λw1 x l1 S1 h1 v1 eY=>⟨w1,env,rfl,S1,eo.le l1,(Out.ar h1).mono λw2 xs l2 S2 h2 vs au=>aG S2 h2 _ ⟨v1,vs,rfl,l2 _ _ eY,au⟩⟩⟩
theorem pP {α:Type} {K:Frag} {w:Wd} {ds:List D} {r:Res α} {k:Wd->α->Prop} (h:Out K Ξ w (gE ds r) k):ds.length<=sizeLine/\Out K Ξ w r k:=by
 unfold gE at h
 split at h
 ·exact⟨by assumption,h⟩
 ·exact h.elim
theorem gF {x1} (ha:PA X es (tA X.K Ξ fa)):PE X (.Tuple es x1 pos) (tE X.K Ξ (bZ fa)):=cP (Nt ha) fun σ H Q aC=>by
 obtain⟨w,env,eH,S,eo,h⟩:=aC
 subst eH
 refine⟨w,env,rfl,S,eo,(Out.ar h).mono λw1 ds l1 S1 h1 vs au=>?_⟩
 obtain⟨hl,h2⟩:=pP h1
 refine⟨by rw[<- au.length];exact hl,λp hp=>?_⟩
 exact h2 (w1.grow p (.tup vs)) (Fw.grow hp).le (S1.grow hp) rfl (.ref p) ⟨p,vs,rfl,aR.of dU,(Fw.grow hp).le.all au⟩
theorem og {K:Frag} {w:Wd} {p:Addr} (S:aN K w) (hp:w.H p=none):¬ w.Z p:=λ⟨k,c,e1,_,_⟩=>S.there k p e1 hp
theorem kj (ha:PA X es (tA X.K Ξ fa)):PE X (.List es pos) (tE X.K Ξ (fy fa)):=cP (Ei ha) fun σ H Q aC=>by
 obtain⟨w,env,eH,S,eo,h⟩:=aC
 subst eH
 refine⟨w,env,rfl,S,eo,(Out.ar h).mono λw1 ds l1 S1 h1 vs au=>?_⟩
 obtain⟨hl,h2⟩:=pP h1
 refine⟨by rw[<- au.length];exact hl,λp hp=>?_⟩
 exact h2 (w1.grow p (.lst vs)) (Fw.grow hp).le (S1.grow hp) rfl (.ref p) ⟨p,vs,rfl,⟨(show ¬ w1.Z p from og S1 hp),dU⟩,(Fw.grow hp).le.all au⟩
theorem oy (ha:PA X es (tA X.K Ξ fa)):PE X (.List es pos) (tE X.K Ξ (eNew fa)):=cP (Ei ha) fun σ H Q aC=>by
 obtain⟨w,env,eH,S,eo,h⟩:=aC
 subst eH
 refine⟨w,env,rfl,S,eo,(Out.ar h).mono λw1 ds l1 S1 h1 vs au=>?_⟩
 obtain⟨hl,h2⟩:=pP h1
 refine⟨by rw[<- au.length];exact hl,λp hp=>?_⟩
 have le:=(Fw.cell (o:=.lst vs) (c:=.lst ds) S1 hp).le
 refine h2 (w1.cell p (.lst vs) (.lst ds)) le (S1.xX hp ⟨vs,dU,le.all au⟩) rfl (.ref p) ⟨p,?_,rfl⟩
 show (w1.ρ++[p])[w1.aI.length]?=some p
 rw[<- S1.len]
 simp
theorem uh (ha:PE X a (tE X.K Ξ f)):PE X a (tE X.K Ξ (jF f)):=cP ha fun σ H Q aC=>by
 obtain⟨w,env,eH,S,eo,h⟩:=aC
 subst eH
 refine⟨w,env,rfl,S,eo,(Out.ar h).mono λw1 x l1 S1 h1 v1 eY=>?_⟩
 unfold cH at h1
 split at h1
 ·rename_i k
  split at h1
  ·rename_i ds hk
   obtain⟨p,e1,e2⟩:=eY
   obtain⟨xs,q1,q2⟩:=S1.cell k p _ e1 hk
   exact h1 (w1.freeze k) Fw.freeze.le S1.freeze rfl v1 ⟨p,xs,e2,⟨Wd.Jy S1 e1,q1⟩,Fw.freeze.le.all q2⟩
  ·exact h1.elim
 ·exact h1.elim
theorem mM.of {K:Frag} {w:Wd} {d:D} {v:V} {k:Wd->Bool->Prop} (S:aN K w) (hd:DV K w d v) (h:Out K Ξ w (truth d w.aI) k):∃b,mM K v w.H b/\k w b:=by
 cases d with
 |aB=>have e:v=.aB:=hd;subst e;exact⟨_,rfl,aG S h⟩
 |bl b=>have e:v=.bl b:=hd;subst e;exact⟨_,rfl,aG S h⟩
 |int i=>have e:v=.int i:=hd;subst e;exact⟨_,rfl,aG S h⟩
 |str x =>
  have e:v=.str x:=hd
  subst e
  unfold truth at h
  split at h<;>first|contradiction|skip
  all_goals (rename_i e;cases e)
  split at h
  ·exact⟨_,⟨by assumption,rfl⟩,aG S h⟩
  ·exact h.elim
 |tup ds =>
  simp only[DV] at hd
  obtain⟨a,xs,rfl,hq,r⟩:=hd
  refine⟨_,.inr (.inl ⟨xs,hq,?_⟩),aG S h⟩
  have e:=r.length
  cases ds<;>cases xs<;>first|rfl|cases e
 |lst ds =>
  simp only[DV] at hd
  obtain⟨a,xs,rfl,hq,r⟩:=hd
  refine⟨_,.inl ⟨xs,hq.sq,?_⟩,aG S h⟩
  have e:=r.length
  cases ds<;>cases xs<;>first|rfl|cases e
 |bC ao =>
  simp only[DV] at hd
  obtain⟨a,rfl,_,hq⟩:=hd
  refine⟨_,.inr (.inr ⟨_,hq,?_⟩),aG S h⟩
  cases ao<;>rfl
 |aj j =>
  simp only[DV] at hd
  obtain⟨a,e1,rfl⟩:=hd
  simp only[truth] at h
  split at h
  ·rename_i ds hk
   obtain⟨xs,q1,q2⟩:=S.cell j a _ e1 hk
   refine⟨_,.inl ⟨xs,bL.of q1,?_⟩,aG S h⟩
   have e:=q2.length
   cases ds<;>cases xs<;>first|rfl|cases e
  ·rename_i ao hk
   obtain⟨es,q1,q2,q3⟩:=S.cell j a _ e1 hk
   refine⟨_,.inr (.inr ⟨es,q1,?_⟩),aG S h⟩
   have e:=congrArg List.length q2
   cases ao<;>cases es<;>first|rfl|simp at e
  ·exact h.elim
 |ty n=>exact h.elim
 |bF ns=>exact h.elim
theorem fj (ha:PE X a (tE X.K Ξ f)) (he:∀whole,isTrue a X.env whole=(do let v <- whole;standAt a.pos;holding [v] (truthy v)):=by intro _;rfl):PT X a (tT X.K Ξ (dP f)):=xy (Kq ha he) fun σ H Q aC=>by
 obtain⟨w,env,eH,S,eo,h⟩:=aC
 subst eH
 exact⟨w,env,rfl,S,eo,(Out.ar h).mono λw1 x l1 S1 h1 v1 eY=>mM.of S1 eY h1⟩
theorem jz (ha:PT X a (tT X.K Ξ ft)):PT X (.UnaryOp .Not a pos) (tT X.K Ξ (fT ft)):=xy (Nb ha) fun σ H Q aC=>by
 obtain⟨w,env,eH,S,eo,h⟩:=aC
 subst eH
 exact⟨w,env,rfl,S,eo,(Out.ar h).mono λw1 b l1 S1 h1=>aG S1 h1⟩
theorem mf (ha:PT X a (tT X.K Ξ ft)):PW X (.BoolOp .And [a] pos) (tT X.K Ξ ft):=LF ha
theorem mz (ha:PT X a (tT X.K Ξ ft)):PW X (.BoolOp .Or [a] pos) (tT X.K Ξ ft):=M9 ha
theorem w_and (ha:PT X a (tT X.K Ξ ft)) (hb:PW X (.BoolOp .And (b::rest) pos) (tT X.K Ξ gt)):PW X (.BoolOp .And (a::b::rest) pos) (tT X.K Ξ (cq ft gt)):=Ep (Na ha hb) fun σ H Q aC=>by
 obtain⟨w,env,eH,S,eo,h⟩:=aC
 subst eH
 refine⟨w,env,rfl,S,eo,(Out.ar h).mono λw1 b l1 S1 h1=>?_⟩
 cases b with
 |true=>exact⟨w1,env,rfl,S1,eo.le l1,h1⟩
 |false=>exact aG S1 h1
theorem w_or (ha:PT X a (tT X.K Ξ ft)) (hb:PW X (.BoolOp .Or (b::rest) pos) (tT X.K Ξ gt)):PW X (.BoolOp .Or (a::b::rest) pos) (tT X.K Ξ (ik ft gt)):=Ep (Ox ha hb) fun σ H Q aC=>by
 obtain⟨w,env,eH,S,eo,h⟩:=aC
 subst eH
 refine⟨w,env,rfl,S,eo,(Out.ar h).mono λw1 b l1 S1 h1=>?_⟩
 cases b with
 |false=>exact⟨w1,env,rfl,S1,eo.le l1,h1⟩
 |true=>exact aG S1 h1
theorem dg {op} (ha:PE X a (tE X.K Ξ f)):PE X (.BoolOp op [a] pos) (tE X.K Ξ f):=Nc ha
theorem xc {K:Frag} {w:Wd} {d:D} {v:V} {k:Wd->Bool->Prop} (S:aN K w) (hd:DV K w d v) (h:Out K Ξ w (fc d w.aI) k):∃b,v=.bl b/\k w b:=by
 cases d with
 |bl b=>exact⟨b,hd,aG S h⟩
 |_=>exact h.elim
theorem dO (ha:PE X a (tE X.K Ξ f)) (hb:PE X (.BoolOp .And (b::rest) pos) (tE X.K Ξ g)):PE X (.BoolOp .And (a::b::rest) pos) (tE X.K Ξ (cv f g)):=cP (Nd ha hb) fun σ H Q aC=>by
 obtain⟨w,env,eH,S,eo,h⟩:=aC
 subst eH
 refine⟨w,env,rfl,S,eo,(Out.ar h).mono λw1 x l1 S1 h1 v1 eY=>?_⟩
 obtain⟨b,e,h2⟩:=xc S1 eY (Out.ar h1)
 refine⟨b,e,?_⟩
 cases b with
 |true=>exact⟨w1,env,rfl,S1,eo.le l1,h2⟩
 |false=>exact aG S1 h2 _ rfl
theorem kz (ha:PE X a (tE X.K Ξ f)) (hb:PE X (.BoolOp .Or (b::rest) pos) (tE X.K Ξ g)):PE X (.BoolOp .Or (a::b::rest) pos) (tE X.K Ξ (iq f g)):=cP (OA ha hb) fun σ H Q aC=>by
 obtain⟨w,env,eH,S,eo,h⟩:=aC
 subst eH
 refine⟨w,env,rfl,S,eo,(Out.ar h).mono λw1 x l1 S1 h1 v1 eY=>?_⟩
 obtain⟨b,e,h2⟩:=xc S1 eY (Out.ar h1)
 refine⟨b,e,?_⟩
 cases b with
 |false=>exact⟨w1,env,rfl,S1,eo.le l1,h2⟩
 |true=>exact aG S1 h2 _ rfl
theorem qq (ha:PE X a (tE X.K Ξ f)):PE X (.UnaryOp .Not a pos) (tE X.K Ξ (lu f)):=cP (Nf ha) fun σ H Q aC=>by
 obtain⟨w,env,eH,S,eo,h⟩:=aC
 subst eH
 refine⟨w,env,rfl,S,eo,(Out.ar h).mono λw1 x l1 S1 h1 v1 eY=>?_⟩
 obtain⟨b,e,h2⟩:=xc S1 eY (Out.ar h1)
 exact⟨b,e,aG S1 h2 _ rfl⟩
theorem Es {K:Frag} {o:List D->ae->Res D} (σ:St) (H:Hp) (Q:VK):tE K Ξ (eB o fa) σ H Q->zc (rC K Ξ o) (tA K Ξ fa) σ H Q:=by
 rintro ⟨w,env,rfl,S,eo,h⟩
 exact⟨w,env,rfl,S,eo,(Out.ar h).mono λw1 ds l1 S1 h1 vs au=>⟨w1,ds,rfl,S1,au,h1⟩⟩
theorem cE {x:Str} {p:Pos} {id:String} {o:List D->ae->Res D} (hc:cF X (.builtin id) (rC X.K Ξ o)) (hg:Gl X x) (hm:X.mg x=none) (hv:bootBuiltins x=some (.builtin id)) (ha:PA X (e::es) (tA X.K Ξ fa)) (hn:x≠"__name__":=by decide) (jg:(x==("__debug__":Str))=false:=by decide)
  (he:starEach (e::es) X.env=(false,eval e X.env)::starEach es X.env:=by rfl) (cT:(backTo pos (starEach es X.env)).any (·.1)=false:=by rfl):PE X (.Call (.Name x p) (e::es) [] pos) (tE X.K Ξ (eB o fa)):=cP (CF hc hg hm hv ha hn jg he cT) Es
theorem gS {x:Str} {p:Pos} {T:String} {o:List D->ae->Res D} (hc:cF X (.type T) (rC X.K Ξ o)) (hg:Gl X x) (hm:X.mg x=none) (hv:bootBuiltins x=some (.type T)) (ha:PA X (e::es) (tA X.K Ξ fa)) (hn:x≠"__name__":=by decide) (jg:(x==("__debug__":Str))=false:=by decide)
  (he:starEach (e::es) X.env=(false,eval e X.env)::starEach es X.env:=by rfl) (cT:(backTo pos (starEach es X.env)).any (·.1)=false:=by rfl):PE X (.Call (.Name x p) (e::es) [] pos) (tE X.K Ξ (eB o fa)):=cP (vY hc hg hm hv ha hn jg he cT) Es
end
end DI
namespace DI
open PySem L2
set_option genInjectivity true in
inductive Fl where
 |nx (env:Env)|rt (d:D)|bk (env:Env)|ct (env:Env)
noncomputable def yI (K:Frag) (D:Ends) (w:Wd):Fl->Prop
 | .nx env=>∀ σ,bP K w env σ->D.nx σ w.H
 | .rt d=>∀v,DV K w d v->D.rt v w.H
 | .bk env=>∀ σ,bP K w env σ->D.bk σ w.H
 | .ct env=>∀ σ,bP K w env σ->D.ct σ w.H
noncomputable def tS (K:Frag) (Ξ:Wd->bq->Prop) (f:Env->ae->Res Fl):TS:=λD σ H=>∃w env,w.H=H/\aN K w/\bP K w env σ/\Out K Ξ w (f env w.aI) (yI K D)
noncomputable def cu:Env->ae->Res Fl:=λenv s=>ok (.nx env) s
noncomputable def ay (f g:Env->ae->Res Fl):Env->ae->Res Fl:=λenv s=>ar (f env s) λfl s=>match fl with
 | .nx env=>g env s
 |fl=>ok fl s
noncomputable def aQ (f:Env->ae->Res D):Env->ae->Res Fl:=λenv s=>ar (f env s) λd s=>ok (.rt d) s
noncomputable def eG (f:Env->ae->Res D):Env->ae->Res Fl:=λenv s=>ar (f env s) λ_ s=>ok (.nx env) s
noncomputable def bX (c:Env->ae->Res Bool) (f g:Env->ae->Res Fl):Env->ae->Res Fl:=λenv s=>ar (c env s) λb s=>if b=true then f env s else g env s
noncomputable def Fc:Env->ae->Res Fl:=λenv s=>ok (.ct env) s
noncomputable def aO (f:Env->ae->Res D) (g:D->Env->Option Env):Env->ae->Res Fl:=λenv s=>ar (f env s) λd s=>match g d env with
 |some aD=>ok (.nx aD) s
 |none=>none
noncomputable def gN (i:Nat):D->Env->Option Env:=λd env=>some (env.set i (some d))
noncomputable def fU:List (D->Env->Option Env)->List D->Env->Option Env
 | [],[],env=>some env
 |g::gs,d::ds,env=>match g d env with
  |some aD=>fU gs ds aD
  |none=>none
 |_,_,_=>none
noncomputable def gT (gs:List (D->Env->Option Env)):D->Env->Option Env:=λd env=>match d with
 | .tup ds=>fU gs ds env
 |_=>none
noncomputable def jA (g:D->Env->Option Env) (b:Env->ae->Res Fl):List D->Env->ae->Res Fl
 | [],env,s=>ok (.nx env) s
 |d::ds,env,s=>match g d env with
  |none=>none
  |some aD=>ar (b aD s) λfl s=>match fl with
   | .nx e=>jA g b ds e s
   | .ct e=>jA g b ds e s
   | .bk e=>ok (.nx e) s
   | .rt d=>ok (.rt d) s
noncomputable def cw (it:Env->ae->Res (List D)) (g:D->Env->Option Env) (b:Env->ae->Res Fl):Env->ae->Res Fl:=λenv s=>ar (it env s) λds s=>jA g b ds env s
noncomputable def ne {α:Type} (r:Res α):Res α:=match r with
 |some (.ok a,s)=>some (.ok a,s)
 |_=>none
@[simp] theorem lp {α:Type} {a:α} {s:ae}:ne (some (.ok a,s))=some (.ok a,s):=rfl
noncomputable def fk (cap:List Nat) (env:Env):Env:=cap.map λj=>(env[j]?).getD none
noncomputable def eO (nt:Nat) (caps:Env) (g:D->Env->Option Env) (t:Env->ae->Res Bool) (f:Env->ae->Res D):List D->ae->Res (List D)
 | [],s=>ok [] s
 |d::ds,s=>match g d (List.replicate nt none++caps) with
  |none=>none
  |some env=>ar (ne (t env s)) λb s=>if b=true then ar (ne (f env s)) λx s=>ar (eO nt caps g t f ds s) λxs s=>ok (x::xs) s
   else eO nt caps g t f ds s
noncomputable def ba (nt:Nat) (cap:List Nat) (it:Env->ae->Res (List D)) (g:D->Env->Option Env) (t:Env->ae->Res Bool) (f:Env->ae->Res D):Env->ae->Res D:=λenv s =>
 ar (it env s) λds s=>gE ds (ar (eO nt (fk cap env) g t f ds s) λxs s=>ok (.lst xs) s)
noncomputable def qd (nt:Nat) (cap:List Nat) (it:Env->ae->Res (List D)) (g:D->Env->Option Env) (t:Env->ae->Res Bool) (f:Env->ae->Res D):Env->ae->Res D:=λenv s =>
 ar (it env s) λds s=>gE ds (ar (eO nt (fk cap env) g t f ds s) λxs s=>ok (.aj s.length) (s++[.lst xs]))
noncomputable def cx:Env->ae->Res Bool:=λ_ s=>ok true s
noncomputable def aZ (np ns:Nat) (b:Env->ae->Res Fl):List D->ae->Res D:=λds s=>if ds.length=np then ar (b (ds.map some++List.replicate (ns-np) none) s) λfl s=>match fl with
 | .rt d=>ok d s
 | .nx _=>ok .aB s
 |_=>none else none
noncomputable abbrev cj:Wd->bq->Prop:=λ_ _=>False
noncomputable def bA (K:Frag) (f:List D->ae->Res D):Sp:=λvs H Q _=>∃w ds,w.H=H/\aN K w/\aq K w ds vs/\Out K cj w (f ds w.aI) λw' d=>∀v,DV K w' d v->Q v w'.H
section
variable {X:Cx} {Ξ:Wd->bq->Prop} {e a b c tg:Expr} {es rest:List Expr} {pos:Pos} {f g h:Env->ae->Res D} {fa:Env->ae->Res (List D)} {ft gt:Env->ae->Res Bool} {st:Stmt} {lQ yJ:List Stmt} {fs gs:Env->ae->Res Fl}
theorem fb:dE X [] (tS X.K Ξ cu):=Dw LG λD σ H aC=>by
 obtain⟨w,env,eH,S,eo,h⟩:=aC
 subst eH
 exact aG S h σ eo
theorem aL (h1:PS X st (tS X.K Ξ fs)) (h2:dE X lQ (tS X.K Ξ gs)):dE X (st::lQ) (tS X.K Ξ (ay fs gs)):=Dw (Ko h1 h2) λD σ H aC=>by
 obtain⟨w,env,eH,S,eo,h⟩:=aC
 subst eH
 refine⟨w,env,rfl,S,eo,(Out.ar h).mono λw1 fl l1 S1 h1=>?_⟩
 cases fl with
 |nx aD=>exact fun aU iO=>⟨w1,aD,rfl,S1,iO,h1⟩
 |rt d=>have q:=aG S1 h1;exact q
 |bk aD=>have q:=aG S1 h1;exact q
 |ct aD=>have q:=aG S1 h1;exact q
theorem aM (h1:PS X st (tS X.K Ξ fs)):dE X [st] (tS X.K Ξ fs):=LH h1
theorem bc (he:PE X e (tE X.K Ξ f)):PS X (.Return (some e) pos) (tS X.K Ξ (aQ f)):=iV (Ng he) λD σ H aC=>by
 obtain⟨w,env,eH,S,eo,h⟩:=aC
 subst eH
 exact⟨w,env,rfl,S,eo,(Out.ar h).mono λw1 d l1 S1 h1=>aG S1 h1⟩
theorem iW (he:PE X e (tE X.K Ξ f)) (hs:swapsWith e none pos.line X.env=pure false:=by rfl):PS X (.Expr e pos) (tS X.K Ξ (eG f)):=iV (LI he hs) λD σ H aC=>by
 obtain⟨w,env,eH,S,eo,h⟩:=aC
 subst eH
 exact⟨w,env,rfl,S,eo,(Out.ar h).mono λw1 d l1 S1 h1 _ _=>aG S1 h1 σ (eo.le l1)⟩
theorem eT (hc:PT X c (tT X.K Ξ ft)) (ha:dE X lQ (tS X.K Ξ fs)) (hb:dE X yJ (tS X.K Ξ gs)):PS X (.If c lQ yJ pos) (tS X.K Ξ (bX ft fs gs)):=iV (OD hc ha hb) λD σ H aC=>by
 obtain⟨w,env,eH,S,eo,h⟩:=aC
 subst eH
 refine⟨w,env,rfl,S,eo,(Out.ar h).mono λw1 b l1 S1 h1=>?_⟩
 cases b with
 |true=>exact⟨w1,env,rfl,S1,eo.le l1,h1⟩
 |false=>exact⟨w1,env,rfl,S1,eo.le l1,h1⟩
noncomputable def vd:Env->ae->Res Fl:=λ_ _=>none
theorem wj:dE X lQ (tS X.K Ξ vd):=λ_ _ _ _ _ _ h=>by obtain⟨w,env,_,_,_,h⟩:=h;exact h.elim
noncomputable def gD (K:Frag) (g:D->Env->Option Env):TG:=λv σ H Q=>∃w env d aD,w.H=H/\aN K w/\bP K w env σ/\DV K w d v/\g d env=some aD/\∀ aU,bP K w aD aU->Q aU H
noncomputable def rJ (K:Frag) (g:List D->Env->Option Env):gk:=λvs σ H Q=>∃w env ds aD,w.H=H/\aN K w/\bP K w env σ/\aq K w ds vs/\g ds env=some aD/\∀ aU,bP K w aD aU->Q aU H
theorem Et {t t':TG} (h:PG X e t) (i:∀v σ H Q,t' v σ H Q->t v σ H Q):PG X e t':=λpins s σ H v u Q I r hq=>h pins s σ H v u Q I r (i v σ H Q hq)
theorem Dx {t t':gk} (h:jL X es t) (i:∀v σ H Q,t' v σ H Q->t v σ H Q):jL X es t':=λpins s σ H v u Q I r hq=>h pins s σ H v u Q I r (i v σ H Q hq)
theorem cg (i:Nat) {x:Str} (hN:X.N.Nodup) (hi:X.N[i]?=some x:=by rfl) (hx:Loc X.env.scope x:=by first|exact Or.inl rfl|exact Or.inr rfl) (hf:X.fn x=true\/X.env.scope.names.lookup x=some .local:=by first|exact .inl rfl|exact .inr rfl):PG X (.Name x pos) (gD X.K (gN i)) :=
 Et (bB hN hi hx hf) λv σ H Q aC=>by
  obtain⟨w,env,d,aD,eH,S,eo,dv,eg,k⟩:=aC
  have e:env.set i (some d)=aD:=Option.some.inj eg
  subst e
  exact k _ (eo.set dv i)
theorem oh:jL X [] (rJ X.K (fU [])):=Dx pW λvs σ H Q aC=>by
 obtain⟨w,env,ds,aD,eH,S,eo,au,eg,k⟩:=aC
 cases ds with
 |nil =>
  have e:env=aD:=Option.some.inj eg
  subst e
  exact⟨au,k _ eo⟩
 |cons d ds=>cases eg
theorem f9 {g:D->Env->Option Env} {gl:List (D->Env->Option Env)} (h1:PG X e (gD X.K g)) (h2:jL X es (rJ X.K (fU gl)))
  (hs:(assignEach (e::es) X.env).map (·.2)=assign e X.env::(assignEach es X.env).map (·.2):=by rfl):jL X (e::es) (rJ X.K (fU (g::gl))):=Dx (j6 h1 h2 hs) λvs σ H Q aC=>by
 obtain⟨w,env,ds,aD,eH,S,eo,au,eg,k⟩:=aC
 cases ds with
 |nil=>cases eg
 |cons d ds =>
  obtain⟨v,r,rfl,dv,dr⟩:=au
  simp only[fU] at eg
  cases pf:g d env with
  |none=>rw[pf] at eg;cases eg
  |some uH =>
   rw[pf] at eg
   refine⟨v,r,rfl,w,env,d,uH,eH,S,eo,dv,pf,fun Gk Rt=>⟨w,uH,ds,aD,eH,S,Rt,dr,eg,k⟩⟩
theorem wk:∀{gl:List (D->Env->Option Env)} {ds:List D} {env aD:Env},fU gl ds env=some aD->ds.length=gl.length
 | [],[],_,_,_=>rfl
 |g::gl,d::ds,env,aD,h=>by
  simp only[fU] at h
  cases pf:g d env with
  |none=>rw[pf] at h;cases h
  |some e1=>rw[pf] at h;simp[wk h]
 | [],_::_,_,_,h=>by cases h
 |_::_,[],_,_,h=>by cases h
theorem oz {gl:List (D->Env->Option Env)} {k:Nat} (hc:X.calm=true) (h:jL X es (rJ X.K (fU gl))) (hn:(assignEach es X.env).length=gl.length:=by rfl) (qY:(assignEach es X.env).findIdx? (·.1)=none:=by rfl):PG X (.Tuple es k pos) (gD X.K (gT gl)) :=
 Et (k9 hc h hn qY) λv σ H Q aC=>by
  obtain⟨w,env,d,aD,eH,S,eo,dv,eg,k⟩:=aC
  cases d with
  |tup ds =>
   simp only[DV] at dv
   obtain⟨p,xs,e1,hq,au⟩:=dv
   subst eH
   exact⟨p,xs,e1,hq,by rw[<- au.length];exact wk eg,w,env,ds,aD,rfl,S,eo,au,eg,k⟩
  |_=>cases eg
theorem xf {K:Frag} {g:D->Env->Option Env} (D:Ends) (σ:St) (H:Hp):tS K Ξ (aO f g) D σ H->oI (tE K Ξ f) (gD K g) D σ H:=by
 rintro ⟨w,env,rfl,S,eo,h⟩
 refine⟨w,env,rfl,S,eo,(Out.ar h).mono λw1 d l1 S1 h1 v dv=>?_⟩
 cases hg:g d env with
 |none=>rw[hg] at h1;exact h1.elim
 |some aD =>
  rw[hg] at h1
  exact⟨w1,env,d,aD,rfl,S1,eo.le l1,dv,hg,aG S1 h1⟩
theorem oA {g:D->Env->Option Env} (he:PE X e (tE X.K Ξ f)) (hg:PG X tg (gD X.K g)) (hs:swapsWithSole [tg] e pos.line X.env=pure false:=by rfl) (hw:swappedStores [tg] e X.env=pure none:=by rfl)
  (h1:(assignEach [tg] X.env).map (·.2)=[assign tg X.env]:=by rfl):PS X (.Assign [tg] e pos) (tS X.K Ξ (aO f g)):=iV (xt he hg hs hw h1) xf
theorem Cf {K:Frag} {te:TE} {i:Nat} (D:Ends) (σ:St) (H:Hp):oI (tE K Ξ f) (gD K (gN i)) D σ H->oI (tE K Ξ f) (kh i) D σ H:=by
 rintro ⟨w,env,rfl,S,eo,h⟩
 refine⟨w,env,rfl,S,eo,h.mono λw1 d l1 S1 h1 v dv=>?_⟩
 obtain⟨w',uH,d',aD,e',S',iO,ni,eg,k⟩:=h1 v dv
 have e:uH.set i (some d')=aD:=Option.some.inj eg
 subst e
 exact k _ (iO.set ni i)
theorem bU (i:Nat) {x:Str} {pos':Pos} (hN:X.N.Nodup) (he:PE X e (tE X.K Ξ f)) (hi:X.N[i]?=some x:=by rfl) (hx:Loc X.env.scope x:=by first|exact Or.inl rfl|exact Or.inr rfl) (hs:swapsWith e (some (.Name x pos')) pos.line X.env=pure false:=by rfl) (hf:X.fn x=true\/X.env.scope.names.lookup x=some .local:=by first|exact .inl rfl|exact .inr rfl) :
  PS X (.Assign [.Name x pos'] e pos) (tS X.K Ξ (aO f (gN i))):=iV (Nh hN hi hx he hs hf) λD σ H h=>Cf (te:=tE X.K Ξ f) D σ H (xf D σ H h)
def nj (K:Frag) (w:Wd) (J:It) (ds:List D):Prop:=∀w',Le K w w'->aN K w'->∀i,
 (∀d,ds[i]?=some d->J.go i w'.H/\∀x H',J.qZ i w'.H x H'->∃w2,w2.H=H'/\Le K w' w2/\aN K w2/\w2.aI=w'.aI/\DV K w2 d x)/\(ds.length<=i->J.stop i w'.H)
noncomputable def dI (K:Frag) (Ξ:Wd->bq->Prop) (f:Env->ae->Res (List D)):TI:=fun σ H R=>∃w env,w.H=H/\aN K w/\bP K w env σ/\Out K Ξ w (f env w.aI) λw' ds=>∀J,nj K w' J ds->R J w'.H
theorem oj {t t':TI} (h:PI X tg e t) (i:∀ σ H R,t' σ H R->t σ H R):PI X tg e t':=λpins s σ H R I hq=>h pins s σ H R I (i σ H R hq)
theorem Mj {K:Frag} {it:Env->ae->Res (List D)} {g:D->Env->Option Env} (D0:Ends) (σ:St) (H:Hp):tS K Ξ (cw it g fs) D0 σ H->FN (dI K Ξ it) (gD K g) (tS K Ξ fs) D0 σ H:=by
 rintro ⟨w,env,rfl,S,eo,h⟩
 refine⟨w,env,rfl,S,eo,(Out.ar h).mono λw1 ds l1 S1 h1 J hJ=>?_⟩
 refine⟨λi m aU H'=>m=ds.length-i/\i<=ds.length/\∃w' aD,w'.H=H'/\Le K w1 w'/\aN K w'/\bP K w' aD aU/\Out K Ξ w' (jA g fs (ds.drop i) aD w'.aI) (yI K D0),
  ⟨ds.length,rfl,Nat.zero_le _,w1,env,rfl,Le.refl _,S1,eo.le l1,h1⟩,?_⟩
 rintro i m aU H' ⟨rfl,hi,w',aD,rfl,l',S',iO,h'⟩
 by_cases bh:i<ds.length
 ·right
  obtain⟨fJ,hy⟩:=(hJ w' l' S' i).1 _ (List.getElem?_eq_getElem bh)
  rw[List.drop_eq_getElem_cons bh] at h'
  simp only[jA] at h'
  cases hg:g ds[i] aD with
  |none=>rw[hg] at h';exact h'.elim
  |some iF =>
   rw[hg] at h'
   refine⟨fJ,fun kB H2=>∃w2 uJ,w2.H=H2/\Le K w1 w2/\aN K w2/\bP K w2 uJ kB/\Out K Ξ w2 (jA g fs (ds.drop (i+1)) uJ w2.aI) (yI K D0),fun kB H2 ⟨w2,uJ,q⟩=>⟨ds.length-(i+1),by omega,rfl,bh,w2,uJ,q⟩,λx H2 y=>?_⟩
   obtain⟨w2,rfl,l2,S2,es,dv⟩:=hy x H2 y
   refine⟨w2,aD,ds[i],iF,rfl,S2,iO.le l2,dv,hg,fun kB jP=>⟨w2,iF,rfl,S2,jP,?_⟩⟩
   rw[<- es] at h'
   refine(Out.ar (h'.from l2)).mono λw3 fl l3 S3 h3=>?_
   cases fl with
   |nx e3=>exact fun jM zC=>⟨w3,e3,rfl,l'.trans (l2.trans l3),S3,zC,h3⟩
   |ct e3=>exact fun jM zC=>⟨w3,e3,rfl,l'.trans (l2.trans l3),S3,zC,h3⟩
   |bk e3=>have q:=aG S3 h3;exact q
   |rt d=>have q:=aG S3 h3;exact q
 ·left
  have e:i=ds.length:=by omega
  subst e
  rw[List.drop_length] at h'
  exact⟨(hJ w' l' S' _).2 (Nat.le_refl _),aG S' h' aU iO⟩
theorem fR {iter:Expr} {it:Env->ae->Res (List D)} {g:D->Env->Option Env} (hp:PassesOwn (model X.prog X.w) X.A X.env X.xe) (hc:X.calm=true) (hi:PI X tg iter (dI X.K Ξ it)) (hg:PG X tg (gD X.K g)) (hb:dE X lQ (tS X.K Ξ fs))
  (hs:∀x,foldedSetIterable iter X.env x=pure x:=by intro _;rfl):PS X (.For tg iter lQ [] pos) (tS X.K Ξ (cw it g fs)):=iV (Nk hp hc hi hg hb hs) Mj
theorem Out.ne {α:Type} {K:Frag} {w:Wd} {r:Res α} {k:Wd->α->Prop} (h:Out K Ξ w (DI.ne r) k):Out K cj w r k:=by
 match r,h with
 |some (.ok a,s),h=>exact h
theorem bP.block {K:Frag} {w:Wd} {env:Env} {σ:St} (h:bP K w env σ) (nt:Nat) (cap:List Nat) (o:St) (ho:o.length=nt):bP K w (List.replicate nt none++fk cap env) (o++lj cap σ):=by
 refine⟨by simp[fk,lj,ho],λi d e=>?_⟩
 by_cases hi:i<nt
 ·rw[List.getElem?_append_left (by simpa using hi),List.getElem?_replicate,if_pos hi] at e
  cases e
 ·rw[List.getElem?_append_right (by simpa using Nat.le_of_not_lt hi)] at e
  rw[List.getElem?_append_right (by omega),ho]
  simp only[List.length_replicate] at e
  unfold fk at e
  unfold lj
  rw[List.getElem?_map] at e |-
  cases ej:cap[i-nt]? with
  |none=>rw[ej] at e;cases e
  |some j =>
   rw[ej] at e
   have ev:(env[j]?).getD none=some d:=Option.some.inj e
   have rA:env[j]?=some (some d):=by
    cases q:env[j]? with
    |none=>rw[q] at ev;cases ev
    |some z=>rw[q] at ev;exact congrArg some ev
   obtain⟨v,e1,e2⟩:=h.val j d rA
   exact⟨v,by rw[Option.map_some,e1];rfl,e2⟩
theorem Cg {K:Frag} {nt:Nat} {cap:List Nat} {it:Env->ae->Res (List D)} {g:D->Env->Option Env} {fin:List D->ae->Res D} (σ:St) (H:Hp) (Q:VK)
  (yK:∀(w2:Wd) (xs:List D) (vs:List V),aN K w2->aq K w2 xs vs->Out K Ξ w2 (fin xs w2.aI) (λw' d=>∀v,DV K w' d v->Q v w'.H)->∀p,w2.H p=none->Q (.ref p) (upd w2.H p (.lst vs))) :
  tE K Ξ (λenv s=>ar (it env s) λds s=>gE ds (ar (eO nt (fk cap env) g ft f ds s) fin)) σ H Q->ki (dI K Ξ it) nt cap (gD K g) (tT K cj ft) (tE K cj f) σ H Q:=by
 rintro ⟨w,env,rfl,S,eo,h⟩
 refine⟨w,env,rfl,S,eo,(Out.ar h).mono λw1 ds l1 S1 h1 J hJ=>?_⟩
 obtain⟨hz,h1⟩:=pP h1
 refine⟨λi m acc H'=>m=ds.length-i/\i<=ds.length/\acc.length<=i/\∃w' accD,w'.H=H'/\Le K w1 w'/\aN K w'/\aq K w' accD acc/\Out K Ξ w' (eO nt (fk cap env) g ft f (ds.drop i) w'.aI) λw2 xs=>∀vs,aq K w2 (accD++xs) vs->∀p,w2.H p=none->Q (.ref p) (upd w2.H p (.lst vs)),
  ⟨ds.length,rfl,Nat.zero_le _,Nat.zero_le _,w1,[],rfl,Le.refl _,S1,rfl,(Out.ar h1).mono λw2 xs l2 S2 h2 vs au p hp=>?_⟩,?_⟩
 ·exact yK w2 xs vs S2 au h2 p hp
 rintro i m acc H' ⟨rfl,hi,ha,w',accD,rfl,l',S',da,h'⟩
 by_cases bh:i<ds.length
 ·right
  obtain⟨fJ,hy⟩:=(hJ w' l' S' i).1 _ (List.getElem?_eq_getElem bh)
  rw[List.drop_eq_getElem_cons bh] at h'
  simp only[eO] at h'
  cases hg:g ds[i] (List.replicate nt none++fk cap env) with
  |none=>rw[hg] at h';exact h'.elim
  |some iF =>
   rw[hg] at h'
   refine⟨fJ,by omega,λuK H2=>uK.length<=i+1/\∃w' accD,w'.H=H2/\Le K w1 w'/\aN K w'/\aq K w' accD uK/\Out K Ξ w' (eO nt (fk cap env) g ft f (ds.drop (i+1)) w'.aI) λw2 xs=>∀vs,aq K w2 (accD++xs) vs->∀p,w2.H p=none->Q (.ref p) (upd w2.H p (.lst vs)),
    λuK H2 ⟨Ru,q⟩=>⟨ds.length-(i+1),by omega,rfl,bh,Ru,q⟩,λo x H3 ho y=>?_⟩
   obtain⟨w2,rfl,l2,S2,es,dv⟩:=hy x H3 y
   refine⟨w2,_,ds[i],iF,rfl,S2,(eo.le (l1.trans (l'.trans l2))).block nt cap o ho,dv,hg,fun kB jP=>?_⟩
   rw[<- es] at h'
   refine⟨w2,iF,rfl,S2,jP,(Out.ar (h'.from l2)).ne.mono λw3 b l3 S3 h3=>?_⟩
   cases b with
   |true =>
    refine⟨w3,iF,rfl,S3,jP.le l3,(Out.ar h3).ne.mono λw4 d l4 S4 h4 v zB=>⟨by rw[List.length_append];simp;omega,w4,accD++[d],rfl,l'.trans (l2.trans (l3.trans l4)),S4,aq.append ((l2.trans (l3.trans l4)).all da) (aq.one zB),(Out.ar h4).mono λw5 xs l5 S5 h5 vs au p hp=>?_⟩⟩
    exact aG S5 h5 vs (by rw[List.append_assoc] at au;exact au) p hp
   |false =>
    exact⟨by omega,w3,accD,rfl,l'.trans (l2.trans l3),S3,(l2.trans l3).all da,h3⟩
 ·left
  have e:i=ds.length:=by omega
  subst e
  rw[List.drop_length] at h'
  refine⟨(hJ w' l' S' _).2 (Nat.le_refl _),by omega,λp hp=>aG S' h' acc (by rw[List.append_nil];exact da) p hp⟩
theorem CM {K:Frag} {nt:Nat} {cap:List Nat} {it:Env->ae->Res (List D)} {g:D->Env->Option Env} (σ:St) (H:Hp) (Q:VK) :
  tE K Ξ (ba nt cap it g ft f) σ H Q->ki (dI K Ξ it) nt cap (gD K g) (tT K cj ft) (tE K cj f) σ H Q :=
 Cg σ H Q λw2 xs vs S2 au h2 p hp=>h2 (w2.grow p (.lst vs)) (Fw.grow hp).le (S2.grow hp) rfl (.ref p) ⟨p,vs,rfl,⟨(show ¬ w2.Z p from og S2 hp),dU⟩,(Fw.grow hp).le.all au⟩
theorem Jz {K:Frag} {nt:Nat} {cap:List Nat} {it:Env->ae->Res (List D)} {g:D->Env->Option Env} (σ:St) (H:Hp) (Q:VK) :
  tE K Ξ (qd nt cap it g ft f) σ H Q->ki (dI K Ξ it) nt cap (gD K g) (tT K cj ft) (tE K cj f) σ H Q :=
 Cg σ H Q λw2 xs vs S2 au h2 p hp=>by
  have le:=(Fw.cell (o:=.lst vs) (c:=.lst xs) S2 hp).le
  refine h2 (w2.cell p (.lst vs) (.lst xs)) le (S2.xX hp ⟨vs,dU,le.all au⟩) rfl (.ref p) ⟨p,?_,rfl⟩
  show (w2.ρ++[p])[w2.aI.length]?=some p
  rw[<- S2.len]
  simp
end
end DI
namespace DI
open PySem L2
theorem Dy {o caps:St} {v:V} {i nt:Nat} (ho:o.length=nt) (hi:i<nt):(o++caps).set i (some v)=o.set i (some v)++caps:=by
 rw[List.set_append_left _ _ (by omega)]
theorem JA {i nt:Nat} (hi:i<nt):kC (kh i) nt:=by
 intro x o caps H R ho h
 exact⟨⟨o.set i (some x),by rw[List.length_set];exact ho,Dy ho hi⟩,h⟩
def qH (g:gk) (nt:Nat):Prop:=∀(xs:List V) (o caps:St) (H:Hp) (R:St->Hp->Prop),o.length=nt->g xs (o++caps) H R->g xs (o++caps) H fun τ H2=>(∃o2:St,o2.length=nt/\τ=o2++caps)/\R τ H2
theorem KR {nt:Nat}:qH yt nt:=λxs o caps H R ho h=>⟨h.1,⟨o,ho,rfl⟩,h.2⟩
theorem JB {i nt:Nat} {g:gk} (hi:i<nt) (hg:qH g nt):qH (xS (kh i) g) nt:=by
 rintro xs o caps H R ho ⟨v,r,e,h⟩
 refine⟨v,r,e,?_⟩
 have h:g r ((o++caps).set i (some v)) H R:=h
 show g r ((o++caps).set i (some v)) H _
 rw[Dy ho hi] at h |-
 exact hg r _ caps H R (by rw[List.length_set];exact ho) h
theorem KS {K:Frag} {n nt:Nat} {g:gk} (hg:qH g nt):kC (yu K n g) nt:=by
 rintro x o caps H R ho ⟨a,xs,e,hq,hl,h⟩
 exact⟨a,xs,e,hq,hl,hg xs o caps H R ho h⟩
structure Tg (K:Frag) (g0:TG) (g:D->Env->Option Env) (nt:Nat):Prop where
 jk:kC g0 nt
 imp:∀v σ H Q,gD K g v σ H Q->g0 v σ H Q
structure ve (K:Frag) (g0:gk) (g:List (D->Env->Option Env)) (nt:Nat):Prop where
 jk:qH g0 nt
 imp:∀v σ H Q,rJ K (fU g) v σ H Q->g0 v σ H Q
theorem bS {K:Frag} (i:Nat) {nt:Nat} (hi:i<nt:=by decide):Tg K (kh i) (gN i) nt:=⟨JA hi,λv σ H Q aC=>by
 obtain⟨w,env,d,aD,eH,S,eo,dv,eg,k⟩:=aC
 have e:env.set i (some d)=aD:=Option.some.inj eg
 subst e
 exact k _ (eo.set dv i)⟩
theorem tB {K:Frag} {nt:Nat}:ve K yt [] nt:=⟨KR,λvs σ H Q aC=>by
 obtain⟨w,env,ds,aD,eH,S,eo,au,eg,k⟩:=aC
 cases ds with
 |nil =>
  have e:env=aD:=Option.some.inj eg
  subst e
  exact⟨au,k _ eo⟩
 |cons d ds=>cases eg⟩
theorem kQ {K:Frag} (i:Nat) {nt:Nat} {g0:gk} {gl:List (D->Env->Option Env)} (h:ve K g0 gl nt) (hi:i<nt:=by decide):ve K (xS (kh i) g0) (gN i::gl) nt:=⟨JB hi h.jk,λvs σ H Q aC=>by
 obtain⟨w,env,ds,aD,eH,S,eo,au,eg,k⟩:=aC
 cases ds with
 |nil=>cases eg
 |cons d ds =>
  obtain⟨v,r,rfl,dv,dr⟩:=au
  exact⟨v,r,rfl,h.imp _ _ _ _ ⟨w,_,ds,aD,eH,S,eo.set dv i,dr,eg,k⟩⟩⟩
theorem tW {K:Frag} {nt n:Nat} {g0:gk} {gl:List (D->Env->Option Env)} (h:ve K g0 gl nt) (hn:gl.length=n:=by rfl):Tg K (yu K n g0) (gT gl) nt:=⟨KS h.jk,λv σ H Q aC=>by
 obtain⟨w,env,d,aD,eH,S,eo,dv,eg,k⟩:=aC
 cases d with
 |tup ds =>
  simp only[DV] at dv
  obtain⟨p,xs,e1,hq,au⟩:=dv
  subst eH
  exact⟨p,xs,e1,hq,by rw[<- au.length,wk eg];exact hn,h.imp _ _ _ _ ⟨w,env,ds,aD,rfl,S,eo,au,eg,k⟩⟩
 |_=>cases eg⟩
section
variable {X:Cx} {Ξ:Wd->bq->Prop} {e a b c tg el src:Expr} {es rest tests:List Expr} {pos:Pos} {f g h:Env->ae->Res D} {fa:Env->ae->Res (List D)} {ft gt:Env->ae->Res Bool} {st:Stmt} {lQ yJ:List Stmt} {fs gs:Env->ae->Res Fl}
theorem NM {t t':TT} (h:PF X tests t) (i:∀ σ H Q,t' σ H Q->t σ H Q):PF X tests t':=λpins s σ H Q I hq=>h pins s σ H Q I (i σ H Q hq)
theorem dD {K:Frag}:PF X [] (tT K Ξ cx):=NM ND fun σ H Q aC=>by
 obtain⟨w,env,eH,S,eo,h⟩:=aC
 subst eH
 exact aG S h
theorem gb {K:Frag} (h:PT X c (tT K Ξ ft)):PF X [c] (tT K Ξ ft):=NF h
theorem vQ {wi:TI} {nt:Nat} {cap:List Nat} {g0 g1:TG} {tf:TT} {te:TE} (i_:∀v σ H Q,g1 v σ H Q->g0 v σ H Q) {σ:St} {H:Hp} {Q:VK} (wm:∀R R':It->Hp->Prop,(∀J H',R J H'->R' J H')->wi σ H R->wi σ H R') (h:ki wi nt cap g1 tf te σ H Q):ki wi nt cap g0 tf te σ H Q:=by
 refine wm _ _ (λJ H' hc=>?_) h
 obtain⟨W,w0,step⟩:=hc
 refine⟨W,w0,λi m acc H2 hw=>?_⟩
 rcases step i m acc H2 hw with q | ⟨q1,q2,N,q3,q4⟩
 ·exact .inl q
 ·exact .inr ⟨q1,q2,N,q3,λo x H3 ho y=>i_ _ _ _ _ (q4 o x H3 ho y)⟩
theorem wo {K:Frag} {it:Env->ae->Res (List D)} {σ:St} {H:Hp} (R R':It->Hp->Prop) (i:∀J H',R J H'->R' J H') (h:dI K Ξ it σ H R):dI K Ξ it σ H R':=by
 obtain⟨w,env,eH,S,eo,h⟩:=h
 exact⟨w,env,eH,S,eo,h.mono λw1 ds _ _ h1 J hJ=>i J _ (h1 J hJ)⟩
noncomputable def aW (f:Env->ae->Res D):Env->ae->Res (List D):=λenv s=>ar (f env s) λd s=>match d with
 | .lst ds=>ok ds s
 | .tup ds=>ok ds s
 |_=>none
theorem KU {K:Frag} {w:Wd} {a:Addr} {ds:List D} (h:DV K w (.lst ds) (.ref a)):nj K w (y0 K a) ds:=λw' l' S' i=>by
 have h':=l' _ _ h
 simp only[DV] at h'
 obtain⟨p,xs,e,hq,au⟩:=h'
 cases e
 refine⟨λd ed=>?_,λhl=>⟨xs,hq.sq,by rw[<- au.length];exact hl⟩⟩
 obtain⟨v,ev,dv⟩:=au.get' i d ed
 exact⟨⟨xs,v,hq.sq,ev⟩,λx H' ⟨e1,e2⟩=>⟨w',e1.symm,Le.refl _,S',rfl,by
  have q:=e2 xs hq.sq
  rw[ev] at q
  cases q
  exact dv⟩⟩
theorem Ml {K:Frag} {w:Wd} {a:Addr} {ds:List D} (h:DV K w (.tup ds) (.ref a)):nj K w (za K a) ds:=λw' l' S' i=>by
 have h':=l' _ _ h
 simp only[DV] at h'
 obtain⟨p,xs,e,hq,au⟩:=h'
 cases e
 refine⟨λd ed=>?_,λhl=>⟨xs,hq,by rw[<- au.length];exact hl⟩⟩
 obtain⟨v,ev,dv⟩:=au.get' i d ed
 exact⟨⟨xs,v,hq,ev⟩,λx H' ⟨e1,e2⟩=>⟨w',e1.symm,Le.refl _,S',rfl,by
  have q:=e2 xs hq
  rw[ev] at q
  cases q
  exact dv⟩⟩
theorem cU (hl:PE X a (tE X.K Ξ f)):PI X tg a (dI X.K Ξ (aW f)):=by
 have both:PI X tg a (fun σ H R=>E7 X.K (tE X.K Ξ f) σ H R\/FL X.K (tE X.K Ξ f) σ H R):=λpins s σ H R I h=>h.elim (LJ hl pins s σ H R I) (Nj hl pins s σ H R I)
 refine oj both fun σ H R ⟨w,env,eH,S,eo,h⟩=>?_
 subst eH
 simp only[aW] at h
 cases hf:f env w.aI with
 |none=>rw[hf] at h;exact h.elim
 |some r =>
  obtain⟨r,s⟩:=r
  rw[hf] at h
  cases r with
  |error x=>exact .inl ⟨w,env,rfl,S,eo,by rw[hf];exact h⟩
  |ok d =>
   rw[eM] at h
   cases d with
   |lst ds =>
    refine .inl ⟨w,env,rfl,S,eo,?_⟩
    rw[hf]
    intro w1 l1 S1 e1 v dv
    have ni:=dv
    simp only[DV] at dv
    obtain⟨p,xs,rfl,hq,au⟩:=dv
    exact⟨p,rfl,⟨xs,hq.sq⟩,h w1 l1 S1 e1 _ (KU ni)⟩
   |tup ds =>
    refine .inr ⟨w,env,rfl,S,eo,?_⟩
    rw[hf]
    intro w1 l1 S1 e1 v dv
    have ni:=dv
    simp only[DV] at dv
    obtain⟨p,xs,rfl,hq,au⟩:=dv
    exact⟨p,rfl,⟨xs,hq⟩,h w1 l1 S1 e1 _ (Ml ni)⟩
   |_=>exact h.elim
noncomputable def bR (lo:Int) (n:Nat):List D:=(List.range n).map λ(i:Nat)=>D.int (lo+(i:Int))
theorem gB {lo:Int} {n i:Nat}:(bR lo n)[i]?=if i<n then some (.int (lo+i)) else none:=by
 unfold bR
 rw[List.getElem?_map]
 by_cases h:i<n
 ·rw[List.getElem?_range h,if_pos h];rfl
 ·rw[List.getElem?_eq_none (by simp;omega),if_neg h];rfl
theorem cZ {lo:Int} {n:Nat}:(bR lo n).length=n:=by simp[bR]
theorem Dz {K:Frag} {w:Wd} {lo:Int} {n:Nat}:nj K w (q0 lo n) (bR lo n):=λw' l' S' i=>by
 refine⟨λd ed=>?_,λhl=>by rw[cZ] at hl;exact hl⟩
 rw[gB] at ed
 split at ed
 ·cases ed
  exact⟨by assumption,λx H' ⟨e1,e2⟩=>⟨w',e1.symm,Le.refl _,S',rfl,e2⟩⟩
 ·cases ed
noncomputable def iB (j:Int):Bool:=decide (-(2 ^ 62)<=j)&&decide (j<2 ^ 62)
noncomputable def bE (fa:Env->ae->Res (List D)):Env->ae->Res (List D):=λenv s=>ar (fa env s) λds s=>match ds with
 | [.int j]=>if iB j=true then ok (bR 0 j.toNat) s else none
 |_=>none
noncomputable def rK (fa:Env->ae->Res (List D)):Env->ae->Res (List D):=λenv s=>ar (fa env s) λds s=>match ds with
 | [.int i,.int j]=>if (iB i&&iB j)=true then ok (bR i (j-i).toNat) s else none
 |_=>none
theorem de {p:Pos} (hg:Gl X "range") (hm:X.mg "range"=none) (ha:PA X [a] (tA X.K Ξ fa)) (hs:starEach [a] X.env=[(false,eval a X.env)]:=by rfl):PI X tg (.Call (.Name "range" p) [a] [] pos) (dI X.K Ξ (bE fa)) :=
 oj (Jk hg hm ha hs) fun σ H R aC=>by
  obtain⟨w,env,eH,S,eo,h⟩:=aC
  subst eH
  refine⟨w,env,rfl,S,eo,(Out.ar h).mono λw1 ds l1 S1 h1 vs au=>?_⟩
  split at h1
  ·rename_i j
   split at h1
   ·rename_i hj
    simp only[iB,Bool.and_eq_true,decide_eq_true_eq] at hj
    obtain⟨v,r,rfl,dv,dr⟩:=au
    have e1:v=.int j:=dv
    have e2:r=[]:=dr
    subst e1 e2
    exact⟨j,rfl,hj.1,hj.2,aG S1 h1 _ Dz⟩
   ·exact h1.elim
  ·exact h1.elim
theorem Eu {p:Pos} (hg:Gl X "range") (hm:X.mg "range"=none) (ha:PA X [a,b] (tA X.K Ξ fa)) (hs:starEach [a,b] X.env=[(false,eval a X.env),(false,eval b X.env)]:=by rfl) (dF:starEach [b] X.env=[(false,eval b X.env)]:=by rfl):PI X tg (.Call (.Name "range" p) [a,b] [] pos) (dI X.K Ξ (rK fa)) :=
 oj (Jl hg hm ha hs dF) fun σ H R aC=>by
  obtain⟨w,env,eH,S,eo,h⟩:=aC
  subst eH
  refine⟨w,env,rfl,S,eo,(Out.ar h).mono λw1 ds l1 S1 h1 vs au=>?_⟩
  split at h1
  ·rename_i i j
   split at h1
   ·rename_i hj
    simp only[iB,Bool.and_eq_true,decide_eq_true_eq] at hj
    obtain⟨v,r,rfl,dv,v2,r2,rfl,jj,dr⟩:=au
    have e1:v=.int i:=dv
    have e2:v2=.int j:=jj
    have e3:r2=[]:=dr
    subst e1 e2 e3
    exact⟨i,j,rfl,⟨hj.1.1,hj.1.2,hj.2.1,hj.2.2⟩,aG S1 h1 _ Dz⟩
   ·exact h1.elim
  ·exact h1.elim
noncomputable def hX (xs ys:List D):List D:=(xs.zip ys).map λp=>.tup [p.1,p.2]
theorem KW {xs ys:List D} {i:Nat} {d:D} (h:(hX xs ys)[i]?=some d):∃x y,xs[i]?=some x/\ys[i]?=some y/\d=.tup [x,y]:=by
 unfold hX at h
 rw[List.getElem?_map] at h
 cases hz:(xs.zip ys)[i]? with
 |none=>rw[hz] at h;cases h
 |some p =>
  rw[hz] at h
  obtain⟨q1,q2⟩:=List.getElem?_zip_eq_some.mp hz
  exact⟨p.1,p.2,q1,q2,(Option.some.inj h).symm⟩
theorem wq {xs ys:List D}:(hX xs ys).length=min xs.length ys.length:=by simp[hX]
theorem JC {K:Frag} {w':Wd} {d d2:D} {x y:V} {p:Addr} (S':aN K w') (hp:w'.H p=none) (h1:DV K w' d x) (h2:DV K w' d2 y) :
  ∃w2,w2.H=upd w'.H p (.tup [x,y])/\Le K w' w2/\aN K w2/\w2.aI=w'.aI/\DV K w2 (.tup [d,d2]) (.ref p) :=
 ⟨w'.grow p (.tup [x,y]),rfl,(Fw.grow hp).le,S'.grow hp,rfl,p,[x,y],rfl,aR.of dU,(Fw.grow hp).le.all (aq.two h1 h2)⟩
theorem KY {K:Frag} {w:Wd} {a b:Addr} {ds es:List D} (h:DV K w (.tup ds) (.ref a)) (g:DV K w (.tup es) (.ref b)):nj K w (yE K a b) (hX ds es):=λw' l' S' i=>by
 have h':=l' _ _ h
 have g':=l' _ _ g
 simp only[DV] at h' g'
 obtain⟨p,xs,e,hq,au⟩:=h'
 obtain⟨q,ys,e',gq,GH⟩:=g'
 cases e;cases e'
 refine⟨λd ed=>?_,λhl=>⟨xs,ys,hq,gq,?_⟩⟩
 ·obtain⟨x,y,e1,e2,rfl⟩:=KW ed
  obtain⟨v,ev,dv⟩:=au.get' i x e1
  obtain⟨u,eu,du⟩:=GH.get' i y e2
  refine⟨⟨xs,ys,v,u,hq,gq,ev,eu⟩,λz H' ⟨r,x1,y1,hr,ez,eH,Rv⟩=>?_⟩
  obtain⟨q1,q2⟩:=Rv xs ys hq gq
  rw[ev] at q1;rw[eu] at q2
  cases q1;cases q2
  subst ez eH
  exact JC S' hr dv du
 ·rw[wq] at hl
  have:=au.length
  have:=GH.length
  omega
noncomputable def oO (fa:Env->ae->Res (List D)):Env->ae->Res (List D):=λenv s=>ar (fa env s) λds s=>match ds with
 | [.tup xs,.tup ys]=>ok (hX xs ys) s
 |_=>none
theorem O7 {p:Pos} {elts:List Expr} {kk:Nat} {yy:Pos} (hg:Gl X "zip") (hm:X.mg "zip"=none) (ha:PA X [a,b] (tA X.K Ξ fa)) (hs:starEach [a,b] X.env=[(false,eval a X.env),(false,eval b X.env)]:=by rfl) (dF:starEach [b] X.env=[(false,eval b X.env)]:=by rfl) :
  PI X (.Tuple elts kk yy) (.Call (.Name "zip" p) [a,b] [] pos) (dI X.K Ξ (oO fa)):=by
 refine oj (L7 hg hm ha hs dF) fun σ H R aC=>?_
 obtain⟨w,env,eH,S,eo,h⟩:=aC
 subst eH
 refine⟨w,env,rfl,S,eo,(Out.ar h).mono λw1 ds l1 S1 h vs au=>?_⟩
 split at h
 ·obtain⟨v,r,rfl,dv,v2,r2,rfl,jj,dr⟩:=au
  have e3:r2=[]:=dr
  subst e3
  have q1:=dv
  have q2:=jj
  simp only[DV] at q1 q2
  obtain⟨p,xs,rfl,hq,_⟩:=q1
  obtain⟨q,ys,rfl,gq,_⟩:=q2
  exact⟨p,q,xs,ys,rfl,hq,gq,aG S1 h _ (KY dv jj)⟩
 ·exact h.elim
noncomputable def ax (fn:List D->ae->Res D) (fa:Env->ae->Res (List D)):Env->ae->Res D:=λenv s=>ar (fa env s) λds s=>ne (fn ds s)
theorem aF {k:Nat} {fA:Addr} {fd:FuncData} {GI:List Str} {fn:List D->ae->Res D} {x:Str} {p:Pos} (F:aS X.prog X.w X.K X.mg X.base aY k fA fd GI (bA X.K fn)) (hr:cN k X.A) (hg:Gl X x) (hm:X.mg x=some (.ref fA)) (hk:PySem.W.keepIn X.K (.ref fA)=true) (hb:Binds X.K fd GI [])
  (ha:PA X (e::es) (tA X.K Ξ fa)) (jg:(x==("__debug__":Str))=false:=by decide) (he:starEach (e::es) X.env=(false,eval e X.env)::starEach es X.env:=by rfl) (cT:(backTo pos (starEach es X.env)).any (·.1)=false:=by rfl) :
  PE X (.Call (.Name x p) (e::es) [] pos) (tE X.K Ξ (ax fn fa)):=cP (LN F hr hg hm hk hb .nil OY ha jg he cT) fun σ H Q aC=>by
 obtain⟨w,env,eH,S,eo,h⟩:=aC
 subst eH
 refine⟨w,env,rfl,S,eo,(Out.ar h).mono λw1 ds l1 S1 h1 vs au=>?_⟩
 show bA X.K fn (vs++[]) w1.H Q E0
 rw[List.append_nil]
 exact⟨w1,ds,rfl,S1,au,h1.ne⟩
theorem aq.env {K:Frag} {w:Wd} {ds:List D} {vs:List V} (h:aq K w ds vs) (n:Nat):bP K w (ds.map some++List.replicate (n-ds.length) none) (vs.map some++List.replicate (n-vs.length) none):=by
 have hl:=h.length
 refine⟨by simp[hl],λi d e=>?_⟩
 by_cases hi:i<ds.length
 ·rw[List.getElem?_append_left (by simpa using hi),List.getElem?_map] at e
  rw[List.getElem?_append_left (by simp;omega),List.getElem?_map]
  cases hd:ds[i]? with
  |none=>rw[hd] at e;cases e
  |some d' =>
   rw[hd] at e
   cases e
   obtain⟨v,ev,dv⟩:=h.get' i d hd
   exact⟨v,by rw[ev];rfl,dv⟩
 ·rw[List.getElem?_append_right (by simpa using Nat.le_of_not_lt hi),List.getElem?_replicate] at e
  split at e<;>cases e
end
theorem bH {P:Program} {w:World} {K:Frag} {mg:Str->Option Value} {base:Heap} {x qual:Str} {st:Stmt} {f:Addr} {fd:FuncData} {N ps:List Str} {k:Nat} {b:Env->ae->Res Fl} (F:m8 K x qual st f fd) (S:bt N ps (aV st))
  (hb:∀(aX:Value) (A:Around) (outer:List PySem.Env) (s:Shared) (H:Hp) (E:XK),cN k (A.deeper (PyProof.Rows.envOfC qual (aV st) s.heap.objs.size f aX))->dE (mO aY P w K mg base N qual (aV st) f aX A outer s H E).qX (kb st) (tS K cj b)) :
  aS P w K mg base aY (k+1) f fd ps (bA K (aZ ps.length N.length b)):=by
 refine F.ok S (λvs H Q E h=>?_) (λaX A outer s H vs Q E hr h=>?_)
 ·obtain⟨w,ds,rfl,S,au,h⟩:=h
  rw[<- au.length]
  unfold aZ at h
  split at h
  ·assumption
  ·exact h.elim
 ·obtain⟨w,ds,rfl,S,au,h⟩:=h
  refine⟨_,hb aX A outer s w.H E hr,?_⟩
  unfold aZ at h
  split at h
  ·rename_i hl
   rw[<- hl] at h
   refine⟨w,_,rfl,S,au.env N.length,(Out.ar h).mono λw1 fl l1 S1 h1=>?_⟩
   cases fl with
   |nx env=>intro aU _;exact aG S1 h1 _ rfl
   |rt d=>have q:=aG S1 h1;exact q
   |bk env=>exact h1.elim
   |ct env=>exact h1.elim
  ·exact h.elim
end DI
namespace DI
open PySem L2
mutual
noncomputable def py:D->PyData
 | .aB=>.none
 | .bl b=>.bool b
 | .int i=>.int i
 | .str x=>.str x
 | .tup ds=>.tuple (bY ds)
 | .lst ds=>.list (bY ds)
 | .bC ao=>.dict (ao.map λp=>(qG p.1,PyData.int p.2))
 | .aj _=>.none
 | .ty _=>.none
 | .bF _=>.none
noncomputable def bY:List D->List PyData
 | []=>[]
 |d::ds=>py d::bY ds
end
mutual
noncomputable def plain:D->Bool
 | .aB=>true
 | .bl _=>true
 | .int _=>true
 | .str _=>true
 | .tup ds=>ke ds
 | .lst ds=>ke ds
 | .bC _=>true
 | .aj _=>false
 | .ty _=>false
 | .bF _=>false
noncomputable def ke:List D->Bool
 | []=>true
 |d::ds=>plain d&&ke ds
end
mutual
noncomputable def lay:D->Bool
 | .aB=>true
 | .bl _=>true
 | .int _=>true
 | .str x=>PyData.strOk x
 | .tup ds=>cV ds
 | .lst ds=>cV ds
 | .bC _=>false
 | .aj _=>false
 | .ty _=>false
 | .bF _=>false
noncomputable def cV:List D->Bool
 | []=>true
 |d::ds=>lay d&&cV ds
end
mutual
noncomputable def dep:D->Nat
 | .tup ds=>cG ds+1
 | .lst ds=>cG ds+1
 | .bC ao=>1
 | .aB=>0
 | .bl _=>0
 | .int _=>0
 | .str _=>0
 | .aj _=>0
 | .ty _=>0
 | .bF _=>0
noncomputable def cG:List D->Nat
 | []=>0
 |d::ds=>max (dep d) (cG ds)
end
mutual
noncomputable def beq:D->D->Bool
 | .aB,.aB=>true
 | .bl a,.bl b=>a==b
 | .bl a,.int j=>(if a then 1 else 0)==j
 | .int i,.bl b=>i==(if b then 1 else 0)
 | .int i,.int j=>i==j
 | .str x,.str y=>x==y
 | .tup xs,.tup ys=>gJ xs ys
 | .lst xs,.lst ys=>gJ xs ys
 |_,_=>false
noncomputable def gJ:List D->List D->Bool
 | [],[]=>true
 |x::xs,y::ys=>beq x y&&gJ xs ys
 |_,_=>false
end
mutual
theorem l7:∀(d:D),lay d=true->plain d=true
 | .aB,_=>rfl
 | .bl _,_=>rfl
 | .int _,_=>rfl
 | .str _,_=>rfl
 | .tup ds,h=>by simp only[lay,plain] at h |-;exact lZ ds h
 | .lst ds,h=>by simp only[lay,plain] at h |-;exact lZ ds h
 | .bC _,h=>by simp[lay] at h
 | .aj _,h=>by simp[lay] at h
 | .ty _,h=>by simp[lay] at h
 | .bF _,h=>by simp[lay] at h
theorem lZ:∀(ds:List D),cV ds=true->ke ds=true
 | [],_=>rfl
 |d::ds,h=>by
  simp only[cV,ke,Bool.and_eq_true] at h |-
  exact⟨l7 d h.1,lZ ds h.2⟩
end
mutual
theorem iX:∀(d:D),lay d=true->(py d).canLay0=true/\(py d).depth=dep d
 | .aB,_=>⟨rfl,by simp[py,dep,PyData.depth]⟩
 | .bl _,_=>⟨rfl,by simp[py,dep,PyData.depth]⟩
 | .int _,_=>⟨rfl,by simp[py,dep,PyData.depth]⟩
 | .str _,h=>⟨h,by simp[py,dep,PyData.depth]⟩
 | .tup ds,h=>by
  obtain⟨h1,h2⟩:=pQ ds (by simpa [lay] using h)
  simp only[py,dep,PyData.depth,PyData.canLay0]
  exact⟨h1,by rw[h2]⟩
 | .lst ds,h=>by
  obtain⟨h1,h2⟩:=pQ ds (by simpa [lay] using h)
  simp only[py,dep,PyData.depth,PyData.canLay0]
  exact⟨h1,by rw[h2]⟩
 | .bC _,h=>by simp[lay] at h
 | .aj _,h=>by simp[lay] at h
 | .ty _,h=>by simp[lay] at h
 | .bF _,h=>by simp[lay] at h
theorem pQ:∀(ds:List D),cV ds=true->PyData.canLayAll0 (bY ds)=true/\PyData.depthAll (bY ds)=cG ds
 | [],_=>⟨rfl,rfl⟩
 |d::ds,h=>by
  simp only[cV,Bool.and_eq_true] at h
  obtain⟨a1,a2⟩:=iX d h.1
  obtain⟨b1,b2⟩:=pQ ds h.2
  simp only[bY,cG,PyData.canLayAll0,PyData.depthAll,a1,b1,a2,b2,Bool.and_self,and_self]
end
mutual
theorem om:∀(d e:D),lay d=true->lay e=true->PyData.eqv (py d) (py e)=beq d e
 | .tup xs,.tup ys,h,g=>by
  simp only[py,beq,PyData.eqv]
  exact wu xs ys (by simpa [lay] using h) (by simpa [lay] using g)
 | .lst xs,.lst ys,h,g=>by
  simp only[py,beq,PyData.eqv]
  exact wu xs ys (by simpa [lay] using h) (by simpa [lay] using g)
 | .aB,e,_,g=>by cases e<;>simp_all [py,beq,PyData.eqv,lay]
 | .bl _,e,_,g=>by cases e<;>simp_all [py,beq,PyData.eqv,lay]
 | .int _,e,_,g=>by cases e<;>simp_all [py,beq,PyData.eqv,lay]
 | .str _,e,_,g=>by cases e<;>simp_all [py,beq,PyData.eqv,lay]
 | .tup _,.aB,_,_=>by simp[py,beq,PyData.eqv]
 | .tup _,.bl _,_,_=>by simp[py,beq,PyData.eqv]
 | .tup _,.int _,_,_=>by simp[py,beq,PyData.eqv]
 | .tup _,.str _,_,_=>by simp[py,beq,PyData.eqv]
 | .tup _,.lst _,_,_=>by simp[py,beq,PyData.eqv]
 | .lst _,.aB,_,_=>by simp[py,beq,PyData.eqv]
 | .lst _,.bl _,_,_=>by simp[py,beq,PyData.eqv]
 | .lst _,.int _,_,_=>by simp[py,beq,PyData.eqv]
 | .lst _,.str _,_,_=>by simp[py,beq,PyData.eqv]
 | .lst _,.tup _,_,_=>by simp[py,beq,PyData.eqv]
 | .bC _,_,h,_=>by simp[lay] at h
 | .aj _,_,h,_=>by simp[lay] at h
 | .ty _,_,h,_=>by simp[lay] at h
 | .bF _,_,h,_=>by simp[lay] at h
 |_,.bC _,_,h=>by simp[lay] at h
 |_,.aj _,_,h=>by simp[lay] at h
 |_,.ty _,_,h=>by simp[lay] at h
 |_,.bF _,_,h=>by simp[lay] at h
theorem wu:∀(ds es:List D),cV ds=true->cV es=true->PyData.eqvAll (bY ds) (bY es)=gJ ds es
 | [],[],_,_=>rfl
 | [],_::_,_,_=>rfl
 |_::_,[],_,_=>rfl
 |d::ds,e::es,h,g=>by
  simp only[cV,Bool.and_eq_true] at h g
  simp only[bY,gJ,PyData.eqvAll,om d e h.1 g.1,wu ds es h.2 g.2]
end
mutual
theorem DV.py {K:Frag} {w:Wd}:∀{d:D} {v:V},DV K w d v->plain d=true->L2.DV K (λ_=>False) w.H (DI.py d) v
 | .aB,_,h,_=>h
 | .bl _,_,h,_=>h
 | .int _,_,h,_=>h
 | .str _,_,h,_=>h
 | .tup ds,v,h,p=>by
  simp only[DV] at h
  obtain⟨a,xs,e,hq,r⟩:=h
  simp only[DI.py,L2.DV]
  exact⟨a,xs,e,hq,aq.py r (by simpa [plain] using p)⟩
 | .lst ds,v,h,p=>by
  simp only[DV] at h
  obtain⟨a,xs,e,hq,r⟩:=h
  simp only[DI.py,L2.DV]
  exact⟨a,xs,e,not_false,hq.2,aq.py r (by simpa [plain] using p)⟩
 | .bC ao,v,h,p=>by
  simp only[DV] at h
  obtain⟨a,e,hz,hq⟩:=h
  simp only[DI.py,L2.DV]
  exact⟨a,_,e,not_false,hq,ao,rfl,rfl⟩
 | .aj _,_,_,p=>by simp[plain] at p
 | .ty _,_,_,p=>by simp[plain] at p
 | .bF _,_,_,p=>by simp[plain] at p
theorem aq.py {K:Frag} {w:Wd}:∀{ds:List D} {vs:List V},aq K w ds vs->ke ds=true->L2.aq K (λ_=>False) w.H (DI.bY ds) vs
 | [],_,h,_=>h
 |d::ds,vs,h,p=>by
  simp only[aq] at h
  obtain⟨v,r,e,h1,h2⟩:=h
  simp only[ke,Bool.and_eq_true] at p
  exact⟨v,r,e,DV.py h1 p.1,aq.py h2 p.2⟩
end
noncomputable def res (d:D) (s:ae):D:=match d with
 | .aj k=>match s[k]? with
  |some (.lst ds)=>.lst ds
  |_=>d
 |_=>d
theorem DV.res {K:Frag} {w:Wd} {d:D} {v:V} (S:aN K w) (h:DV K w d v) (p:plain (DI.res d w.aI)=true):L2.DV K (λ_=>False) w.H (DI.py (DI.res d w.aI)) v:=by
 cases d with
 |aj k =>
  unfold DI.res at p |-
  simp only at p |-
  split at p<;>rename_i hk
  ·rename_i ds
   obtain⟨a,e1,rfl⟩:=h
   obtain⟨xs,q1,q2⟩:=S.cell k a _ e1 hk
   simp only[DI.py,L2.DV]
   exact⟨a,xs,rfl,not_false,q1,q2.py (by simpa [plain] using p)⟩
  ·simp[plain] at p
 |_=>exact h.py p
noncomputable def nk:D->Bool
 | .str _=>true
 |_=>false
theorem NN {d:D} (h:nk d=true):∃x,d=.str x:=by cases d<;>first|exact⟨_,rfl⟩|cases h
noncomputable def jB (x y:D):Option Bool:=if (nk x&&nk y)=true then some (beq x y) else if (lay x&&lay y&&decide (min (dep x) (dep y)<=100))=true then some (beq x y) else none
noncomputable def aT (x y:D) (s:ae):Res D:=match jB (res x s) (res y s) with
 |some b=>ok (.bl b) s
 |none=>none
noncomputable def gK (x y:D) (s:ae):Res D:=match jB (res x s) (res y s) with
 |some b=>ok (.bl (!b)) s
 |none=>none
theorem DA {K:Frag} {w:Wd} {x y:D} {v u:V} {b:Bool} (S:aN K w) (hx:DV K w x v) (hy:DV K w y u) (h:jB (res x w.aI) (res y w.aI)=some b) :
  (yx v u=true/\decide (v=u)=b)\/∃(d e:PyData),L2.DV K (λ_=>False) w.H d v/\L2.DV K (λ_=>False) w.H e u/\d.canLay0=true/\e.canLay0=true/\min d.depth e.depth<=100/\PyData.eqv d e=b:=by
 have str:∀{d:D} {v:V},nk (res d w.aI)=true->DV K w d v->∃x,res d w.aI=.str x/\v=.str x:=λ{d v} hs hd=>by
  obtain⟨x,e⟩:=NN hs
  cases d with
  |str y=>cases e;exact⟨x,rfl,hd⟩
  |aj k =>
   unfold res at e
   simp only at e
   split at e<;>cases e
  |_=>cases e
 unfold jB at h
 split at h
 ·rename_i hs
  rw[Bool.and_eq_true] at hs
  obtain⟨a,ea,rfl⟩:=str hs.1 hx
  obtain⟨c,ec,rfl⟩:=str hs.2 hy
  rw[ea,ec] at h
  exact .inl ⟨rfl,by rw[<- Option.some.inj h];exact wV⟩
 split at h
 ·rename_i hl
  right
  simp only[Bool.and_eq_true,decide_eq_true_eq] at hl
  obtain⟨⟨l1,l2⟩,l3⟩:=hl
  obtain⟨p1,p2⟩:=iX _ l1
  obtain⟨q1,q2⟩:=iX _ l2
  exact⟨_,_,hx.res S (l7 _ l1),hy.res S (l7 _ l2),p1,q1,by rw[p2,q2];exact l3,by rw[om _ _ l1 l2];exact Option.some.inj h⟩
 ·cases h
section
variable {X:Cx} {Ξ:Wd->bq->Prop}
theorem dY {k:Nat} (hr:cN k X.A):bg X (compareOp .Eq) (rO X.K Ξ aT):=by
 rintro pins s σ H x y v u Q I rx ry ⟨w,dx,dy,rfl,S,hx,hy,h⟩
 unfold aT at h
 split at h
 ·rename_i b hb
  rcases DA S hx hy hb with ⟨h1,h2⟩ | ⟨d,e,h1,h2,h3,h4,h5,h6⟩
  ·exact OI pins s σ w.H x y v u Q I rx ry ⟨h1,by rw[h2];exact aG S h _ rfl⟩
  exact NG hr pins s σ w.H x y v u Q I rx ry ⟨d,e,_,h1,h2,h3,h4,h5,by simp only[Bool.false_eq_true,if_false];rw[h6];exact aG S h _ rfl⟩
 ·exact h.elim
theorem oP {k:Nat} (hr:cN k X.A):bg X (compareOp .NotEq) (rO X.K Ξ gK):=by
 rintro pins s σ H x y v u Q I rx ry ⟨w,dx,dy,rfl,S,hx,hy,h⟩
 unfold gK at h
 split at h
 ·rename_i b hb
  rcases DA S hx hy hb with ⟨h1,h2⟩ | ⟨d,e,h1,h2,h3,h4,h5,h6⟩
  ·exact OJ pins s σ w.H x y v u Q I rx ry ⟨h1,by rw[h2];exact aG S h _ rfl⟩
  exact NH hr pins s σ w.H x y v u Q I rx ry ⟨d,e,_,h1,h2,h3,h4,h5,by simp only[if_true];rw[h6];exact aG S h _ rfl⟩
 ·exact h.elim
end
end DI
namespace DI
open PySem L2
noncomputable def bG (r:Option D) (s:ae):Res D:=match r with
 |some d=>ok d s
 |none=>none
theorem eJ {K:Frag} {Ξ:Wd->bq->Prop} {w:Wd} {r:Option D} {k:Wd->D->Prop} (h:Out K Ξ w (bG r w.aI) k):∃d,r=some d/\Out K Ξ w (ok d w.aI) k:=by
 unfold bG at h
 split at h
 ·exact⟨_,rfl,h⟩
 ·exact h.elim
noncomputable def qI (xs ys:List D):Bool:=decide (xs.length+ys.length<=sizeLine)
noncomputable def uL:D->D->Option D
 | .int i,.int j=>some (.int (i+j))
 | .tup xs,.tup ys=>if qI xs ys=true then some (.tup (xs++ys)) else none
 | .lst xs,.lst ys=>if qI xs ys=true then some (.lst (xs++ys)) else none
 | .str x,.str y=>if decide (x.length+y.length<=sizeLine)=true then some (.str (x++y)) else none
 |_,_=>none
noncomputable def cM (x y:D) (s:ae):Res D:=bG (uL (res x s) (res y s)) s
noncomputable def FX:D->D->Option D
 | .int i,.int j=>some (.int (i-j))
 |_,_=>none
noncomputable def qr (x y:D) (s:ae):Res D:=bG (FX x y) s
noncomputable def qt (i j:Int):Bool:=(decide (-(2 ^ 64)<i)&&decide (i<2 ^ 64))||(decide (-(2 ^ 64)<j)&&decide (j<2 ^ 64))
noncomputable def yL:D->D->Option D
 | .int i,.int j=>if qt i j=true then some (.int (i*j)) else none
 | .tup xs,.int k=>if (!xs.isEmpty&&decide (1<=k)&&decide (xs.length*k.toNat<=sizeLine))=true then some (.tup (List.replicate k.toNat xs).flatten) else none
 | .lst xs,.int k=>if (decide (-(2 ^ 63)<=k)&&decide (k<2 ^ 63)&&decide (xs.length*k.toNat<=sizeLine))=true then some (.lst (List.replicate k.toNat xs).flatten) else none
 |_,_=>none
noncomputable def gY (x y:D) (s:ae):Res D:=bG (yL x y) s
noncomputable def yM:D->D->Option D
 | .int i,.int j=>if decide (0<j)=true then some (.int (i % j)) else none
 |_,_=>none
noncomputable def km (x y:D) (s:ae):Res D:=bG (yM x y) s
noncomputable def yN:D->D->Option D
 | .int i,.int j=>if (decide (0<j)&&decide (j<1073741824))=true then some (.int (i / j)) else none
 |_,_=>none
noncomputable def qu (x y:D) (s:ae):Res D:=bG (yN x y) s
noncomputable def yO:D->D->Option D
 | .int i,.int j=>if (decide (0<=j)&&decide (j<=1000000)&&decide (i.natAbs<2 ^ 64))=true then some (.int (i ^ j.toNat)) else none
 |_,_=>none
noncomputable def ui (x y:D) (s:ae):Res D:=bG (yO x y) s
noncomputable def FY:D->Option D
 | .int i=>some (.int (-i))
 |_=>none
noncomputable def qv (x:D) (s:ae):Res D:=bG (FY x) s
theorem aq.flat {K:Frag} {w:Wd} {ds:List D} {vs:List V} (h:aq K w ds vs):∀n:Nat,aq K w (List.replicate n ds).flatten (List.replicate n vs).flatten
 |0=>rfl
 |n+1=>by
  rw[List.replicate_succ,List.replicate_succ,List.flatten_cons,List.flatten_cons]
  exact aq.append h (aq.flat h n)
theorem iS {K:Frag} {w:Wd} {d:D} {v:V} {ds:List D} (S:aN K w) (h:DV K w d v) (e:res d w.aI=.lst ds):∃a xs,v=.ref a/\w.H a=some (.lst xs)/\aq K w ds xs:=by
 unfold res at e
 split at e
 ·rename_i k
  split at e
  ·rename_i es hk
   cases e
   obtain⟨a,e1,rfl⟩:=h
   obtain⟨xs,q1,q2⟩:=S.cell k a _ e1 hk
   exact⟨a,xs,rfl,q1,q2⟩
  ·cases e
 ·subst e
  simp only[DV] at h
  obtain⟨a,xs,e,hq,r⟩:=h
  exact⟨a,xs,e,hq.2,r⟩
theorem dW {d e:D} {s:ae} (h:res d s=e) (hl:∀ds,e≠.lst ds):d=e:=by
 unfold res at h
 split at h
 ·split at h
  ·exact absurd h.symm (hl _)
  ·exact h
 ·exact h
section
variable {X:Cx} {Ξ:Wd->bq->Prop}
theorem oM {K:Frag} {w:Wd} {ds:List D} {vs:List V} {Q:VK} (S:aN K w) (au:aq K w ds vs) (h:Out K Ξ w (ok (D.tup ds) w.aI) λw' d=>∀v,DV K w' d v->Q v w'.H):ku K w.H vs Q:=λa H' e hq =>
 h (w.same H') (Fw.same e).le (S.same e) rfl (.ref a) ⟨a,vs,rfl,hq,(Fw.same e).le.all au⟩
theorem uM {K:Frag} {w:Wd} {ds:List D} {vs:List V} {Q:VK} (S:aN K w) (au:aq K w ds vs) (h:Out K Ξ w (ok (D.lst ds) w.aI) λw' d=>∀v,DV K w' d v->Q v w'.H):∀p,w.H p=none->Q (.ref p) (upd w.H p (.lst vs)):=λp hp =>
 h (w.grow p (.lst vs)) (Fw.grow hp).le (S.grow hp) rfl (.ref p) ⟨p,vs,rfl,⟨(show ¬ w.Z p from og S hp),dU⟩,(Fw.grow hp).le.all au⟩
theorem NO {K:Frag} {w:Wd} {ds:List D} {vs:List V} {Q:VK} (S:aN K w) (au:aq K w ds vs) (h:Out K Ξ w (ok (D.tup ds) w.aI) λw' d=>∀v,DV K w' d v->Q v w'.H):∀p,w.H p=none->Q (.ref p) (upd w.H p (.tup vs)):=λp hp =>
 h (w.grow p (.tup vs)) (Fw.grow hp).le (S.grow hp) rfl (.ref p) ⟨p,vs,rfl,aR.of dU,(Fw.grow hp).le.all au⟩
theorem fm:bg X (binaryOp .Add) (rO X.K Ξ cM):=by
 rintro pins s σ H x y v u Q I rx ry ⟨w,dx,dy,rfl,S,hx,hy,h⟩
 obtain⟨d,e,h⟩:=eJ h
 unfold uL at e
 split at e
 ·rename_i i j e1 e2
  rw[dW e1 (by intro _ z;cases z)] at hx
  rw[dW e2 (by intro _ z;cases z)] at hy
  cases e;cases hx;cases hy
  exact Nl pins s σ w.H _ _ v u Q I rx ry ⟨i,j,rfl,rfl,aG S h _ rfl⟩
 ·rename_i xs ys e1 e2
  rw[dW e1 (by intro _ z;cases z)] at hx
  rw[dW e2 (by intro _ z;cases z)] at hy
  split at e
  ·rename_i hl
   cases e
   simp only[DV] at hx hy
   obtain⟨a,as,rfl,ha,iu⟩:=hx
   obtain⟨b,bs,rfl,hb,rL⟩:=hy
   exact LZ pins s σ w.H _ _ v u Q I rx ry ⟨a,b,as,bs,rfl,rfl,ha,hb,by rw[<- iu.length,<- rL.length];exact of_decide_eq_true hl,oM S (iu.append rL) h⟩
  ·cases e
 ·rename_i xs ys e1 e2
  split at e
  ·rename_i hl
   cases e
   obtain⟨a,as,rfl,ha,iu⟩:=iS S hx e1
   obtain⟨b,bs,rfl,hb,rL⟩:=iS S hy e2
   exact NB pins s σ w.H _ _ v u Q I rx ry ⟨a,b,as,bs,rfl,rfl,ha,hb,by rw[<- iu.length,<- rL.length];exact of_decide_eq_true hl,uM S (iu.append rL) h⟩
  ·cases e
 ·rename_i i j e1 e2
  rw[dW e1 (by intro _ z;cases z)] at hx
  rw[dW e2 (by intro _ z;cases z)] at hy
  split at e
  ·rename_i hl
   cases e;cases hx;cases hy
   exact Ir pins s σ w.H _ _ v u Q I rx ry ⟨i,j,rfl,rfl,of_decide_eq_true hl,aG S h _ rfl⟩
  ·cases e
 ·cases e
theorem Fd:bg X (binaryOp .Sub) (rO X.K Ξ qr):=by
 rintro pins s σ H x y v u Q I rx ry ⟨w,dx,dy,rfl,S,hx,hy,h⟩
 obtain⟨d,e,h⟩:=eJ h
 unfold FX at e
 split at e
 ·rename_i i j
  cases e;cases hx;cases hy
  exact Nm pins s σ w.H _ _ v u Q I rx ry ⟨i,j,rfl,rfl,aG S h _ rfl⟩
 ·cases e
theorem qw:bg X (binaryOp .Mult) (rO X.K Ξ gY):=by
 rintro pins s σ H x y v u Q I rx ry ⟨w,dx,dy,rfl,S,hx,hy,h⟩
 obtain⟨d,e,h⟩:=eJ h
 unfold yL at e
 split at e
 ·rename_i i j
  split at e
  ·rename_i hm
   cases e;cases hx;cases hy
   refine Nn pins s σ w.H _ _ v u Q I rx ry ⟨i,j,rfl,rfl,?_,aG S h _ rfl⟩
   unfold uB
   simpa [qt] using hm
  ·cases e
 ·rename_i xs k
  split at e
  ·rename_i hm
   cases e;cases hy
   simp only[Bool.and_eq_true,decide_eq_true_eq] at hm
   simp only[DV] at hx
   obtain⟨a,as,rfl,ha,iu⟩:=hx
   have hl:=iu.length
   refine Me pins s σ w.H _ _ v u Q I rx ry ⟨a,as,k,rfl,rfl,ha,?_,hm.1.2,by rw[<- hl];exact hm.2,oM S (iu.flat _) h⟩
   intro z
   subst z
   cases xs with
   |nil=>simp at hm
   |cons _ _=>cases hl
  ·cases e
 ·rename_i xs k
  split at e
  ·rename_i hm
   cases e;cases hy
   simp only[Bool.and_eq_true,decide_eq_true_eq] at hm
   simp only[DV] at hx
   obtain⟨a,as,rfl,ha,iu⟩:=hx
   exact NC pins s σ w.H _ _ v u Q I rx ry ⟨a,k,as,rfl,rfl,ha.2,hm.1.1,hm.1.2,by rw[<- iu.length];exact hm.2,uM S (iu.flat _) h⟩
  ·cases e
 ·cases e
theorem oB:bg X (binaryOp .Mod) (rO X.K Ξ km):=by
 rintro pins s σ H x y v u Q I rx ry ⟨w,dx,dy,rfl,S,hx,hy,h⟩
 obtain⟨d,e,h⟩:=eJ h
 unfold yM at e
 split at e
 ·rename_i i j
  split at e
  ·rename_i hm
   cases e;cases hx;cases hy
   exact Np pins s σ w.H _ _ v u Q I rx ry ⟨i,j,rfl,rfl,of_decide_eq_true hm,aG S h _ rfl⟩
  ·cases e
 ·cases e
theorem Fe:bg X (binaryOp .FloorDiv) (rO X.K Ξ qu):=by
 rintro pins s σ H x y v u Q I rx ry ⟨w,dx,dy,rfl,S,hx,hy,h⟩
 obtain⟨d,e,h⟩:=eJ h
 unfold yN at e
 split at e
 ·rename_i i j
  split at e
  ·rename_i hm
   simp only[Bool.and_eq_true,decide_eq_true_eq] at hm
   cases e;cases hx;cases hy
   exact LK pins s σ w.H _ _ v u Q I rx ry ⟨i,j,rfl,rfl,hm,aG S h _ rfl⟩
  ·cases e
 ·cases e
theorem O8:bg X (binaryOp .Pow) (rO X.K Ξ ui):=by
 rintro pins s σ H x y v u Q I rx ry ⟨w,dx,dy,rfl,S,hx,hy,h⟩
 obtain⟨d,e,h⟩:=eJ h
 unfold yO at e
 split at e
 ·rename_i i j
  split at e
  ·rename_i hm
   simp only[Bool.and_eq_true,decide_eq_true_eq] at hm
   cases e;cases hx;cases hy
   exact Nq pins s σ w.H _ _ v u Q I rx ry ⟨i,j,rfl,rfl,⟨hm.1.1,hm.1.2,hm.2⟩,aG S h _ rfl⟩
  ·cases e
 ·cases e
theorem Ff:rf X (unaryOp .USub) (rU X.K Ξ qv):=by
 rintro pins s σ H x v Q I rx ⟨w,dx,rfl,S,hx,h⟩
 obtain⟨d,e,h⟩:=eJ h
 unfold FY at e
 split at e
 ·rename_i i
  cases e;cases hx
  exact Nr pins s σ w.H _ v Q I rx ⟨i,rfl,aG S h _ rfl⟩
 ·cases e
noncomputable def oQ (p:Int->Int->Bool):D->D->Option D
 | .int i,.int j=>some (.bl (p i j))
 |_,_=>none
noncomputable def qJ (x y:D) (s:ae):Res D:=bG (oQ (λi j=>decide (i<=j)) x y) s
noncomputable def uN (x y:D) (s:ae):Res D:=bG (oQ (λi j=>decide (j<i)) x y) s
noncomputable def uO (x y:D) (s:ae):Res D:=bG (oQ (λi j=>decide (j<=i)) x y) s
theorem FZ:bg X (compareOp .LtE) (rO X.K Ξ qJ):=by
 rintro pins s σ H x y v u Q I rx ry ⟨w,dx,dy,rfl,S,hx,hy,h⟩
 obtain⟨d,e,h⟩:=eJ h
 unfold oQ at e
 split at e
 ·rename_i i j
  cases e;cases hx;cases hy
  exact OK pins s σ w.H _ _ v u Q I rx ry ⟨i,j,rfl,rfl,aG S h _ rfl⟩
 ·cases e
theorem Qy:bg X (compareOp .Gt) (rO X.K Ξ uN):=by
 rintro pins s σ H x y v u Q I rx ry ⟨w,dx,dy,rfl,S,hx,hy,h⟩
 obtain⟨d,e,h⟩:=eJ h
 unfold oQ at e
 split at e
 ·rename_i i j
  cases e;cases hx;cases hy
  exact OL pins s σ w.H _ _ v u Q I rx ry ⟨i,j,rfl,rfl,aG S h _ rfl⟩
 ·cases e
theorem Qz:bg X (compareOp .GtE) (rO X.K Ξ uO):=by
 rintro pins s σ H x y v u Q I rx ry ⟨w,dx,dy,rfl,S,hx,hy,h⟩
 obtain⟨d,e,h⟩:=eJ h
 unfold oQ at e
 split at e
 ·rename_i i j
  cases e;cases hx;cases hy
  exact OM pins s σ w.H _ _ v u Q I rx ry ⟨i,j,rfl,rfl,aG S h _ rfl⟩
 ·cases e
noncomputable def iP (d i:D) (s:ae):Option D:=match res d s,i with
 | .lst ds,.int i=>dG ds i
 | .tup ds,.int i=>dG ds i
 | .bF ns,.int i=>(dG ns i).map D.int
 | .str x,.int i=>if decide (x.length<=sizeLine)=true then (dG x.cps.toList i).map λc=>.str ⟨#[c]⟩ else none
 |_,_=>none
noncomputable def aw (x y:D) (s:ae):Res D:=bG (iP x y s) s
theorem aq.at {K:Frag} {w:Wd} {ds:List D} {vs:List V} {i:Int} {d:D} (h:aq K w ds vs) (e:dG ds i=some d):∃v,dG vs i=some v/\DV K w d v:=by
 unfold dG at e |-
 rw[h.length] at e
 cases hi:fe vs.length i with
 |none=>rw[hi] at e;cases e
 |some j =>
  rw[hi] at e
  exact h.get' j d e
theorem QA:rp X (rO X.K Ξ aw):=by
 rintro value slice pins s σ H x y v u Q I rx ry ⟨w,dx,dy,rfl,S,hx,hy,h⟩ hs
 obtain⟨d,e,h2⟩:=eJ h
 clear h
 unfold iP at e
 split at e
 ·rename_i ds i e1
  cases hy
  obtain⟨a,xs,rfl,ha,au⟩:=iS S hx e1
  obtain⟨z,ez,dz⟩:=au.at e
  exact Dr value slice pins s σ w.H _ _ v u Q I rx ry ⟨a,xs,i,z,rfl,rfl,bL.of ha,ez,aG S h2 _ dz⟩ hs
 ·rename_i ds i e1
  cases hy
  rw[dW e1 (by intro _ z;cases z)] at hx
  simp only[DV] at hx
  obtain⟨a,xs,rfl,ha,au⟩:=hx
  obtain⟨z,ez,dz⟩:=au.at e
  exact Nx value slice pins s σ w.H _ _ v u Q I rx ry ⟨a,xs,i,z,rfl,rfl,ha,ez,aG S h2 _ dz⟩ hs
 ·rename_i ns i e1
  cases hy
  rw[dW e1 (by intro _ z;cases z)] at hx
  simp only[DV] at hx
  obtain⟨a,rfl,ha⟩:=hx
  cases hn:dG ns i with
  |none=>rw[hn] at e;cases e
  |some n =>
   rw[hn] at e
   cases e
   refine Dr value slice pins s σ w.H _ _ v u Q I rx ry ⟨a,ns.map V.int,i,.int n,rfl,rfl,ha.sq,?_,aG S h2 _ rfl⟩ hs
   unfold dG at hn |-
   rw[List.length_map]
   cases hj:fe ns.length i with
   |none=>rw[hj] at hn;cases hn
   |some j =>
    rw[hj] at hn
    show (ns.map V.int)[j]?=some (.int n)
    rw[List.getElem?_map,show ns[j]?=some n from hn]
    rfl
 ·rename_i z i e1
  cases hy
  rw[dW e1 (by intro _ z;cases z)] at hx
  cases hx
  split at e
  ·rename_i hl
   cases hc:dG z.cps.toList i with
   |none=>rw[hc] at e;cases e
   |some c =>
    rw[hc] at e
    cases e
    exact Ny value slice pins s σ w.H _ _ v u Q I rx ry ⟨z,i,c,rfl,rfl,of_decide_eq_true hl,hc,aG S h2 _ rfl⟩ hs
  ·cases e
 ·cases e
theorem bb {a b:Expr} {pos:Pos} {f g:Env->ae->Res D} (ha:PE X a (tE X.K Ξ f)) (hb:PE X b (tE X.K Ξ g)) (hs:Dq b:=by intro _ _;rfl):PE X (.Subscript a b pos) (tE X.K Ξ (e2 aw f g)):=cP (OT QA ha hb hs) tw
noncomputable def uP (d:D) (s:ae):Option D:=match res d s with
 | .lst ds=>some (.int ds.length)
 | .tup ds=>some (.int ds.length)
 | .bF ns=>some (.int ns.length)
 | .str x=>if decide (x.length<=sizeLine)=true then some (.int x.length) else none
 |_=>none
noncomputable def fB (ds:List D) (s:ae):Res D:=match ds with
 | [d]=>bG (uP d s) s
 |_=>none
theorem oo {K:Frag} {w:Wd} {d:D} {vs:List V} (h:aq K w [d] vs):∃v,vs=[v]/\DV K w d v:=by
 obtain⟨v,r,rfl,dv,dr⟩:=h
 have e:r=[]:=dr
 subst e
 exact⟨v,rfl,dv⟩
theorem qe {K:Frag} {w:Wd} {d e:D} {vs:List V} (h:aq K w [d,e] vs):∃v u,vs=[v,u]/\DV K w d v/\DV K w e u:=by
 obtain⟨v,r,rfl,dv,h⟩:=h
 obtain⟨u,rfl,du⟩:=oo h
 exact⟨v,u,rfl,dv,du⟩
theorem oE:cF X (.builtin "len") (rC X.K Ξ fB):=by
 rintro pins s σ H xs us Q I r ⟨w,ds,rfl,S,au,h⟩
 unfold fB at h
 split at h
 ·obtain⟨v,rfl,dv⟩:=oo au
  obtain⟨d,e,h⟩:=eJ h
  unfold uP at e
  split at e
  ·rename_i ys e1
   cases e
   obtain⟨a,xs,rfl,ha,au⟩:=iS S dv e1
   exact vD pins s σ w.H _ us Q I r ⟨a,xs,rfl,.inl (bL.of ha),by rw[<- au.length];exact aG S h _ rfl⟩
  ·rename_i ys e1
   cases e
   rw[dW e1 (by intro _ z;cases z)] at dv
   simp only[DV] at dv
   obtain⟨a,xs,rfl,ha,au⟩:=dv
   exact vD pins s σ w.H _ us Q I r ⟨a,xs,rfl,.inr ha,by rw[<- au.length];exact aG S h _ rfl⟩
  ·rename_i ns e1
   cases e
   rw[dW e1 (by intro _ z;cases z)] at dv
   simp only[DV] at dv
   obtain⟨a,rfl,ha⟩:=dv
   exact vD pins s σ w.H _ us Q I r ⟨a,ns.map V.int,rfl,.inl ha.sq,by rw[List.length_map];exact aG S h _ rfl⟩
  ·rename_i z e1
   rw[dW e1 (by intro _ z;cases z)] at dv
   cases dv
   split at e
   ·rename_i hl
    cases e
    exact Hy pins s σ w.H _ us Q I r ⟨z,rfl,of_decide_eq_true hl,aG S h _ rfl⟩
   ·cases e
  ·cases e
 ·exact h.elim
noncomputable def gv:List D->Option (List Bool)
 | []=>some []
 | .bl b::ds=>(gv ds).map λr=>b::r
 |_::_=>none
theorem xA:∀{ds:List D} {bs:List Bool},gv ds=some bs->ds=bs.map D.bl
 | [],bs,h=>by cases h;rfl
 | .bl b::ds,bs,h=>by
  simp only[gv] at h
  cases hd:gv ds with
  |none=>rw[hd] at h;cases h
  |some r=>rw[hd] at h;cases h;rw[xA hd];rfl
 | .aB::_,_,h=>by cases h
 | .int _::_,_,h=>by cases h
 | .str _::_,_,h=>by cases h
 | .tup _::_,_,h=>by cases h
 | .lst _::_,_,h=>by cases h
 | .bC _::_,_,h=>by cases h
 | .aj _::_,_,h=>by cases h
 | .ty _::_,_,h=>by cases h
 | .bF _::_,_,h=>by cases h
theorem Mm {bs:List Bool}:gv (bs.map D.bl)=some bs:=by
 induction bs with
 |nil=>rfl
 |cons b bs ih=>simp only[List.map_cons,gv,ih,Option.map_some]
noncomputable def jG (ds:List D) (s:ae):Res D:=match ds with
 | [d]=>match res d s with
  | .lst es=>bG ((gv es).map λbs=>.bl (bs.all id)) s
  |_=>none
 |_=>none
noncomputable def mQ (ds:List D) (s:ae):Res D:=match ds with
 | [d]=>match res d s with
  | .lst es=>bG ((gv es).map λbs=>.bl (bs.any id)) s
  |_=>none
 |_=>none
theorem mB (hc:X.calm=true):cF X (.builtin "all") (rC X.K Ξ jG):=by
 rintro pins s σ H xs us Q I r ⟨w,ds,rfl,S,au,h⟩
 unfold jG at h
 split at h
 ·obtain⟨v,rfl,dv⟩:=oo au
  split at h
  ·rename_i es e1
   obtain⟨d,e,h⟩:=eJ h
   cases hb:gv es with
   |none=>rw[hb] at e;cases e
   |some bs =>
    rw[hb] at e
    cases e
    obtain⟨a,xs,rfl,ha,au⟩:=iS S dv e1
    rw[xA hb] at au
    rw[au.xb] at ha
    exact Kv hc pins s σ w.H _ us Q I r ⟨a,bs,rfl,bL.of ha,aG S h _ rfl⟩
  ·exact h.elim
 ·exact h.elim
theorem xZ (hc:X.calm=true):cF X (.builtin "any") (rC X.K Ξ mQ):=by
 rintro pins s σ H xs us Q I r ⟨w,ds,rfl,S,au,h⟩
 unfold mQ at h
 split at h
 ·obtain⟨v,rfl,dv⟩:=oo au
  split at h
  ·rename_i es e1
   obtain⟨d,e,h⟩:=eJ h
   cases hb:gv es with
   |none=>rw[hb] at e;cases e
   |some bs =>
    rw[hb] at e
    cases e
    obtain⟨a,xs,rfl,ha,au⟩:=iS S dv e1
    rw[xA hb] at au
    rw[au.xb] at ha
    exact Kw hc pins s σ w.H _ us Q I r ⟨a,bs,rfl,bL.of ha,aG S h _ rfl⟩
  ·exact h.elim
 ·exact h.elim
noncomputable def mC (ds:List D) (s:ae):Res D:=match ds with
 | [.int i,.int j]=>ok (.int (if j > i then j else i)) s
 |_=>none
noncomputable def qx (ds:List D) (s:ae):Res D:=match ds with
 | [.int i,.int j]=>ok (.int (if j<i then j else i)) s
 |_=>none
theorem Ew (hc:X.calm=true):cF X (.builtin "max") (rC X.K Ξ mC):=by
 rintro pins s σ H xs us Q I r ⟨w,ds,rfl,S,au,h⟩
 unfold mC at h
 split at h
 ·rename_i i j
  obtain⟨v,u,rfl,dv,du⟩:=qe au
  cases dv;cases du
  exact Jm hc pins s σ w.H _ us Q I r ⟨i,j,rfl,aG S h _ rfl⟩
 ·exact h.elim
theorem NP (hc:X.calm=true):cF X (.builtin "min") (rC X.K Ξ qx):=by
 rintro pins s σ H xs us Q I r ⟨w,ds,rfl,S,au,h⟩
 unfold qx at h
 split at h
 ·rename_i i j
  obtain⟨v,u,rfl,dv,du⟩:=qe au
  cases dv;cases du
  exact Jn hc pins s σ w.H _ us Q I r ⟨i,j,rfl,aG S h _ rfl⟩
 ·exact h.elim
noncomputable def df (ds:List D) (s:ae):Res D:=match ds with
 | [d]=>match res d s with
  | .lst es=>ok (.tup es) s
  | .tup es=>ok (.tup es) s
  |_=>none
 |_=>none
theorem iT:cF X (.type "tuple") (rC X.K Ξ df):=by
 rintro pins s σ H xs us Q I r ⟨w,ds,rfl,S,au,h⟩
 unfold df at h
 split at h
 ·obtain⟨v,rfl,dv⟩:=oo au
  split at h
  ·rename_i es e1
   obtain⟨a,xs,rfl,ha,au⟩:=iS S dv e1
   exact AZ pins s σ w.H _ us Q I r ⟨a,xs,rfl,.inl ⟨bL.of ha,NO S au h⟩⟩
  ·rename_i es e1
   rw[dW e1 (by intro _ z;cases z)] at dv
   have ni:=dv
   simp only[DV] at dv
   obtain⟨a,xs,rfl,ha,au⟩:=dv
   exact AZ pins s σ w.H _ us Q I r ⟨a,xs,rfl,.inr ⟨ha,aG S h _ ni⟩⟩
  ·exact h.elim
 ·exact h.elim
end
end DI
namespace DI
open PySem L2
noncomputable def mE (n:Nat) (x:D) (ds:List D):Bool:=lay x&&cV ds&&decide (dep x<=n)
noncomputable def inD (x:D) (ds:List D):Option Bool:=if mE 100 x ds=true then some (ds.any λy=>beq y x) else none
noncomputable def lq (d:D) (s:ae):Option (List D):=match res d s with
 | .lst ds=>some ds
 | .tup ds=>some ds
 |_=>none
noncomputable def bM (x y:D) (s:ae):Res D:=match lq y s with
 |some ds=>bG ((inD x ds).map D.bl) s
 |none=>none
noncomputable def cL (x y:D) (s:ae):Res D:=match lq y s with
 |some ds=>bG ((inD x ds).map λb=>D.bl (!b)) s
 |none=>none
theorem CN {K:Frag} {w:Wd} {d:D} {v:V} {ds:List D} (S:aN K w) (h:DV K w d v) (e:lq d w.aI=some ds):∃a xs,v=.ref a/\(w.H a=some (.lst xs)\/aR K w.H a xs)/\aq K w ds xs:=by
 unfold lq at e
 split at e
 ·rename_i es e1
  cases e
  obtain⟨a,xs,rfl,ha,au⟩:=iS S h e1
  exact⟨a,xs,rfl,.inl ha,au⟩
 ·rename_i es e1
  cases e
  rw[dW e1 (by intro _ z;cases z)] at h
  simp only[DV] at h
  obtain⟨a,xs,rfl,ha,au⟩:=h
  exact⟨a,xs,rfl,.inr ha,au⟩
 ·cases e
section
variable {X:Cx} {Ξ:Wd->bq->Prop} {pins:List (Addr×Obj)} {σ:St} {s:Shared}
theorem xB {x:D} (lx:lay x=true):∀{ds:List D},cV ds=true->((bY ds).any λy=>PyData.eqv y (py x))=ds.any λy=>beq y x
 | [],_=>rfl
 |d::ds,h=>by
  simp only[cV,Bool.and_eq_true] at h
  simp only[bY,List.any_cons,om d x h.1 lx,xB lx h.2]
theorem Ey {x:D} {ds:List D} {b:Bool} (h:inD x ds=some b):lay x=true/\cV ds=true/\dep x<=100/\(ds.any λy=>beq y x)=b:=by
 unfold inD mE at h
 split at h
 ·rename_i hl
  simp only[Bool.and_eq_true,decide_eq_true_eq] at hl
  exact⟨hl.1.1,hl.1.2,hl.2,Option.some.inj h⟩
 ·cases h
theorem dZ {k:Nat} (hr:cN k X.A):bg X (compareOp .In) (rO X.K Ξ bM):=by
 rintro pins s σ H x y v u Q I rx ry ⟨w,dx,dy,rfl,S,hx,hy,h⟩
 unfold bM at h
 split at h
 ·rename_i ds hd
  obtain⟨d,e,h⟩:=eJ h
  cases hb:inD dx ds with
  |none=>rw[hb] at e;cases e
  |some b =>
   rw[hb] at e
   cases e
   obtain⟨l1,l2,l3,l4⟩:=Ey hb
   obtain⟨p1,p2⟩:=iX _ l1
   obtain⟨q1,q2⟩:=pQ _ l2
   obtain⟨bs,rd⟩:=(hx.py (l7 _ l1)).reads I rx
   have hu:X.A.units+1+min (PyData.depthAll (bY ds)) (py dx).depth<cLine:=by
    have:=hr.un
    rw[p2]
    omega
   obtain⟨a,xs,rfl,ha,au⟩:=CN S hy hd
   have fin:EP X pins σ Q (.bool ((bY ds).any λy=>PyData.eqv y (py dx))) s:=⟨.bl b,w.H,I,by rw[xB l1 l2,l4];rfl,aG S h _ rfl⟩
   rcases ha with ha|ha
   ·obtain⟨cs,rc⟩:=(show L2.DV X.K (λ_=>False) w.H (.list (bY ds)) (.ref a) by simp only[L2.DV];exact⟨a,xs,rfl,not_false,ha,au.py (lZ _ l2)⟩).reads I ry
    exact SeqAt.in_list_reads rc rd q1 p1 hu fin
   ·obtain⟨cs,rc⟩:=(show L2.DV X.K (λ_=>False) w.H (.tuple (bY ds)) (.ref a) by simp only[L2.DV];exact⟨a,xs,rfl,ha,au.py (lZ _ l2)⟩).reads I ry
    exact SeqAt.in_tuple_reads rc rd q1 p1 hu fin
 ·exact h.elim
theorem ma {k:Nat} (hr:cN k X.A):bg X (compareOp .NotIn) (rO X.K Ξ cL):=by
 rintro pins s σ H x y v u Q I rx ry ⟨w,dx,dy,rfl,S,hx,hy,h⟩
 unfold cL at h
 split at h
 ·rename_i ds hd
  obtain⟨d,e,h⟩:=eJ h
  cases hb:inD dx ds with
  |none=>rw[hb] at e;cases e
  |some b =>
   rw[hb] at e
   cases e
   obtain⟨l1,l2,l3,l4⟩:=Ey hb
   obtain⟨p1,p2⟩:=iX _ l1
   obtain⟨q1,q2⟩:=pQ _ l2
   obtain⟨bs,rd⟩:=(hx.py (l7 _ l1)).reads I rx
   have hu:X.A.units+1+min (PyData.depthAll (bY ds)) (py dx).depth<cLine:=by
    have:=hr.un
    rw[p2]
    omega
   obtain⟨a,xs,rfl,ha,au⟩:=CN S hy hd
   have fin:EP X pins σ Q (.bool (!(bY ds).any λy=>PyData.eqv y (py dx))) s:=⟨.bl (!b),w.H,I,by rw[xB l1 l2,l4];rfl,aG S h _ rfl⟩
   rcases ha with ha|ha
   ·obtain⟨cs,rc⟩:=(show L2.DV X.K (λ_=>False) w.H (.list (bY ds)) (.ref a) by simp only[L2.DV];exact⟨a,xs,rfl,not_false,ha,au.py (lZ _ l2)⟩).reads I ry
    exact SeqAt.notIn_list_reads rc rd q1 p1 hu fin
   ·obtain⟨cs,rc⟩:=(show L2.DV X.K (λ_=>False) w.H (.tuple (bY ds)) (.ref a) by simp only[L2.DV];exact⟨a,xs,rfl,ha,au.py (lZ _ l2)⟩).reads I ry
    exact SeqAt.notIn_tuple_reads rc rd q1 p1 hu fin
 ·exact h.elim
noncomputable def tP (K:Frag) (Ξ:Wd->bq->Prop) (f:Env->ae->Res (Option Int)):TO:=fun σ H Q=>∃w env,w.H=H/\aN K w/\bP K w env σ/\Out K Ξ w (f env w.aI) λw' i=>Q i w'.H
noncomputable def nq:Env->ae->Res (Option Int):=λ_ s=>ok none s
noncomputable def mR (f:Env->ae->Res D):Env->ae->Res (Option Int):=λenv s=>ar (f env s) λd s=>match d with
 | .int i=>ok (some i) s
 |_=>none
variable {e a b:Expr} {lo hi:Option Expr} {pos p2 p3 p4:Pos} {f g:Env->ae->Res D}
theorem Ez {lo:Option Expr} {t t':TO} (h:PO X lo t) (i:∀ σ H Q,t' σ H Q->t σ H Q):PO X lo t':=λpins s σ H Q I hq=>h pins s σ H Q I (i σ H Q hq)
theorem F0:PO X none (tP X.K Ξ nq):=Ez LR fun σ H Q aC=>by
 obtain⟨w,env,eH,S,eo,h⟩:=aC
 subst eH
 exact aG S h
theorem Fg (he:PE X e (tE X.K Ξ f)):PO X (some e) (tP X.K Ξ (mR f)):=Ez (LS he) fun σ H Q aC=>by
 obtain⟨w,env,eH,S,eo,h⟩:=aC
 subst eH
 refine⟨w,env,rfl,S,eo,(Out.ar h).mono λw1 d l1 S1 h1 v dv=>?_⟩
 cases d with
 |int i=>exact⟨i,dv,aG S1 h1⟩
 |_=>exact h1.elim
noncomputable def cutD (xs:List D) (lo hi:Option Int):List D:=(xs.drop (HT.aP xs.length 0 lo)).take (HT.aP xs.length xs.length hi-HT.aP xs.length 0 lo)
noncomputable def mi (d:D) (lo hi:Option Int) (s:ae):Res D:=match res d s with
 | .tup ds=>ok (.tup (cutD ds lo hi)) s
 | .lst ds=>ok (.lst (cutD ds lo hi)) s
 |_=>none
noncomputable def nr (f:Env->ae->Res D) (l h:Env->ae->Res (Option Int)):Env->ae->Res D:=λenv s=>ar (f env s) λd s=>ar (l env s) λlo s=>ar (h env s) λhi s=>mi d lo hi s
noncomputable def Rx (K:Frag) (Ξ:Wd->bq->Prop):V->Option Int->Option Int->Hp->VK->Prop:=λx lo hi H Q=>∃w dx,w.H=H/\aN K w/\DV K w dx x/\Out K Ξ w (mi dx lo hi w.aI) λw' d=>∀v,DV K w' d v->Q v w'.H
theorem NQ:rn X (Rx X.K Ξ):=by
 rintro pins s σ H x v vl vu lo hi sl Q I rx hs pl pu ⟨w,dx,rfl,S,hx,h⟩
 unfold mi at h
 split at h
 ·rename_i ds e1
  rw[dW e1 (by intro _ z;cases z)] at hx
  simp only[DV] at hx
  obtain⟨a,xs,rfl,ha,au⟩:=hx
  refine LY pins s σ w.H _ v vl vu lo hi sl Q I rx hs pl pu ⟨a,xs,rfl,ha,oM S ?_ h⟩
  unfold cutD i5
  rw[au.length]
  exact(au.drop _).take _
 ·rename_i ds e1
  obtain⟨a,xs,rfl,ha,au⟩:=iS S hx e1
  refine LV pins s σ w.H _ v vl vu lo hi sl Q I rx hs pl pu ⟨a,xs,rfl,bL.of ha,uM S ?_ h⟩
  unfold cutD i5
  rw[au.length]
  exact(au.drop _).take _
 ·exact h.elim
theorem F1 {fl fh:Env->ae->Res (Option Int)} (he:PE X e (tE X.K Ξ f)) (hl:PO X lo (tP X.K Ξ fl)) (hu:PO X hi (tP X.K Ξ fh)):PE X (.Subscript e (.Slice lo hi none p2) pos) (tE X.K Ξ (nr f fl fh)) :=
 cP (Ks NQ he hl hu) fun σ H Q aC=>by
  obtain⟨w,env,eH,S,eo,h⟩:=aC
  subst eH
  exact⟨w,env,rfl,S,eo,(Out.ar h).mono λw1 d l1 S1 h1 v dv=>⟨w1,env,rfl,S1,eo.le l1,(Out.ar h1).mono λw2 i l2 S2 h2=>⟨w2,env,rfl,S2,eo.le (l1.trans l2),(Out.ar h2).mono λw3 j l3 S3 h3=>⟨w3,d,rfl,S3,(l2.trans l3) _ _ dv,h3⟩⟩⟩⟩
noncomputable def iG (d x:D) (s:ae):Res D:=match d with
 | .aj k=>match s[k]? with
  |some (.lst ds)=>if decide (ds.length<sizeLine)=true then ok .aB (s.set k (.lst (ds++[x]))) else none
  |_=>none
 |_=>none
noncomputable def hZ (d:D) (s:ae):Bool:=match d with
 | .aj k=>match s[k]? with
  |some (.lst _)=>true
  |_=>false
 |_=>false
noncomputable def gL (f g:Env->ae->Res D):Env->ae->Res D:=λenv s=>ar (f env s) λd s=>if hZ d s=true then ar (g env s) λx s=>iG d x s else none
theorem Mn {K:Frag} {w:Wd} {d:D} {v:V} (S:aN K w) (dv:DV K w d v) (h:hZ d w.aI=true):∃k a ds xs,d=.aj k/\v=.ref a/\w.ρ[k]?=some a/\w.aI[k]?=some (.lst ds)/\w.H a=some (.lst xs)/\aq K w ds xs:=by
 unfold hZ at h
 split at h
 ·rename_i k
  split at h
  ·rename_i ds hk
   obtain⟨a,e1,rfl⟩:=dv
   obtain⟨xs,q1,q2⟩:=S.cell k a _ e1 hk
   exact⟨k,a,ds,xs,rfl,rfl,e1,hk,q1,q2⟩
  ·cases h
 ·cases h
theorem NR {K:Frag} {w:Wd} {d y:D} {v u:V} {q:Wd->D->Prop} (S:aN K w) (dv:DV K w d v) (du:DV K w y u) (h:Out K Ξ w (iG d y w.aI) q):∃a xs,v=.ref a/\w.H a=some (.lst xs)/\xs.length<sizeLine/\∃w',w'.H=upd w.H a (.lst (xs++[u]))/\q w' .aB:=by
 unfold iG at h
 split at h
 ·rename_i k
  split at h
  ·rename_i ds hk
   split at h
   ·rename_i hl
    obtain⟨a,e1,rfl⟩:=dv
    obtain⟨xs,q1,q2⟩:=S.cell k a _ e1 hk
    have nd:(Cell.lst ds)≠.dead:=by intro z;cases z
    have le:=(Fw.put (K:=K) (o:=.lst (xs++[u])) (c:=.lst (ds++[y])) S e1 hk nd).le
    refine⟨a,xs,rfl,q1,by rw[<- q2.length];exact of_decide_eq_true hl,w.put k a (.lst (xs++[u])) (.lst (ds++[y])),rfl,?_⟩
    exact h _ le (S.yH e1 hk nd ⟨_,dU,le.all (q2.append (aq.one du))⟩) rfl
   ·exact h.elim
  ·exact h.elim
 ·exact h.elim
theorem qy {o:Expr} {apos dh:Pos} (ho:PE X o (tE X.K Ξ f)) (ha:PE X a (tE X.K Ξ g))
  (xU:attributeBase o "append" X.env (eval o X.env)=eval o X.env:=by rfl)
  (yz:((backTo dh (starEach [a] X.env)).all (λx=>!x.1)&&(backToKw dh (keywordEach [] X.env)).all (λx=>x.1.isSome)
   && decide (([a]:List Expr).length+([]:List Keyword).length+(if ([]:List Keyword).isEmpty then 0 else 1)<30))=true:=by rfl)
  (xV:(apos.endLine==dh.line)=true:=by rfl) (hs:starEach [a] X.env=(false,eval a X.env)::starEach [] X.env:=by rfl) (xw:(backTo dh (starEach [] X.env)).any (·.1)=false:=by rfl) :
  PE X (.Call (.Attribute o "append" apos) [a] [] dh) (tE X.K Ξ (gL f g)) :=
 cP (OV PySem.F.plainAttrs_list PySem.F.slot_list_append PySem.F.type_list_append Jp ho (pX ha p6 hs) xU yz xV hs xw) fun σ H Q aC=>by
  obtain⟨w,env,eH,S,eo,h⟩:=aC
  subst eH
  refine⟨w,env,rfl,S,eo,(Out.ar h).mono λw1 d l1 S1 h1 v dv=>?_⟩
  split at h1
  ·rename_i hl
   obtain⟨k,p,ds,xs,rfl,rfl,e1,e2,e3,e4⟩:=Mn S1 dv hl
   refine⟨.inl ⟨rfl,xs,bL.of e3⟩,w1,env,rfl,S1,eo.le l1,(Out.ar h1).mono λw2 y l2 S2 h2 u du=>?_⟩
   obtain⟨a',ys,ea,q1,q2,w3,eH,q3⟩:=NR S2 (l2 _ _ dv) du h2
   refine⟨a',ys,u,ea,rfl,q1,q2,?_⟩
   rw[<- eH]
   exact q3 _ rfl
  ·exact h1.elim
noncomputable def gg (d i x:D) (s:ae):Option ae:=match d,i with
 | .aj k,.int n=>match s[k]? with
  |some (.lst ds)=>(fe ds.length n).map λj=>s.set k (.lst (ds.set j x))
  |_=>none
 |_,_=>none
noncomputable def fV (f o i:Env->ae->Res D):Env->ae->Res Fl:=λenv s=>ar (f env s) λx s=>ar (o env s) λd s=>ar (i env s) λn s=>match gg d n x s with
 |some s'=>ok (.nx env) s'
 |none=>none
theorem NS {K:Frag} {w:Wd} {d i x:D} {v n u:V} {s':ae} (S:aN K w) (dv:DV K w d v) (dn:DV K w i n) (du:DV K w x u) (h:gg d i x w.aI=some s'):∃a xs k j,v=.ref a/\n=.int k/\w.H a=some (.lst xs)/\fe xs.length k=some j/\∃w',w'.H=upd w.H a (.lst (xs.set j u))/\w'.aI=s'/\Le K w w'/\aN K w':=by
 unfold gg at h
 split at h
 ·rename_i k m
  split at h
  ·rename_i ds hk
   cases hj:fe ds.length m with
   |none=>rw[hj] at h;cases h
   |some j =>
    rw[hj] at h
    cases h
    obtain⟨a,e1,rfl⟩:=dv
    obtain⟨xs,q1,q2⟩:=S.cell k a _ e1 hk
    have nd:(Cell.lst ds)≠.dead:=by intro z;cases z
    have le:=(Fw.put (K:=K) (o:=.lst (xs.set j u)) (c:=.lst (ds.set j x)) S e1 hk nd).le
    exact⟨a,xs,m,j,rfl,dn,q1,by rw[<- q2.length];exact hj,w.put k a (.lst (xs.set j u)) (.lst (ds.set j x)),rfl,rfl,le,S.yH e1 hk nd ⟨_,dU,le.all (q2.set du j)⟩⟩
  ·cases h
 ·cases h
theorem mF {o i:Expr} {fW:Pos} {fo fi:Env->ae->Res D} (he:PE X e (tE X.K Ξ f)) (ho:PE X o (tE X.K Ξ fo)) (hi:PE X i (tE X.K Ξ fi))
  (ha:∀v,assign (.Subscript o i fW) X.env v=(do
   let ov <- holding [v] (eval o X.env)
   let iv <- holding [v,ov] (eval i X.env)
   standAt fW
   holding [v,ov,iv] (setItem ov iv v)
   release [v,ov,iv] []):=by intro _;rfl)
  (hs:swapsWithSole [.Subscript o i fW] e pos.line X.env=pure false:=by rfl) (hw:swappedStores [.Subscript o i fW] e X.env=pure none:=by rfl)
  (h1:(assignEach [.Subscript o i fW] X.env).map (·.2)=[assign (.Subscript o i fW) X.env]:=by rfl):PS X (.Assign [.Subscript o i fW] e pos) (tS X.K Ξ (fV f fo fi)) :=
 iV (xt he (Ee ho hi set_list ha) hs hw h1) λD0 σ H aC=>by
  obtain⟨w,env,eH,S,eo,h⟩:=aC
  subst eH
  refine⟨w,env,rfl,S,eo,(Out.ar h).mono λw1 x l1 S1 h1 u du=>?_⟩
  refine⟨w1,env,rfl,S1,eo.le l1,(Out.ar h1).mono λw2 d l2 S2 h2 v dv=>?_⟩
  refine⟨w2,env,rfl,S2,eo.le (l1.trans l2),(Out.ar h2).mono λw3 n l3 S3 h3 m dm=>?_⟩
  cases hd:gg d n x w3.aI with
  |none=>rw[hd] at h3;exact h3.elim
  |some s' =>
   rw[hd] at h3
   obtain⟨a,xs,k,j,e1,e2,q1,q2,w4,eH,es,le,S4⟩:=NS S3 (l3 _ _ dv) dm ((l2.trans l3) _ _ du) hd
   refine⟨a,xs,k,j,e1,e2,q1,q2,?_⟩
   rw[<- eH]
   exact h3 w4 le S4 es σ (eo.le (l1.trans (l2.trans (l3.trans le))))
end
end DI
namespace DI
open PySem L2
noncomputable def kd (d:D) (s:ae):Option Kn:=match res d s with
 | .aB=>some .aB
 | .bl _=>some .bl
 | .int _=>some .int
 | .str _=>some .str
 | .tup _=>some .tup
 | .lst _=>some .lst
 | .bC _=>some .bC
 |_=>none
theorem O9 {K:Frag} {w:Wd} {d:D} {v:V} {k:Kn} (S:aN K w) (h:DV K w d v) (e:kd d w.aI=some k):oY K w.H v k:=by
 unfold kd at e
 split at e<;>rename_i e1<;>first | (cases e;done) | (try cases e)
 ·rw[dW e1 (by intro _ z;cases z)] at h;cases h;trivial
 ·rw[dW e1 (by intro _ z;cases z)] at h;cases h;trivial
 ·rw[dW e1 (by intro _ z;cases z)] at h;cases h;trivial
 ·rw[dW e1 (by intro _ z;cases z)] at h;cases h;trivial
 ·rw[dW e1 (by intro _ z;cases z)] at h
  simp only[DV] at h
  obtain⟨a,xs,rfl,ha,_⟩:=h
  exact⟨xs,ha⟩
 ·obtain⟨a,xs,rfl,ha,_⟩:=iS S h e1
  exact⟨xs,bL.of ha⟩
 ·rw[dW e1 (by intro _ z;cases z)] at h
  simp only[DV] at h
  obtain⟨a,rfl,_,ha⟩:=h
  exact⟨_,ha⟩
noncomputable def Fh (T:String):Bool:=T=="int"||T=="bool"||T=="str"||T=="tuple"||T=="list"
noncomputable def gM (ds:List D) (s:ae):Res D:=match ds with
 | [d,.ty T]=>if Fh T=true then bG ((kd d s).map λk=>.bl (oK k T)) s else none
 |_=>none
section
variable {X:Cx} {Ξ:Wd->bq->Prop} {e a b:Expr} {es:List Expr} {pos:Pos} {f g:Env->ae->Res D} {fa:Env->ae->Res (List D)}
theorem mG:cF X (.builtin "isinstance") (rC X.K Ξ gM):=by
 rintro pins s σ H xs us Q I r ⟨w,ds,rfl,S,au,h⟩
 unfold gM at h
 split at h
 ·rename_i d T
  obtain⟨v,u,rfl,dv,du⟩:=qe au
  have eu:u=.ty T:=du
  subst eu
  split at h
  ·rename_i hT
   obtain⟨d',e,h⟩:=eJ h
   cases hk:kd d w.aI with
   |none=>rw[hk] at e;cases e
   |some k =>
    rw[hk] at e
    cases e
    have rM:=O9 S dv hk
    simp only[Fh,Bool.or_eq_true,beq_iff_eq] at hT
    rcases hT with (((rfl|rfl)|rfl)|rfl)|rfl
    ·exact Hz pins s σ w.H _ us Q I r ⟨v,k,rfl,rM,aG S h _ rfl⟩
    ·exact Hn pins s σ w.H _ us Q I r ⟨v,k,rfl,rM,aG S h _ rfl⟩
    ·exact HA pins s σ w.H _ us Q I r ⟨v,k,rfl,rM,aG S h _ rfl⟩
    ·exact Hf pins s σ w.H _ us Q I r ⟨v,k,rfl,rM,aG S h _ rfl⟩
    ·exact Ho pins s σ w.H _ us Q I r ⟨v,k,rfl,rM,aG S h _ rfl⟩
  ·exact h.elim
 ·exact h.elim
theorem mS {x:Str} {T:String} (hv:bootBuiltins x=some (.type T)) (hg:Gl X x) (hm:X.mg x=none) (hn:x≠"__name__":=by decide) (hd:(x==("__debug__":Str))=false:=by decide):PE X (.Name x pos) (tE X.K Ξ (eC (.ty T))):=qp (v:=.ty T) (LD hg hm hv rfl hn hd) λ_=>rfl
theorem dq {x:Str} {i:Int} (g:∃t,X.mg x=some (.int i t)) (hg:Gl X x) (hd:(x==("__debug__":Str))=false:=by decide):PE X (.Name x pos) (tE X.K Ξ (eC (.int i))):=by
 obtain⟨t,e⟩:=g
 exact qp (v:=.int i) (LC hg e ⟨t,rfl⟩ hd) λ_=>rfl
noncomputable def mH:List D->Option (List Int)
 | []=>some []
 | .int i::ds=>(mH ds).map λr=>i::r
 |_::_=>none
theorem CO:∀{ds:List D} {ns:List Int},mH ds=some ns->ds=ns.map D.int
 | [],ns,h=>by cases h;rfl
 | .int b::ds,ns,h=>by
  simp only[mH] at h
  cases hd:mH ds with
  |none=>rw[hd] at h;cases h
  |some r=>rw[hd] at h;cases h;rw[CO hd];rfl
 | .aB::_,_,h=>by cases h
 | .bl _::_,_,h=>by cases h
 | .str _::_,_,h=>by cases h
 | .tup _::_,_,h=>by cases h
 | .lst _::_,_,h=>by cases h
 | .bC _::_,_,h=>by cases h
 | .aj _::_,_,h=>by cases h
 | .ty _::_,_,h=>by cases h
 | .bF _::_,_,h=>by cases h
theorem JD {ns:List Int}:mH (ns.map D.int)=some ns:=by
 induction ns with
 |nil=>rfl
 |cons b bs ih=>simp only[List.map_cons,mH,ih,Option.map_some]
noncomputable def jH (i:Int):List Int->List Int
 | []=>[i]
 |j::r=>if i<j then i::j::r else if i=j then j::r else j::jH i r
noncomputable def fq:List Int->List Int
 | []=>[]
 |i::r=>jH i (fq r)
theorem wx {i k:Int}:∀{l:List Int},k∈jH i l↔k=i\/k∈l
 | []=>by simp[jH]
 |j::r=>by
  unfold jH
  split
  ·simp
  ·split
   ·rename_i h;subst h;simp
   ·rw[List.mem_cons,wx,List.mem_cons]
    constructor
    ·rintro (h|h|h)
     ·exact .inr (.inl h)
     ·exact .inl h
     ·exact .inr (.inr h)
    ·rintro (h|h|h)
     ·exact .inr (.inl h)
     ·exact .inl h
     ·exact .inr (.inr h)
theorem Bp {i:Int}:∀{l:List Int},l.Pairwise (· < ·)->(jH i l).Pairwise (· < ·)
 | [],_=>by simp[jH]
 |j::r,h=>by
  obtain⟨h1,h2⟩:=List.pairwise_cons.mp h
  unfold jH
  split
  ·rename_i dA
   refine List.pairwise_cons.mpr ⟨λk hk=>?_,h⟩
   rcases List.mem_cons.mp hk with rfl|hk
   ·exact dA
   ·have:=h1 k hk;omega
  ·split
   ·exact h
   ·refine List.pairwise_cons.mpr ⟨λk hk=>?_,Bp h2⟩
    rcases wx.mp hk with rfl|hk
    ·omega
    ·exact h1 k hk
theorem nT {k:Int}:∀{l:List Int},k∈fq l↔k∈l
 | []=>by simp[fq]
 |i::r=>by simp[fq,wx,nT]
theorem A7:∀(l:List Int),(fq l).Pairwise (· < ·)
 | []=>List.Pairwise.nil
 |i::r=>Bp (A7 r)
theorem A0:∀{l m:List Int},l.Pairwise (· < ·)->m.Pairwise (· < ·)->(∀k,k∈l↔k∈m)->l=m
 | [],[],_,_,_=>rfl
 | [],j::m,_,_,h=>by have:=(h j).mpr List.mem_cons_self;cases this
 |i::l,[],_,_,h=>by have:=(h i).mp List.mem_cons_self;cases this
 |i::l,j::m,hl,hm,h=>by
  obtain⟨l1,l2⟩:=List.pairwise_cons.mp hl
  obtain⟨m1,m2⟩:=List.pairwise_cons.mp hm
  have e:i=j:=by
   rcases List.mem_cons.mp ((h i).mp List.mem_cons_self) with e|e
   ·exact e
   ·rcases List.mem_cons.mp ((h j).mpr List.mem_cons_self) with e'|e'
    ·exact e'.symm
    ·have:=m1 i e;have:=l1 j e';omega
  subst e
  congr 1
  refine A0 l2 m2 λk=>?_
  constructor
  ·intro hk
   rcases List.mem_cons.mp ((h k).mp (List.mem_cons_of_mem _ hk)) with e|e
   ·subst e;have:=l1 k hk;omega
   ·exact e
  ·intro hk
   rcases List.mem_cons.mp ((h k).mpr (List.mem_cons_of_mem _ hk)) with e|e
   ·subst e;have:=m1 k hk;omega
   ·exact e
noncomputable def nW (d:D) (s:ae):Res D:=match d with
 | .lst ds=>match mH ds with
  |some ns=>if decide (ns.length<64)=true then ok (.lst ((fq ns).map D.int)) s else none
  |none=>none
 |_=>none
theorem IM {p p2 i8:Pos} (ha:PE X a (tE X.K Ξ f)) (hc:X.calm=true) (hg:Gl X "sorted") (hm:X.mg "sorted"=none) (hv:bootBuiltins "sorted"=some (.builtin "sorted")) (zD:Gl X "set") (zE:X.mg "set"=none) (Ry:bootBuiltins "set"=some (.type "set"))
  (he:starEach [a] X.env=(false,eval a X.env)::starEach [] X.env:=by rfl) (cT:(backTo i8 (starEach [] X.env)).any (·.1)=false:=by rfl)
  (vf:starEach [.Call (.Name "set" p2) [a] [] i8] X.env=(false,eval (.Call (.Name "set" p2) [a] [] i8) X.env)::starEach [] X.env:=by rfl) (QC:(backTo pos (starEach [] X.env)).any (·.1)=false:=by rfl) :
  PE X (.Call (.Name "sorted" p) [.Call (.Name "set" p2) [a] [] i8] [] pos) (tE X.K Ξ (e1 nW f)) :=
 cP (CF (HC hc) hg hm hv (pX (vY (II hc) zD zE Ry (pX ha p6 he) (by decide) (by decide) he cT) p6 vf) (by decide) (by decide) vf QC) fun σ H Q aC=>by
  obtain⟨w,env,eH,S,eo,h⟩:=aC
  subst eH
  refine⟨w,env,rfl,S,eo,(Out.ar h).mono λw1 d l1 S1 h1 v dv=>?_⟩
  unfold nW at h1
  split at h1
  ·rename_i ds
   split at h1
   ·rename_i ns hn
    split at h1
    ·rename_i hl
     have hl:=of_decide_eq_true hl
     simp only[DV] at dv
     obtain⟨p,xs,rfl,hp,au⟩:=dv
     rw[CO hn] at au
     rw[au.CL] at hp
     refine⟨p,ns,rfl,hp.sq,by omega,λq hq=>?_⟩
     refine⟨q,ns,rfl,dU,hl,λl ms Gs hs hk=>?_⟩
     have e:=A0 hs (A7 ns) λk=>(hk k).trans nT.symm
     subst e
     have zF:(w1.grow q (.ext (jE X.prog X.w q ns))).H l=none:=Gs
     have S2:=S1.grow (o:=.ext (jE X.prog X.w q ns)) hq
     exact h1 ((w1.grow q (.ext (jE X.prog X.w q ns))).grow l (.lst ((fq ns).map V.int))) ((Fw.grow hq).le.trans (Fw.grow zF).le) (S2.grow zF) rfl (.ref l) ⟨l,_,rfl,⟨(show ¬ (w1.grow q (.ext (jE X.prog X.w q ns))).Z l from og S2 zF),dU⟩,aq.ints _⟩
    ·exact h1.elim
   ·exact h1.elim
  ·exact h1.elim
noncomputable def qK (i j:Nat) (fa:Env->ae->Res (List D)):Env->ae->Res Fl:=λenv s=>ar (fa env s) λds s=>match ds with
 | [x,y]=>ok (.nx ((env.set i (some x)).set j (some y))) s
 |_=>none
theorem NT (i j:Nat) {x y:Str} {px py pt:Pos} {kt k2 gm} (hc:X.calm=true) (hN:X.N.Nodup) (ha:PA X [a,b] (tA X.K Ξ fa)) (hi:X.N[i]?=some x:=by rfl) (hj:X.N[j]?=some y:=by rfl) (dA:i≠j:=by decide)
  (hx:X.env.scope.names.lookup x=some .local:=by rfl) (hy:X.env.scope.names.lookup y=some .local:=by rfl)
  (hw:swappedStores [.Tuple [.Name x px,.Name y py] kt pt] (.Tuple [a,b] k2 gm) X.env=pure (some [x,y]):=by rfl)
  (hs:swapsWithSole [.Tuple [.Name x px,.Name y py] kt pt] (.Tuple [a,b] k2 gm) pos.line X.env=pure false:=by rfl) :
  PS X (.Assign [.Tuple [.Name x px,.Name y py] kt pt] (.Tuple [a,b] k2 gm) pos) (tS X.K Ξ (qK i j fa)):=iV (Ni hc hN hi hj dA hx hy ha hw hs) λD0 σ H aC=>by
 obtain⟨w,env,eH,S,eo,h⟩:=aC
 subst eH
 refine⟨w,env,rfl,S,eo,(Out.ar h).mono λw1 ds l1 S1 h1 vs au=>?_⟩
 split at h1
 ·obtain⟨v,u,rfl,dv,du⟩:=qe au
  exact⟨v,u,rfl,aG S1 h1 _ (((eo.le l1).set dv i).set du j)⟩
 ·exact h1.elim
end
end DI
namespace L2
open PySem PySem.Spec PyProof.Rows
structure DS (Y:Cx) (D:Addr) (pins:List (Addr×Obj)):Prop where
 loc:D≠Y.env.locals
 fs:D∉Y.fs
 new:Y.cS.heap.objs.size<=D
 cell:∀x c,Y.env.cells.lookup x=some c->c≠D
 pin:∀p∈Y.pn++pins,p.1≠D
structure nu (Y:Cx) (D:Addr) (nt:Nat) (caps:St) (pins:List (Addr×Obj)) (o:St) (H:Hp) (s:Shared) (acc:List V):Prop where
 inv:Inv Y pins (o++caps) H s
 len:o.length=nt
 lst:∃ys,s.heap.PlainList D ys/\Vals acc ys.toList
 free:H D=none
 lM:acc.length<=sizeLine
noncomputable abbrev ia:=St->Hp->List V->(St->List V->Hp->Prop)->Prop
def qL (Y:Cx) (D:Addr) (nt:Nat) (caps:St) (c:Code) (m:Sem PySem.Fin) (ta:ia):Prop :=
 ∀(pins:List (Addr×Obj)) (o:St) (H:Hp) (s:Shared) (acc:List V) (Q:St->List V->Hp->Prop),DS Y D pins->nu Y D nt caps pins o H s acc->ta (o++caps) H acc Q ->
  wpAny (model Y.prog Y.w) Y.A m (λfn s'=>fn=.again c/\∃o' H' eR,nu Y D nt caps pins o' H' s' eR/\Q (o'++caps) eR H') (λ_ _=>False) s
def CA (J:It) (g:TG) (tf:TT) (ta:ia) (τ:St) (acc:List V) (H:Hp) (Q:St->List V->Hp->Prop):Prop:=∃W:Nat->Nat->St->List V->Hp->Prop,(∃m,W 0 m τ acc H) /\
 ∀i m τ acc H2,W i m τ acc H2->(J.stop i H2/\Q τ acc H2) \/
  (J.go i H2/\∃N:St->List V->Hp->Prop,(∀ cy eR H',N cy eR H'->∃m',m' < m/\W (i+1) m' cy eR H') /\
   ∀x H3,J.qZ i H2 x H3->g x τ H3 fun m9 H4=>tf m9 H4 λb H5=>if b=true then ta m9 H5 acc N else N m9 acc H5)
noncomputable def Fi (te:TE):ia:=fun τ H acc Q=>acc.length+1<=sizeLine/\te τ H λv H'=>Q τ (acc++[v]) H'
noncomputable def Fj (wi:TI) (g:TG) (tf:TT) (ta:ia):ia:=fun τ H acc Q=>wi τ H λJ H1=>CA J g tf ta τ acc H1 Q
section
variable {Y:Cx} {D:Addr} {nt:Nat} {caps:St}
theorem DS.obj {pins:List (Addr×Obj)} {o:St} {H:Hp} {s:Shared} {acc:List V} (ds:DS Y D pins) (B:nu Y D nt caps pins o H s acc):∃oD ys nn,s.heap.get? D=some oD/\oD={ cls:=.type "list",data:=.seq ys nn }/\Vals acc ys.toList/\Inv Y (pins++[(D,oD)]) (o++caps) H s:=by
 obtain⟨ys,⟨nn,ho⟩,rv⟩:=B.lst
 refine⟨_,ys,nn,ho,rfl,rv,B.inv.ka λp hp=>?_⟩
 rcases List.mem_append.mp hp with z|z
 ·exact B.inv.pin p (List.mem_append_right _ z)
 ·have e:p=(D,{ cls:=.type "list",data:=.seq ys nn }):=by simpa using z
  subst e
  exact⟨ho,B.free,ds.loc,ds.fs,λv z=>by cases z⟩
theorem CP {el:Expr} {te:TE} {c:Code} (hx:Y.xe=λ_ _=>False) (hE:PE Y el te):qL Y D nt caps c ((do let _ <- call (.builtin "list.append") [.ref D,<- eval el Y.env]:Sem Unit) >>= λ_=>again c) (Fi te):=by
 intro pins o H s acc Q ds B h
 obtain⟨hz,h⟩:=h
 obtain⟨oD,ys,nn,ho,eo,rv,I⟩:=ds.obj B
 have q:=hE _ s _ H _ I h
 rw[hx] at q
 refine wpAny_bind (wpAny_bind (aK q λy s8 h8=>?_))
 obtain⟨v,H8,I8,r8,q9⟩:=h8
 have pD:=I8.pin (D,oD) (List.mem_append_right _ (List.mem_append_right _ (by simp)))
 have zG:s8.heap.PlainList D ys:=⟨nn,by rw[<- eo];exact pD.1⟩
 have zH:ys.size<=sizeLine:=by
  have e:=rv.length
  simp only[Array.length_toList] at e
  omega
 refine wpAny_bind (wpAny_list_append_plain (hsz:=zH) zG λh9 zI vh=>wpAny_pure (wpAny_pure ⟨rfl,?_⟩))
 have zJ:Inv Y pins (o++caps) H8 s8:=I8.j7
 have I9:Inv Y pins (o++caps) H8 { s8 with heap:=h9,toks:=s8.toks }:=zJ.turned (it:=D) (λb o hb e=>(vh.2 b hb).trans e) pD.2.1 ds.loc (.inr ds.new) ds.cell ds.pin
 refine⟨o,H8,acc++[v],⟨I9,B.len,⟨ys.push y,zI,?_⟩,pD.2.1,by rw[List.length_append];simpa using hz⟩,q9⟩
 rw[Array.toList_push]
 exact Vals.append rv (.cons r8 .nil)
theorem BH {e tg:Expr} {tests:List Expr} {d:Nat} {it:Addr} {J:It} {fp:List Addr} {tn:Nat->Heap->Prop} {g:TG} {tf:TT} {ta:ia} {act:Sem PySem.Fin} {p0:Pos} {pins:List (Addr×Obj)} {o:St} {H:Hp} {s:Shared} {acc:List V} {Q:St->List V->Hp->Prop} (hx:Y.xe=λ_ _=>False) (hc:Y.calm=true)
  (T:Turn Y.prog Y.w Y.K tg J fp it tn) (Rz:tn 0 s.heap) (hf:∀b∈fp,fv Y pins H b) (kH:D∉fp) (hG:PG Y tg g) (fJ:kC g nt) (hF:PF Y tests tf) (hA:qL Y D nt caps (.compLoop e d (.ref it) (.ref D) Y.env) act ta) (ds:DS Y D pins) (B:nu Y D nt caps pins o H s acc) (hq:(Code.compLoop e d (.ref it) (.ref D) Y.env).quiet=true)
  (QD:∀(M:Model) (A:Around) (Q':Fin->Shared->Prop) (E':Value->Shared->Prop) (s':Shared),wpAny (model Y.prog Y.w) A (compTurn e d (.ref it) (.ref D) Y.env) Q' (λ_ _=>False) s'->wpAny (model Y.prog Y.w) (A.under (.compLoop e d (.ref it) (.ref D) Y.env)) ((model Y.prog Y.w).den (.compLoop e d (.ref it) (.ref D) Y.env)) Q' E' s')
  (ht:compTurn e d (.ref it) (.ref D) Y.env=(do
   standAt p0
   match <- pyNext (.ref it) with
   |none=>pure (.done .next)
   |some v =>
    letOwnedTupleGo tg (.ref it) v
    assign tg Y.env v
    let mut ok:=true
    for c in tests do
     if ok then ok <- isTrue c Y.env (eval c Y.env)
    if ok then act else again (.compLoop e d (.ref it) (.ref D) Y.env)))
  (h:CA J g tf ta (o++caps) acc H Q) :
  codeAny (model Y.prog Y.w) Y.A (.compLoop e d (.ref it) (.ref D) Y.env) (λr s'=>r=.ok .next/\∃o' H' eR,nu Y D nt caps pins o' H' s' eR/\Q (o'++caps) eR H') s:=by
 obtain⟨W,⟨m0,w0⟩,turn⟩:=h
 have kI:∀{H':Hp} {pl:List (Addr×Obj)},(∀b∈fp,H' b=none)->(∀p∈pl,p.1∉fp)->∀b∈fp,fv Y (pins++pl) H' b:=λ{H' pl} hn hp b hb=>by
  obtain⟨_,f1,nv,f3,f4,f5⟩:=hf b hb
  refine⟨hn b hb,f1,nv,f3,f4,λp rN=>?_⟩
  rcases List.mem_append.mp rN with z|z
  ·exact f5 p (List.mem_append_left _ z)
  ·rcases List.mem_append.mp z with z|z
   ·exact f5 p (List.mem_append_right _ z)
   ·exact λe=>hp p z (e ▸ hb)
 refine codeAny_loop hq (λn s'=>∃i acc o H',nu Y D nt caps pins o H' s' acc/\tn i s'.heap/\(∀b∈fp,H' b=none)/\W i n (o++caps) acc H') (λn s3 hJ=>?_) m0 ⟨0,acc,o,H,B,Rz,λb hb=>(hf b hb).1,w0⟩
 obtain⟨i,acc,o3,H3,B3,lD,lE,w3⟩:=hJ
 refine QD (model Y.prog Y.w) _ _ _ _ ?_
 rw[ht]
 obtain⟨oD,ys,nn,ho,eo,lR,rP⟩:=ds.obj B3
 have ny:∀p∈[(D,oD)],p.1∉fp:=λp hp=>by
  have e:p=(D,oD):=by simpa using hp
  subst e
  exact kH
 have ph:∀{pl:List (Addr×Obj)} {cy:St} {H':Hp} {s':Shared},Inv Y (pins++[(D,oD)]++pl) cy H' s'->s'.heap.PlainList D ys/\H' D=none:=λ{pl cy H' s'} I'=>by
  have q:=I'.pin (D,oD) (List.mem_append_right _ (List.mem_append_left _ (List.mem_append_right _ (by simp))))
  exact⟨⟨nn,by rw[<- eo];exact q.1⟩,q.2.1⟩
 refine wpAny_bind (wpAny_standAt (wpAny_bind ?_))
 rcases turn i n _ acc H3 w3 with ⟨stop,q⟩ | ⟨go,N',hN,step⟩
 ·have hd:=T.done Y rfl rfl rfl hc i _ s3 _ H3 (λ_ _=>False) rP (kI lE ny) lD stop
  refine aK hd λr s4 h4=>?_
  obtain⟨hr,I4⟩:=h4
  subst hr
  obtain⟨zK,n4⟩:=ph (pl:=[]) (by simpa using I4)
  exact wpAny_pure ⟨rfl,o3,H3,acc,⟨I4.j7,B3.len,⟨ys,zK,lR⟩,n4,B3.lM⟩,q⟩
 ·have hd:=T.item Y rfl rfl rfl hc i _ s3 _ H3 (λ_ _=>False) rP (kI lE ny) lD go
  refine aK hd λr s4 h4=>?_
  obtain⟨u,hr,h4⟩:=h4
  subst hr
  refine wpAny_bind (aK h4 λ_ s5 h5=>?_)
  obtain⟨x,H5,I5,r5,y5,je,ra⟩:=h5
  have rb:=I5.pinned (kI ra ny) (T.obj _ _ je)
  have q5:=hG _ s5 _ H5 x u _ rb r5 (fJ x o3 _ H5 _ B3.len (step x H5 y5))
  rw[hx] at q5
  refine wpAny_bind (aK q5 λ_ s6 h6=>?_)
  obtain⟨pk,H6,I6,⟨o6,rQ,uQ⟩,q6⟩:=h6
  have q7:=hF _ s6 pk H6 _ I6 q6
  rw[hx] at q7
  refine wpAny_bind (aK q7 λb s7 h7=>?_)
  obtain⟨H7,I7,q7⟩:=h7
  subst uQ
  obtain⟨vi,n7⟩:=ph I7
  have zL:Inv Y (pins++lb fp s5.heap) (o6++caps) H7 s7:=I7.ka λp hp=>by
   rcases List.mem_append.mp hp with z|z
   ·exact I7.pin p (List.mem_append_right _ (List.mem_append_left _ (List.mem_append_left _ z)))
   ·exact I7.pin p (List.mem_append_right _ (List.mem_append_right _ z))
  have qM:∀{cy:St} {H':Hp} {s':Shared},Inv Y (pins++lb fp s5.heap) cy H' s'->tn (i+1) s'.heap/\∀b∈fp,H' b=none:=λ{cy H' s'} I'=>by
   refine⟨T.keep _ _ _ je λb hb o e=>(I'.pin (b,o) (List.mem_append_right _ (List.mem_append_right _ (nR hb e)))).1,λb hb=>?_⟩
   obtain⟨o,e,_⟩:=T.obj _ _ je b hb
   exact(I'.pin (b,o) (List.mem_append_right _ (List.mem_append_right _ (nR hb e)))).2.1
  cases b with
  |false =>
   rw[if_neg Bool.false_ne_true] at q7
   obtain⟨m',hm,w7⟩:=hN _ _ _ q7
   obtain⟨t7,f7⟩:=qM zL
   exact wpAny_pure ⟨rfl,m',hm,i+1,acc,o6,H7,⟨zL.j7,rQ,⟨ys,vi,lR⟩,n7,B3.lM⟩,t7,f7,w7⟩
  |true =>
   rw[if_pos rfl] at q7
   have RA:DS Y D (pins++lb fp s5.heap):=⟨ds.loc,ds.fs,ds.new,ds.cell,λp hp=>by
    rcases List.mem_append.mp hp with z|z
    ·exact ds.pin p (List.mem_append_left _ z)
    ·rcases List.mem_append.mp z with z|z
     ·exact ds.pin p (List.mem_append_right _ z)
     ·exact λe=>kH (e ▸ (BW z).1)⟩
   refine aK (hA _ o6 H7 s7 acc N' RA ⟨zL,rQ,⟨ys,vi,lR⟩,n7,B3.lM⟩ q7) λfn s8 h8=>?_
   obtain⟨RB,o8,H8,QE,B8,q8⟩:=h8
   subst RB
   obtain⟨m',hm,w8⟩:=hN _ _ _ q8
   obtain⟨t8,f8⟩:=qM B8.inv
   exact⟨rfl,m',hm,i+1,QE,o8,H8,⟨B8.inv.j7,B8.len,B8.lst,B8.free,B8.lM⟩,t8,f8,w8⟩
end
end L2
namespace L2
open PySem PySem.Spec PyProof.Rows
theorem EA {P:Program} {w:World} {el:Expr} {gens:List Comprehension} {sc:Scope} {ps:Pos} {d:Nat} {gn av:Value} {ce:Env} (A:Around) (Q':Fin->Shared->Prop) (E':Value->Shared->Prop) (s':Shared)
  (h:wpAny (model P w) A (compTurn (.ListComp el gens sc ps) d gn av ce) Q' (λ_ _=>False) s'):wpAny (model P w) (A.under (.compLoop (.ListComp el gens sc ps) d gn av ce)) ((model P w).den (.compLoop (.ListComp el gens sc ps) d gn av ce)) Q' E' s':=by
 show wpAny _ A ((compTurn (.ListComp el gens sc ps) d gn av ce).onRaise (λx=>do noteFrame x ce;theTreesLotGoes x)) _ _ s'
 exact wpAny_noted (wpAny_mono h (λ_ _ q=>q) λ_ _ z=>z.elim)
theorem KZ {P:Program} {w:World} {A:Around} {R:Result->Shared->Prop} {s:Shared} {el target iter:Expr} {ifs:List Expr} {gens:List Comprehension} {sc:Scope} {ps:Pos} {d:Nat} {it acc:Value} {env:Env} (hd:gens[d]?=some ⟨target,iter,ifs,0⟩)
  (h0:codeAny (model P w) A (.compLoop (.ListComp el gens sc ps) d it acc env) R s)
  (h:wpAny (model P w) A (pyIter it) (λlS s'=>codeAny (model P w) A (.compLoop (.ListComp el gens sc ps) d lS acc env) R s') (λ_ _=>False) s) :
  codeAny (model P w) A (.compStart (.ListComp el gens sc ps) d it acc env) R s:=by
 refine codeAny_of_tree ?_
 show wpAny _ _ ((compStart (.ListComp el gens sc ps) d it acc env).onRaise (λx=>do noteFrame x env;standAt theWindowsPlace)) _ _ s
 refine wpAny_notedAt ?_
 have fG:(clausesOf (.ListComp el gens sc ps))[d]?=some ⟨target,iter,ifs,0⟩:=hd
 unfold compStart
 rw[fG]
 show wpAny _ _ (ask >>= _) _ _ s
 refine wpAny_bind (wpAny_askSetting (wpAny_ite ?_))
 split
 ·first
   |exact wpAny_bind (wpAny_pure (wpAny_pure (And.intro rfl h0)))
   |exact wpAny_pure (And.intro rfl h0)
 ·refine wpAny_bind (wpAny_rule ?_)
  show wpAny _ _ (standAt iter.pos >>= _) _ _ s
  exact wpAny_bind (wpAny_standAt (wpAny_bind (wpAny_mono h (λlS s' h'=>wpAny_pure (And.intro rfl h')) λ_ _ x=>x.elim)))
section
variable {Y:Cx} {D:Addr} {nt:Nat} {caps:St}
theorem wy {el tg src:Expr} {gens:List Comprehension} {sc:Scope} {ps:Pos} {tests:List Expr} {d:Nat} {wi:TI} {g:TG} {tf:TT} {ta:ia} {act:Addr->Sem PySem.Fin} {c:Code} (hx:Y.xe=λ_ _=>False) (hc:Y.calm=true) (hd:gens[d]?=some ⟨tg,src,tests,0⟩)
  (hi:PI Y tg src wi) (hG:PG Y tg g) (fJ:kC g nt) (hF:PF Y tests tf) (hA:∀it:Addr,qL Y D nt caps (.compLoop (.ListComp el gens sc ps) d (.ref it) (.ref D) Y.env) (act it) ta)
  (ht:∀it:Addr,compTurn (.ListComp el gens sc ps) d (.ref it) (.ref D) Y.env=(do
   standAt src.pos
   match <- pyNext (.ref it) with
   |none=>pure (.done .next)
   |some v =>
    letOwnedTupleGo tg (.ref it) v
    assign tg Y.env v
    let mut ok:=true
    for c in tests do
     if ok then ok <- isTrue c Y.env (eval c Y.env)
    if ok then act it else again (.compLoop (.ListComp el gens sc ps) d (.ref it) (.ref D) Y.env)))
  (hs:∀x,foldedSetIterable src Y.env x=pure x) :
  qL Y D nt caps c (do
   let x <- eval src Y.env
   standAt src.pos
   let x <- foldedSetIterable src Y.env x
   let _ <- runOwn (.compStart (.ListComp el gens sc ps) d (<- holding [x] (pyIter x)) (.ref D) Y.env) Y.env
   again c) (Fj wi g tf ta):=by
 intro pins o H s acc Q ds B h
 obtain⟨oD,ys,nn,ho,eo,rv,I⟩:=ds.obj B
 have q:=hi _ s _ H _ I h
 rw[hx] at q
 refine wpAny_bind (aK q λv s1 h1=>wpAny_bind (wpAny_standAt ?_))
 rw[hs]
 refine wpAny_bind (wpAny_pure (wpAny_bind (wpAny_holding (aK h1 λgn s2 h2=>?_))))
 obtain⟨it,fp,tn,J,H2,e,I2,T,iI,f2,ca⟩:=h2
 subst e
 have pD:=I2.pin (D,oD) (List.mem_append_right _ (List.mem_append_right _ (by simp)))
 have kH:D∉fp:=λz=>(f2 D z).2.2.2.2.2 (D,oD) (List.mem_append_right _ (List.mem_append_right _ (by simp))) rfl
 have nv:∀b∈fp,fv Y pins H2 b:=λb hb=>by
  obtain⟨a1,a2,a3,a4,a5,a6⟩:=f2 b hb
  refine⟨a1,a2,a3,a4,a5,λp hp=>a6 p ?_⟩
  rcases List.mem_append.mp hp with z|z
  ·exact List.mem_append_left _ z
  ·exact List.mem_append_right _ (List.mem_append_left _ z)
 have B2:nu Y D nt caps pins o H2 s2 acc:=⟨I2.j7,B.len,⟨ys,⟨nn,by rw[<- eo];exact pD.1⟩,rv⟩,pD.2.1,B.lM⟩
 have loop:=BH (e:=.ListComp el gens sc ps) (d:=d) hx hc T iI nv kH hG fJ hF (hA it) ds B2 rfl (λ_ A Q' E' s' h=>EA A Q' E' s' h) (ht it) ca
 refine wpAny_bind (wpAny_runOwn ?_)
 refine codeAny_mono (KZ hd loop (T.self _ _ _ _ _ iI loop)) λr s' hr=>?_
 obtain⟨e,q⟩:=hr
 subst e
 exact wpAny_pure ⟨rfl,q⟩
end
noncomputable def EB (wi:TI) (nt:Nat) (cap:List Nat) (g:TG) (tf:TT) (ta:ia):TE:=fun σ H Q=>wi σ H λJ H1=>CA J g tf ta (List.replicate nt none++lj cap σ) [] H1 λ_ acc H2=>∀D,H2 D=none->Q (.ref D) (upd H2 D (.lst acc))
section
variable {X:Cx}
theorem CQ {el tg src:Expr} {tests:List Expr} {rest:List Comprehension} {sc:Scope} {ps:Pos} {N:List Str} {nt:Nat} {cap:List Nat} {wi:TI} {g:TG} {tf:TT} {ta:ia} {act:Env->Addr->Addr->Sem PySem.Fin} (hc:X.calm=true) (S:p9 X sc N nt cap) (fJ:kC g nt) (hi:PI X tg src wi)
  (hY:∀(cl:List (Str×Addr)) (C:Addr) (s:Shared) (H:Hp) (ex:List Addr) (pn:List (Addr×Obj)),PG (dB X N sc cl C s H ex pn) tg g/\PF (dB X N sc cl C s H ex pn) tests tf/\∀D caps it,qL (dB X N sc cl C s H ex pn) D nt caps (.compLoop (.ListComp el (⟨tg,src,tests,0⟩::rest) sc ps) 0 (.ref it) (.ref D) (compEnvC sc cl C X.env)) (act (compEnvC sc cl C X.env) D it) ta)
  (ht:∀(it D:Addr) (ce:Env),compTurn (.ListComp el (⟨tg,src,tests,0⟩::rest) sc ps) 0 (.ref it) (.ref D) ce=(do
   standAt src.pos
   match <- pyNext (.ref it) with
   |none=>pure (.done .next)
   |some v =>
    letOwnedTupleGo tg (.ref it) v
    assign tg ce v
    let mut ok:=true
    for c in tests do
     if ok then ok <- isTrue c ce (eval c ce)
    if ok then act ce D it else again (.compLoop (.ListComp el (⟨tg,src,tests,0⟩::rest) sc ps) 0 (.ref it) (.ref D) ce)))
  (hs:∀x,foldedSetIterable src X.env x=pure x:=by intro _;rfl):PE X (.ListComp el (⟨tg,src,tests,0⟩::rest) sc ps) (EB wi nt cap g tf ta):=by
 intro pins s σ H Q I h
 obtain⟨cl,x6,cY⟩:=Ek (env:=X.env) (sc:=sc) λn hn=>I.ok.has n (S.frees _ hn rfl).2
 rw[eval_ListComp]
 refine wpAny_comprehension_free (use:=none) rfl hs x6 S.kind S.names (aK (hi pins s σ H _ I h) λxv s1 h1=>aK h1 λgn s2 h2=>?_)
 obtain⟨it,fp,tn,J,H2,e,I2,T,iI,f2,ca⟩:=h2
 subst e
 refine wpAny_newObj_type (wpAny_newFunctionEnv S.El (by intro y hy;simp at hy) (λh3 i9 oR=>?_) S.kind)
 dsimp only at i9 oR |-
 generalize hD:s2.heap.objs.size=D at i9 oR |-
 generalize hG:s2.heap.push { cls:=.type "list",dict:=none,data:=.seq ([]:List Value).toArray }=G at i9 oR |-
 generalize zM:G.objs.size=C at i9 oR |-
 have hC:C=D+1:=by rw[<- zM,<- hG,Heap.size_push,hD]
 have nA:D≠C:=by omega
 have fC:s2.heap.objs.size<=D:=Nat.le_of_eq hD
 have gj:s2.heap.objs.size<=C:=by omega
 have old:∀b o,s2.heap.get? b=some o->h3.get? b=some o:=λb o e=>oR.extBut b o (Nat.ne_of_lt (Nat.lt_of_lt_of_le (Heap.lt_size e) gj)) (Heap.get?_push_of_some _ (hG ▸ Heap.get?_push_of_some _ e))
 have jD:h3.PlainList D #[]:=⟨_,oR.extBut _ _ nA (Heap.get?_push_of_some _ (hG ▸ hD ▸ Heap.get?_push_size _ rfl))⟩
 have il:∀b∈fp,b<s2.heap.objs.size:=λb hb=>by
  obtain⟨o,e,_⟩:=T.obj _ _ iI b hb
  exact Heap.lt_size e
 have IB:=I2.block (t':=s2.toks+([]:List (Str×Value)).length) S cY f2 il old gj ⟨_,i9⟩
 have zN:D∉fZ X.stack:=λz=>by
  rcases List.mem_cons.mp (I2.kc D z) with e|e
  ·exact absurd (Nat.lt_of_lt_of_le I2.lt fC) (by rw[e];exact Nat.lt_irrefl _)
  ·exact I2.qF fC e
 have kH:D∉fp:=λz=>absurd (Nat.lt_of_lt_of_le (il D z) fC) (Nat.lt_irrefl _)
 have xC:∀x c,cl.lookup x=some c->c≠D:=λx c e z=>by
  obtain⟨v,o,ho,_⟩:=I2.cell x c ((cY x c).mp e).2
  exact absurd (Nat.lt_of_lt_of_le (Heap.lt_size ho) (by rw[z];exact fC)) (Nat.lt_irrefl _)
 have x8:∀p∈X.pn++pins,p.1≠D:=λp hp z=>absurd (Nat.lt_of_lt_of_le (Heap.lt_size (I2.pin p hp).1) (by rw[z];exact fC)) (Nat.lt_irrefl _)
 have fin:∀(s':Shared) (τ:St) (H':Hp) (acc:List V) (ys:Array Value),Inv (dB X N sc cl C s2 H2 fp (X.pn++pins)) [] τ H' s'->s'.heap.PlainList D ys->Vals acc ys.toList->H' D=none->acc.length<=sizeLine->(∀D,H' D=none->Q (.ref D) (upd H' D (.lst acc))) ->
   compPost (model X.prog X.w) X.A X.xe none (EP X pins σ Q) (.ref D) C (.ok .next) s':=by
  intro s' τ H' acc ys I' pl rv hn hz q
  obtain⟨m,hm,_⟩:=id I'.loc
  refine⟨m,hm,λh' sb=>?_⟩
  have yP:cb X.prog X.w H' h':=I'.aJ.but I'.free sb
  obtain⟨n,ho⟩:=pl
  have dw:h'.get? D=some { cls:=.type "list",data:=.seq ys n }:=(sb.2 D nA).trans ho
  have new:dC X.prog X.w (upd H' D (.lst acc)) h' D (.lst acc):=⟨hz,ys.toList,n,rv,by simpa using dw⟩
  have u:=(I'.base.but gj sb).adopt (o:=.lst acc) fC hn
  refine⟨.ref D,upd H' D (.lst acc),I2.xR (s':={ s' with heap:=h' }) (ch:=fp) I'.os u (yP.adopt hn new) I'.bare (λb hb=>?_),rfl,q D hn⟩
  obtain⟨_,f1,_,f3,f4,f5⟩:=f2 b hb
  exact⟨f3,f1,f4,f5⟩
 have kI:∀b∈fp,fv (dB X N sc cl C s2 H2 fp (X.pn++pins)) [] H2 b:=λb hb=>by
  obtain⟨f0,f1,nv,f3,f4,f5⟩:=f2 b hb
  refine⟨f0,Nat.ne_of_lt (Nat.lt_of_lt_of_le (il b hb) gj),λz=>?_,.inl hb,λx c e=>f4 x c ((cY x c).mp e).2,λp rN=>?_⟩
  ·rcases List.mem_cons.mp (I2.kc b z) with e|e
   ·exact f1 e
   ·exact nv e
  ·exact f5 p (by simpa using rN)
 obtain⟨zO,zP,RC⟩:=hY cl C s2 H2 fp (X.pn++pins)
 have loop:=BH (Y:=dB X N sc cl C s2 H2 fp (X.pn++pins)) (D:=D) (nt:=nt) (caps:=lj cap σ) (e:=.ListComp el (⟨tg,src,tests,0⟩::rest) sc ps) (d:=0) (pins:=[]) (o:=List.replicate nt none) (acc:=[]) rfl hc T
  (T.keep _ _ _ iI λb _ o e=>old b o e) kI kH zO fJ zP (RC D _ it) ⟨nA,zN,fC,xC,λp hp=>x8 p (by simpa using hp)⟩ ⟨IB,by simp,⟨#[],jD,.nil⟩,I2.aJ.fresh fC,Nat.zero_le _⟩ rfl (λ_ A Q' E' s' h=>EA A Q' E' s' h) (ht it D _) ca
 have Fm:=codeAny_mono loop (R':=compPost (model X.prog X.w) X.A X.xe none (EP X pins σ Q) (.ref D) C) λr s' hr=>by
  obtain⟨e,o',H',eR,B',q'⟩:=hr
  subst e
  obtain⟨ys,pl,rv⟩:=B'.lst
  exact fin s' _ H' eR ys B'.inv pl rv B'.free B'.lM q'
 exact codeAny_compStart_list Fm (T.self _ _ _ _ _ (T.keep _ _ _ iI λb _ o e=>old b o e) Fm)
end
end L2
namespace DI
open PySem L2
theorem lY:bootBuiltins "isinstance"=some (.builtin "isinstance"):=by decide +kernel
theorem Pa:bootBuiltins "int"=some (.type "int"):=by decide +kernel
theorem NU:bootBuiltins "bool"=some (.type "bool"):=by decide +kernel
theorem fQ:bootBuiltins "tuple"=some (.type "tuple"):=by decide +kernel
theorem EC:bootBuiltins "list"=some (.type "list"):=by decide +kernel
theorem Pb:bootBuiltins "set"=some (.type "set"):=by decide +kernel
theorem mI:bootBuiltins "all"=some (.builtin "all"):=by decide +kernel
theorem x9:bootBuiltins "any"=some (.builtin "any"):=by decide +kernel
theorem oF:bootBuiltins "len"=some (.builtin "len"):=by decide +kernel
theorem Fn:bootBuiltins "max"=some (.builtin "max"):=by decide +kernel
theorem Pc:bootBuiltins "min"=some (.builtin "min"):=by decide +kernel
theorem wz:bootBuiltins "sorted"=some (.builtin "sorted"):=by decide +kernel
structure Gd (K:Frag) (mg:Str->Option Value) (x:Str) (st:Stmt) (ps:List Str) (f:Addr) (fd:FuncData):Prop where
 mg:mg x=some (.ref f)
 fn:m8 K x x st f fd
 b:Binds K fd ps []
noncomputable def uj (K:Frag):Sp:=λvs H Q _=>∃(a:Addr) (ns:List Int),vs=[.ref a]/\bL K H a (ns.map V.int)/\ns.length<=63/\∀H',Q (.bl true) H'
theorem NV {P:Program} {w:World} {K:Frag} {mg:Str->Option Value} {base:Heap} {k:Nat} {f:Addr} {fd:FuncData} {x:Str} {g:List D->ae->Res D} (F:aS P w K mg base aY k f fd [x] (bA K g))
  (h:∀ns:List Int,ns.length<=63->∃s,g [.bF ns] []=some (.ok (.bl true),s)):aS P w K mg base aY k f fd [x] (uj K):=F.imp λvs H Q E ⟨a,ns,e,hS,hl,q⟩=>by
 subst e
 obtain⟨s,hs⟩:=h ns hl
 have nz:∀b,¬ (⟨[],[],H⟩:Wd).Z b:=λb ⟨k,c,e1,_,_⟩=>by simp at e1
 refine⟨⟨[],[],H⟩,[.bF ns],rfl,⟨rfl,List.nodup_nil,λk a e=>by simp at e,λk a c e=>by simp at e⟩,aq.one ⟨a,rfl,?_⟩,?_⟩
 ·rcases hS with hS|hS
  ·exact .inl ⟨nz a,hS⟩
  ·exact .inr hS
 ·show Out K cj _ (g [.bF ns] []) _
  rw[hs]
  intro w' _ _ _ v dv
  have e:v=.bl true:=dv
  subst e
  exact q _
end DI
namespace DI
open PySem L2
noncomputable def iH (g:D->Env->Option Env) (t:Env->ae->Res Bool) (act:Env->ae->Res (List D)) (lr:Env):List D->ae->Res (List D)
 | [],s=>ok [] s
 |d::ds,s=>match g d lr with
  |none=>none
  |some env=>ar (ne (t env s)) λb s=>if b=true then ar (ne (act env s)) λxs s=>ar (iH g t act lr ds s) λys s=>ok (xs++ys) s
   else iH g t act lr ds s
noncomputable def emit (f:Env->ae->Res D):Env->ae->Res (List D):=λenv s=>ar (f env s) λx s=>ok [x] s
noncomputable def more (it:Env->ae->Res (List D)) (g:D->Env->Option Env) (t:Env->ae->Res Bool) (act:Env->ae->Res (List D)):Env->ae->Res (List D):=λenv s=>ar (it env s) λds s=>iH g t act env ds s
noncomputable def qf (nt:Nat) (cap:List Nat) (it:Env->ae->Res (List D)) (g:D->Env->Option Env) (t:Env->ae->Res Bool) (act:Env->ae->Res (List D)):Env->ae->Res D:=λenv s =>
 ar (it env s) λds s=>ar (ne (iH g t act (List.replicate nt none++fk cap env) ds s)) λxs s=>gE xs (ok (.lst xs) s)
def Sl (g:D->Env->Option Env) (sl:List Nat):Prop:=∀d env aD,g d env=some aD->aD.length=env.length/\∀i,i∉sl->aD[i]?=env[i]?
theorem tD (i:Nat):Sl (gN i) [i]:=λd env aD h=>by
 have e:env.set i (some d)=aD:=Option.some.inj h
 subst e
 refine⟨List.length_set ..,λj hj=>?_⟩
 rw[List.getElem?_set_ne (λz=>hj (by simp[z]))]
theorem Fo:∀(is:List Nat) (ds:List D) (env aD:Env),fU (is.map gN) ds env=some aD->aD.length=env.length/\∀i,i∉is->aD[i]?=env[i]?
 | [],[],env,aD,h=>by
  have e:env=aD:=Option.some.inj h
  rw[e]
  exact⟨rfl,λ_ _=>rfl⟩
 | [],_::_,_,_,h=>by cases h
 |_::_,[],_,_,h=>by cases h
 |j::is,d::ds,env,aD,h=>by
  have h':fU (is.map gN) ds (env.set j (some d))=some aD:=h
  obtain⟨h1,h2⟩:=Fo is ds _ aD h'
  refine⟨by rw[h1,List.length_set],λi hi=>?_⟩
  rw[h2 i (λz=>hi (List.mem_cons_of_mem _ z)),List.getElem?_set_ne (λz=>hi (by rw[z];exact List.mem_cons_self ..))]
theorem xu (is:List Nat):Sl (gT (is.map gN)) is:=λd env aD h=>by
 cases d with
 |tup ds=>exact Fo is ds env aD h
 |_=>cases h
theorem len_same {g:D->Env->Option Env} {sl:List Nat} {d:D} {env aD:Env} (hs:Sl g sl) (hg:g d env=some aD):aD.length=env.length:=(hs d env aD hg).1
def f6 (sl:List Nat) (env:Env):Prop:=∀i∈sl,∀d,env[i]?≠some (some d)
theorem bP.back {K:Frag} {w:Wd} {env aD:Env} {σ:St} {g:D->Env->Option Env} {sl:List Nat} {d:D} (hs:Sl g sl) (hf:f6 sl env) (hg:g d env=some aD) (hl:env.length=σ.length) (h:bP K w aD σ):bP K w env σ :=
 ⟨hl,λi x e=>by
  by_cases hi:i∈sl
  ·exact absurd e (hf i hi x)
  ·exact h.val i x (by rw[(hs d env aD hg).2 i hi];exact e)⟩
def qz (K:Frag) (Pre:Env->Prop) (ta:ia) (act:Env->ae->Res (List D)):Prop:=∀(w:Wd) (env:Env) (τ:St) (acc:List V) (accD xs:List D) (s':ae) (Q:St->List V->Hp->Prop),Pre env->aN K w->bP K w env τ->aq K w accD acc ->
 act env w.aI=some (.ok xs,s')->acc.length+xs.length<=sizeLine->(∀w' cy vs,Le K w w'->aN K w'->w'.aI=s'->bP K w' env cy->aq K w' (accD++xs) vs->Q cy vs w'.H)->ta τ w.H acc Q
theorem nX {α β:Type} {r:Res α} {k:α->ae->Res β} {b:β} {s':ae} (h:ar r k=some (.ok b,s')):∃a s,r=some (.ok a,s)/\k a s=some (.ok b,s'):=by
 match r,h with
 |some (.ok a,s),h=>exact⟨a,s,rfl,h⟩
theorem xg {α:Type} {r:Res α} {a:α} {s:ae} (h:ne r=some (.ok a,s)):r=some (.ok a,s):=by
 match r,h with
 |some (.ok b,s2),h=>exact h
theorem Bq {K:Frag} {f:Env->ae->Res D}:qz K (λ_=>True) (Fi (tE K cj f)) (emit f):=by
 intro w env τ acc accD xs s' Q _ S eo da h hl hQ
 obtain⟨x,s1,h1,h2⟩:=nX h
 cases h2
 refine⟨by simpa using hl,w,env,rfl,S,eo,?_⟩
 rw[h1]
 intro w' le S' e' v dv
 exact hQ w' τ (acc++[v]) le S' e' (eo.le le) (aq.append (le.all da) (aq.one dv))
theorem Ci {K:Frag} {Pre:Env->Prop} {g0:TG} {g:D->Env->Option Env} {nt:Nat} {sl:List Nat} {t:Env->ae->Res Bool} {act:Env->ae->Res (List D)} {ta:ia} {env:Env} {w1:Wd} {J:It} {ds xs accD:List D} {s':ae} {τ:St} {acc:List V} {Q:St->List V->Hp->Prop}
  (T:Tg K g0 g nt) (hs:Sl g sl) (hf:f6 sl env) (hp:∀d aD,g d env=some aD->Pre aD) (hA:qz K Pre ta act) (hJ:nj K w1 J ds) (S1:aN K w1) (eo:bP K w1 env τ) (da:aq K w1 accD acc)
  (h:iH g t act env ds w1.aI=some (.ok xs,s')) (hl:acc.length+xs.length<=sizeLine) (hQ:∀w' cy vs,Le K w1 w'->aN K w'->w'.aI=s'->bP K w' env cy->aq K w' (accD++xs) vs->Q cy vs w'.H) :
  CA J g0 (tT K cj t) ta τ acc w1.H Q:=by
 refine⟨λi m τ acc H'=>m=ds.length-i/\i<=ds.length/\∃w' accD xs,w'.H=H'/\Le K w1 w'/\aN K w'/\bP K w' env τ/\aq K w' accD acc/\iH g t act env (ds.drop i) w'.aI=some (.ok xs,s')/\acc.length+xs.length<=sizeLine /\
   (∀w2 cy vs,Le K w' w2->aN K w2->w2.aI=s'->bP K w2 env cy->aq K w2 (accD++xs) vs->Q cy vs w2.H),
  ⟨ds.length,rfl,Nat.zero_le _,w1,accD,xs,rfl,Le.refl _,S1,eo,da,h,hl,hQ⟩,?_⟩
 rintro i m τ acc H' ⟨rfl,hi,w',accD,xs,rfl,l',S',iO,vj,h',lT,lK⟩
 by_cases bh:i<ds.length
 ·right
  obtain⟨fJ,hy⟩:=(hJ w' l' S' i).1 _ (List.getElem?_eq_getElem bh)
  rw[List.drop_eq_getElem_cons bh] at h'
  simp only[iH] at h'
  cases hg:g ds[i] env with
  |none=>rw[hg] at h';cases h'
  |some iF =>
   rw[hg] at h'
   obtain⟨b,s2,hb,h2⟩:=nX h'
   have hb:=xg hb
   refine⟨fJ,fun τ acc H2=>∃w' accD xs,w'.H=H2/\Le K w1 w'/\aN K w'/\bP K w' env τ/\aq K w' accD acc/\iH g t act env (ds.drop (i+1)) w'.aI=some (.ok xs,s')/\acc.length+xs.length<=sizeLine /\
    (∀w2 cy vs,Le K w' w2->aN K w2->w2.aI=s'->bP K w2 env cy->aq K w2 (accD++xs) vs->Q cy vs w2.H),fun m9 uK H2 q=>⟨ds.length-(i+1),by omega,rfl,bh,q⟩,λx H3 y=>?_⟩
   obtain⟨w2,rfl,l2,S2,es,dv⟩:=hy x H3 y
   refine T.imp _ _ _ _ ⟨w2,env,ds[i],iF,rfl,S2,iO.le l2,dv,hg,fun kB jP=>⟨w2,iF,rfl,S2,jP,?_⟩⟩
   have hlen:∀{jM:St},jM.length=kB.length->iF.length=jM.length:=λe=>by rw[jP.len,e]
   have el:env.length=iF.length\/True:=.inr trivial
   rw[es,hb]
   intro w3 l3 S3 e3
   cases b with
   |true =>
    rw[if_pos rfl] at h2 |-
    obtain⟨ys,s3,vm,h3⟩:=nX h2
    have vm:=xg vm
    obtain⟨zs,s4,hz,h4⟩:=nX h3
    cases h4
    rw[<- e3] at vm
    refine hA w3 iF kB acc accD ys s3 _ (hp _ _ hg) S3 (jP.le l3) ((l2.trans l3).all vj) vm (by rw[List.length_append] at lT;omega) λw4 TF vs l4 S4 e4 GJ F2=>?_
    have lv:=F2.length
    refine⟨w4,accD++ys,zs,rfl,l'.trans (l2.trans (l3.trans l4)),S4,GJ.back hs hf hg ?_,F2,by rw[e4];exact hz,?_,λw5 zQ zR l5 S5 e5 zS yQ=>lK w5 zQ zR (l2.trans (l3.trans (l4.trans l5))) S5 e5 zS (by rw[<- List.append_assoc];exact yQ)⟩
    ·rw[<- GJ.len]
     exact(len_same hs hg).symm
    ·rw[List.length_append] at lT lv
     have:=vj.length
     omega
   |false =>
    rw[if_neg Bool.false_ne_true] at h2 |-
    exact⟨w3,accD,xs,rfl,l'.trans (l2.trans l3),S3,(jP.le l3).back hs hf hg (by rw[<- jP.len];exact(len_same hs hg).symm),(l2.trans l3).all vj,by rw[e3];exact h2,lT,λw5 zQ zR l5 S5 e5 zS yQ=>lK w5 zQ zR (l2.trans (l3.trans l5)) S5 e5 zS yQ⟩
 ·left
  have e:i=ds.length:=by omega
  subst e
  rw[List.drop_length] at h'
  cases h'
  exact⟨(hJ w' l' S' _).2 (Nat.le_refl _),lK w' τ acc (Le.refl _) S' rfl iO (by rw[List.append_nil];exact vj)⟩
theorem vJ {K:Frag} {Pre Pre':Env->Prop} {g0:TG} {g:D->Env->Option Env} {nt:Nat} {sl:List Nat} {it:Env->ae->Res (List D)} {t:Env->ae->Res Bool} {act:Env->ae->Res (List D)} {ta:ia} (T:Tg K g0 g nt) (hs:Sl g sl) (hA:qz K Pre ta act)
  (h1:∀env,Pre' env->f6 sl env) (h2:∀d env aD,Pre' env->g d env=some aD->Pre aD):qz K Pre' (Fj (dI K cj it) g0 (tT K cj t) ta) (more it g t act):=by
 intro w env τ acc accD xs s' Q hp S eo da h hl hQ
 obtain⟨ds,s1,hd,h3⟩:=nX h
 refine⟨w,env,rfl,S,eo,?_⟩
 rw[hd]
 intro w1 l1 S1 e1 J hJ
 exact Ci T hs (h1 env hp) (λd aD hg=>h2 d env aD hp hg) hA hJ S1 (eo.le l1) (l1.all da) (by rw[e1];exact h3) hl λw' cy vs l' S' e' iO au=>hQ w' cy vs (l1.trans l') S' e' iO au
theorem Cj {K:Frag} {Ξ:Wd->bq->Prop} {Pre:Env->Prop} {nt:Nat} {cap:List Nat} {it:Env->ae->Res (List D)} {g0:TG} {g:D->Env->Option Env} {sl:List Nat} {t:Env->ae->Res Bool} {act:Env->ae->Res (List D)} {ta:ia} (T:Tg K g0 g nt) (hs:Sl g sl) (nB:∀i∈sl,i<nt) (hA:qz K Pre ta act)
  (hp:∀d caps aD,g d (List.replicate nt none++caps)=some aD->Pre aD) (σ:St) (H:Hp) (Q:VK) :
  tE K Ξ (qf nt cap it g t act) σ H Q->EB (dI K Ξ it) nt cap g0 (tT K cj t) ta σ H Q:=by
 rintro ⟨w,env,rfl,S,eo,h⟩
 refine⟨w,env,rfl,S,eo,(Out.ar h).mono λw1 ds l1 S1 h1 J hJ=>?_⟩
 cases hr:iH g t act (List.replicate nt none++fk cap env) ds w1.aI with
 |none=>rw[hr] at h1;exact h1.elim
 |some r =>
  obtain⟨r,s'⟩:=r
  rw[hr] at h1
  cases r with
  |error x=>exact h1.elim
  |ok xs =>
   have h1:Out K Ξ w1 (gE xs (ok (D.lst xs) s')) (λw' d=>∀v,DV K w' d v->Q v w'.H):=h1
   obtain⟨hz,h1⟩:=pP h1
   have eb:=(eo.le l1).block nt cap (List.replicate nt none) (by simp)
   refine Ci T hs (λi hi d e=>?_) (λd aD hg=>hp d _ aD hg) hA hJ S1 eb (accD:=[]) rfl hr (by simpa using hz) λw' cy vs l' S' e' iO au p vn=>?_
   ·rw[List.getElem?_append_left (by simpa using nB i hi),List.getElem?_replicate,if_pos (nB i hi)] at e
    cases e
   ·exact h1 (w'.grow p (.lst vs)) (l'.trans (Fw.grow vn).le) (S'.grow vn) e' (.ref p) ⟨p,vs,rfl,⟨(show ¬ w'.Z p from og S' vn),dU⟩,(Fw.grow vn).le.all au⟩
theorem f6.of {nt:Nat} {g:D->Env->Option Env} {sl cI:List Nat} (hs:Sl g sl) (hd:∀i∈cI,i<nt/\i∉sl) {d:D} {caps aD:Env} (hg:g d (List.replicate nt none++caps)=some aD):f6 cI aD:=λi hi x e=>by
 obtain⟨h1,h2⟩:=hd i hi
 rw[(hs _ _ _ hg).2 i h2,List.getElem?_append_left (by simpa using h1),List.getElem?_replicate,if_pos h1] at e
 cases e
theorem f6.on {g:D->Env->Option Env} {sl cI:List Nat} (hs:Sl g sl) (hd:∀i∈cI,i∉sl) {d:D} {env aD:Env} (hf:f6 cI env) (hg:g d env=some aD):f6 cI aD:=λi hi x e=>by
 rw[(hs _ _ _ hg).2 i (hd i hi)] at e
 exact hf i hi x e
section
variable {X:Cx} {Ξ:Wd->bq->Prop} {el tg src jl ib pq mT:Expr} {tests kf qg:List Expr} {sc:Scope} {ps pos:Pos} {N:List Str} {nt:Nat} {cap:List Nat} {it ip vo:Env->ae->Res (List D)} {gd pw zT:D->Env->Option Env} {g0 vp GK:TG} {sl cI rR:List Nat} {ft ji GN:Env->ae->Res Bool} {f:Env->ae->Res D}
noncomputable abbrev ED (nt:Nat) (cap:List Nat) (it:Env->ae->Res (List D)) (g:D->Env->Option Env) (t:Env->ae->Res Bool) (ip:Env->ae->Res (List D)) (g2:D->Env->Option Env) (t2:Env->ae->Res Bool) (f:Env->ae->Res D):Env->ae->Res D:=qf nt cap it g t (more ip g2 t2 (emit f))
noncomputable abbrev EE (nt:Nat) (cap:List Nat) (it:Env->ae->Res (List D)) (g:D->Env->Option Env) (t:Env->ae->Res Bool) (ip:Env->ae->Res (List D)) (g2:D->Env->Option Env) (t2:Env->ae->Res Bool) (vo:Env->ae->Res (List D)) (g3:D->Env->Option Env) (t3:Env->ae->Res Bool) (f:Env->ae->Res D):Env->ae->Res D:=qf nt cap it g t (more ip g2 t2 (more vo g3 t3 (emit f)))
noncomputable def apart (nt:Nat) (sl cI:List Nat):Bool:=cI.all (λi=>decide (i<nt)&&!sl.contains i)
theorem nY {nt:Nat} {sl cI:List Nat} (h:apart nt sl cI=true):∀i∈cI,i<nt/\i∉sl:=λi hi=>by
 have:=List.all_eq_true.mp h i hi
 simp only[Bool.and_eq_true,decide_eq_true_eq,Bool.not_eq_true',List.contains_eq_mem,decide_eq_false_iff_not] at this
 exact this
noncomputable abbrev F3 (e el:Expr) (d:Nat):PySem.Env->Addr->Addr->Sem PySem.Fin:=λce D it=>(do let _ <- call (.builtin "list.append") [.ref D,<- eval el ce]:Sem Unit) >>= λ_=>again (.compLoop e d (.ref it) (.ref D) ce)
noncomputable abbrev yR (e src:Expr) (d:Nat):PySem.Env->Addr->Addr->Sem PySem.Fin:=λce D it=>do
 let x <- eval src ce
 standAt src.pos
 let x <- foldedSetIterable src ce x
 let _ <- runOwn (.compStart e (d+1) (<- holding [x] (pyIter x)) (.ref D) ce) ce
 again (.compLoop e d (.ref it) (.ref D) ce)
theorem Mo (hc:X.calm=true) (S:p9 X sc N nt cap) (T:Tg X.K g0 gd nt) (fI:Sl gd sl) (T2:Tg X.K vp pw nt) (dF:Sl pw cI) (hi:PI X tg src (dI X.K Ξ it))
  (hY:∀(cl:List (Str×Addr)) (C:Addr) (s:Shared) (H:Hp) (ex:List Addr) (pn:List (Addr×Obj)),PG (dB X N sc cl C s H ex pn) tg g0/\PF (dB X N sc cl C s H ex pn) tests (tT X.K cj ft)/\PI (dB X N sc cl C s H ex pn) jl ib (dI X.K cj ip)/\PG (dB X N sc cl C s H ex pn) jl vp/\PF (dB X N sc cl C s H ex pn) kf (tT X.K cj ji)/\PE (dB X N sc cl C s H ex pn) el (tE X.K cj f))
  (oZ:apart nt sl cI=true:=by rfl) (o7:apart nt [] sl=true:=by rfl)
  (hs:∀x,foldedSetIterable src X.env x=pure x:=by intro _;rfl) (zU:∀ce x,foldedSetIterable ib ce x=pure x:=by intro _ _;rfl):PE X (.ListComp el [⟨tg,src,tests,0⟩,⟨jl,ib,kf,0⟩] sc ps) (tE X.K Ξ (ED nt cap it gd ft ip pw ji f)) :=
 cP (CQ (act:=yR (.ListComp el [⟨tg,src,tests,0⟩,⟨jl,ib,kf,0⟩] sc ps) ib 0) hc S T.jk hi (λcl C s H ex pn=>by
   obtain⟨y1,y2,y3,y4,y5,y6⟩:=hY cl C s H ex pn
   exact⟨y1,y2,λD caps it=>wy (d:=1) (act:=λlS=>F3 (.ListComp el [⟨tg,src,tests,0⟩,⟨jl,ib,kf,0⟩] sc ps) el 1 _ D lS) rfl hc rfl y3 y4 T2.jk y5 (λlS=>CP rfl y6) (λ_=>rfl) (zU _)⟩) (λ_ _ _=>rfl) hs)
  (Cj (Pre:=f6 cI) T fI (λi hi=>(nY o7 i hi).1) (vJ T2 dF Bq (λ_ h=>h) (λ_ _ _ _ _=>trivial)) λd caps aD hg=>f6.of fI (nY oZ) hg)
theorem Mp (hc:X.calm=true) (S:p9 X sc N nt cap) (T:Tg X.K g0 gd nt) (fI:Sl gd sl) (T2:Tg X.K vp pw nt) (dF:Sl pw cI) (T3:Tg X.K GK zT nt) (RD:Sl zT rR) (hi:PI X tg src (dI X.K Ξ it))
  (hY:∀(cl:List (Str×Addr)) (C:Addr) (s:Shared) (H:Hp) (ex:List Addr) (pn:List (Addr×Obj)),PG (dB X N sc cl C s H ex pn) tg g0/\PF (dB X N sc cl C s H ex pn) tests (tT X.K cj ft)/\PI (dB X N sc cl C s H ex pn) jl ib (dI X.K cj ip)/\PG (dB X N sc cl C s H ex pn) jl vp/\PF (dB X N sc cl C s H ex pn) kf (tT X.K cj ji) /\
   PI (dB X N sc cl C s H ex pn) pq mT (dI X.K cj vo)/\PG (dB X N sc cl C s H ex pn) pq GK/\PF (dB X N sc cl C s H ex pn) qg (tT X.K cj GN)/\PE (dB X N sc cl C s H ex pn) el (tE X.K cj f))
  (oZ:apart nt sl cI=true:=by rfl) (RE:apart nt sl rR=true:=by rfl) (RF:apart nt cI rR=true:=by rfl) (o7:apart nt [] sl=true:=by rfl)
  (hs:∀x,foldedSetIterable src X.env x=pure x:=by intro _;rfl) (zU:∀ce x,foldedSetIterable ib ce x=pure x:=by intro _ _;rfl) (RG:∀ce x,foldedSetIterable mT ce x=pure x:=by intro _ _;rfl):PE X (.ListComp el [⟨tg,src,tests,0⟩,⟨jl,ib,kf,0⟩,⟨pq,mT,qg,0⟩] sc ps) (tE X.K Ξ (EE nt cap it gd ft ip pw ji vo zT GN f)) :=
 cP (CQ (act:=yR (.ListComp el [⟨tg,src,tests,0⟩,⟨jl,ib,kf,0⟩,⟨pq,mT,qg,0⟩] sc ps) ib 0) hc S T.jk hi (λcl C s H ex pn=>by
   obtain⟨y1,y2,y3,y4,y5,y6,y7,y8,y9⟩:=hY cl C s H ex pn
   exact⟨y1,y2,λD caps it=>wy (d:=1) (act:=λlS=>yR (.ListComp el [⟨tg,src,tests,0⟩,⟨jl,ib,kf,0⟩,⟨pq,mT,qg,0⟩] sc ps) mT 1 _ D lS) rfl hc rfl y3 y4 T2.jk y5 (λlS=>wy (d:=2) (act:=λip=>F3 (.ListComp el [⟨tg,src,tests,0⟩,⟨jl,ib,kf,0⟩,⟨pq,mT,qg,0⟩] sc ps) el 2 _ D ip) rfl hc rfl y6 y7 T3.jk y8 (λip=>CP rfl y9) (λ_=>rfl) (RG _)) (λ_=>rfl) (zU _)⟩) (λ_ _ _=>rfl) hs)
  (Cj (Pre:=λenv=>f6 cI env/\f6 rR env) T fI (λi hi=>(nY o7 i hi).1) (vJ T2 dF (vJ (Pre':=f6 rR) T3 RD Bq (λ_ h=>h) (λ_ _ _ _ _=>trivial)) (λ_ h=>h.1) (λd env aD h hg=>f6.on dF (λi hi=>(nY RF i hi).2) h.2 hg)) λd caps aD hg=>⟨f6.of fI (nY oZ) hg,f6.of fI (nY RE) hg⟩)
end
end DI
namespace L2
open PySem PySem.Spec PyProof.Rows
end L2
namespace HT
open PySem PyProof.Rows
def yS (A:Around) (s:Shared) (y x:Value) (b:Bool):Prop:=∀(prog:Program) (w:World) (E:Value->Shared->Prop) (Q:Value->Shared->Prop),Q (.bool b) s->wpAny (model prog w) A (richCompare .Lt y x) Q E s
inductive gW (A:Around) (s:Shared):List Value->List Value->Bool->Prop where
 |nn:gW A s [] [] false
 |nc (y:Value) (ys:List Value):gW A s [] (y::ys) true
 |cn (x:Value) (xs:List Value):gW A s (x::xs) [] false
 |eq {x y:Value} {xs ys:List Value} {b:Bool}:SeqAt.EqAt A s x y true->gW A s xs ys b->gW A s (x::xs) (y::ys) b
 |lt {x y:Value} {xs ys:List Value} {b:Bool}:SeqAt.EqAt A s x y false->yS A s x y b->gW A s (x::xs) (y::ys) b
section
open PySem.SeqAt
open PySem.AutoSeq1 (wpAny_loadPart')
open PySem.MeetsSeq PySem.MeetsSeq2 PySem.MeetsSeq3
theorem IQ (l b:Addr) (items kg:Array Value) (n n2:Nat) (dd lH:Option Addr) (sl cI:Array (Option Value)) (jQ:Bool) :
  Meets (Builtin.«tuple.__lt__» ⟨[.ref l,.ref b],[]⟩)
   (λA R s=>s.heap.get? l=some { cls:=.type "tuple",dict:=dd,data:=.seq items n,slots:=sl }/\s.heap.get? b=some { cls:=.type "tuple",dict:=lH,data:=.seq kg n2,slots:=cI } /\
    gW A.in1 s items.toList kg.toList jQ/\R (.ok (.ret (.bool jQ))) s) :=
 .of_wp λprog w A R s h=>by
  obtain⟨hp,g,d,tk,os⟩:=s;obtain⟨hl,hb,hA,h⟩:=h
  have f2:=AutoSeq1.sub_tuple_tuple
  wp_walk using wpAny_loadPart' hl,wpAny_loadPart' hb,wpAny_forIn_list _ (λrest b s'=>b.1=none/\s'=⟨hp,g,d,tk,os⟩/\∃(vs ws:List Value),rest=vs.zip ws /\
   gW A.in1 ⟨hp,g,d,tk,os⟩ vs ws jQ/\vs.length+kg.size=ws.length+items.size) _
  case turn =>
   rintro ⟨y,x⟩ rest b s' ⟨eV,rfl,vs,ws,hz,ha,hlen⟩
   cases ha with
   |nn=>cases hz
   |nc _ _=>cases hz
   |cn _ _=>cases hz
   |eq he hr =>
    rw[List.zip_cons_cons] at hz
    injection hz with zV Fp
    injection zV with hy hx
    subst hy hx
    simp only[List.length_cons] at hlen
    refine wpAny_bind (he prog w _ _ ?_)
    wp_walk
    exact⟨rfl,rfl,_,_,Fp,hr,by omega⟩
   |lt he hr =>
    rw[List.zip_cons_cons] at hz
    injection hz with zV Fp
    injection zV with hy hx
    subst hy hx
    refine wpAny_bind (he prog w _ _ ?_)
    have RH:=hr prog w
    wp_walk using RH
    exact⟨_,rfl,by simpa using h⟩
  case fin =>
   rintro ⟨b1,b2⟩ s' ⟨eV,rfl,vs,ws,hz,ha,hlen⟩
   simp only at eV
   subst eV
   have hv:jQ=decide (items.size<kg.size):=by
    cases ha with
    |nn=>simp only[List.length_nil] at hlen;exact(decide_eq_false (by omega)).symm
    |nc _ _=>simp only[List.length_nil,List.length_cons] at hlen;exact(decide_eq_true (by omega)).symm
    |cn _ _=>simp only[List.length_nil,List.length_cons] at hlen;exact(decide_eq_false (by omega)).symm
    |eq _ _=>rw[List.zip_cons_cons] at hz;cases hz
    |lt _ _=>rw[List.zip_cons_cons] at hz;cases hz
   rw[hv] at h
   wp_walk
   exact⟨_,rfl,by simpa [Builtin.Tuple.tupleCompareSizes] using h⟩
  case h =>
   exact⟨rfl,rfl,items.toList,kg.toList,rfl,hA,by simp only[Array.length_toList];omega⟩
end
end HT
namespace HT
open PySem PyProof.Rows PySem.SeqAt PySem.MeetsSeq
section
variable {prog:Program} {w:World} {A:Around} {E:Value->Shared->Prop} {s:Shared}
theorem DB {l b:Addr} {items kg:Array Value} {jQ:Bool} {Q:Value->Shared->Prop} (hl:IsTup s.heap l items) (hb:IsTup s.heap b kg) (hA:∀A':Around,A'.units<=A.units+4->gW A' s items.toList kg.toList jQ)
  (hu:A.units<cLine) (h:Q (.bool jQ) s):wpAny (model prog w) A (richCompare .Lt (.ref l) (.ref b)) Q E s:=by
 obtain⟨⟨cls,dd,data,sl⟩,ho,hc,n,hd⟩:=id hl
 obtain⟨⟨FP,lH,data2,cI⟩,iK,lJ,n2,hd2⟩:=id hb
 simp only at hc hd lJ hd2
 subst hc hd lJ hd2
 refine richCompare_meets_room (op:=.Lt) ⟨_,ho,rfl⟩ ⟨_,iK,rfl⟩ PySem.F.slot_tuple_lt PySem.F.entry_tuple_lt (PySem.F.args_tuple_lt_2 _ _) (IQ l b items kg n n2 dd lH sl cI jQ)
  ⟨ho,iK,hA _ ?_,show Value.bool jQ≠Value.notImplemented/\Q (.bool jQ) s from ⟨(λx=>nomatch x),h⟩⟩ hu
 show A.units+1<=A.units+4
 omega
end
end HT
namespace DI
open PySem L2 HT
mutual
noncomputable def gO:D->D->Option Bool
 | .int i,.int j=>some (decide (i<j))
 | .str x,.str y=>some (decide (x.cps.toList<y.cps.toList))
 | .tup xs,.tup ys=>ic xs ys
 |_,_=>none
noncomputable def ic:List D->List D->Option Bool
 | [],[]=>some false
 | [],_::_=>some true
 |_::_,[]=>some false
 |x::xs,y::ys=>if beq x y=true then ic xs ys else gO x y
end
section
variable {X:Cx} {Ξ:Wd->bq->Prop} {pins:List (Addr×Obj)} {σ:St} {s:Shared} {w:Wd}
theorem Pd (I:Inv X pins σ w.H s) (A:Around) {x y:D} {v u:V} {vx vy:Value} (lx:lay x=true) (ly:lay y=true) (hu:A.units+dep x<cLine) (hx:DV X.K w x v) (hy:DV X.K w y u) (rx:RelV v vx) (ry:RelV u vy):SeqAt.EqAt A s vx vy (beq x y):=by
 obtain⟨as,r1⟩:=(hx.py (l7 _ lx)).reads I rx
 obtain⟨bs,r2⟩:=(hy.py (l7 _ ly)).reads I ry
 obtain⟨p1,p2⟩:=iX _ lx
 obtain⟨q1,q2⟩:=iX _ ly
 have:=SeqAt.eqAt_reads _ _ A s vx vy as bs r1 r2 p1 q1 (by rw[p2];omega)
 rw[om _ _ lx ly] at this
 exact this
mutual
theorem Fq (I:Inv X pins σ w.H s):∀(A:Around) (x y:D) (b:Bool) (v u:V) (vx vy:Value),gO x y=some b->lay x=true->lay y=true->A.units+5*dep x+5<cLine->DV X.K w x v->DV X.K w y u->RelV v vx->RelV u vy->yS A s vx vy b
 |A,.int i,.int j,b,v,u,vx,vy,h,_,_,_,hx,hy,rx,ry=>by
  cases h;cases hx;cases hy
  obtain⟨t,rfl⟩:=rx
  obtain⟨t',rfl⟩:=ry
  intro prog w E Q q
  exact CG A s i t j t' prog w E Q q
 |A,.str i,.str j,b,v,u,vx,vy,h,_,_,hu,hx,hy,rx,ry=>by
  cases h;cases hx;cases hy
  obtain⟨t,rfl⟩:=rx
  obtain⟨t',rfl⟩:=ry
  intro prog w E Q q
  exact(PyProof.Rows.lt_str q:wpAny (model prog w) A (compareOp .Lt (.str i t) (.str j t')) Q E s)
 |A,.tup xs,.tup ys,b,v,u,vx,vy,h,lx,ly,hu,hx,hy,rx,ry=>by
  simp only[gO] at h
  simp only[DV] at hx hy
  obtain⟨a,as,rfl,ha,iu⟩:=hx
  obtain⟨c,cs,rfl,hc,RJ⟩:=hy
  cases rx;cases ry
  obtain⟨its,r1,p1,_⟩:=I.tuple ha
  obtain⟨mP,r2,p2,_⟩:=I.tuple hc
  intro prog w' E Q q
  simp only[dep] at hu
  exact DB p1 p2 (λA' TH=>by
   have:=EF I A' xs ys b as cs its mP h (by simpa [lay] using lx) (by simpa [lay] using ly) (by omega) iu RJ r1 r2
   simpa using this) (by omega) q
 |_,.aB,_,_,_,_,_,_,h,_,_,_,_,_,_,_=>by cases h
 |_,.bl _,_,_,_,_,_,_,h,_,_,_,_,_,_,_=>by cases h
 |_,.lst _,_,_,_,_,_,_,h,_,_,_,_,_,_,_=>by cases h
 |_,.bC _,_,_,_,_,_,_,h,_,_,_,_,_,_,_=>by cases h
 |_,.aj _,_,_,_,_,_,_,h,_,_,_,_,_,_,_=>by cases h
 |_,.ty _,_,_,_,_,_,_,h,_,_,_,_,_,_,_=>by cases h
 |_,.bF _,_,_,_,_,_,_,h,_,_,_,_,_,_,_=>by cases h
 |_,.int _,.aB,_,_,_,_,_,h,_,_,_,_,_,_,_=>by cases h
 |_,.int _,.bl _,_,_,_,_,_,h,_,_,_,_,_,_,_=>by cases h
 |_,.int _,.str _,_,_,_,_,_,h,_,_,_,_,_,_,_=>by cases h
 |_,.int _,.tup _,_,_,_,_,_,h,_,_,_,_,_,_,_=>by cases h
 |_,.int _,.lst _,_,_,_,_,_,h,_,_,_,_,_,_,_=>by cases h
 |_,.int _,.bC _,_,_,_,_,_,h,_,_,_,_,_,_,_=>by cases h
 |_,.int _,.aj _,_,_,_,_,_,h,_,_,_,_,_,_,_=>by cases h
 |_,.int _,.ty _,_,_,_,_,_,h,_,_,_,_,_,_,_=>by cases h
 |_,.int _,.bF _,_,_,_,_,_,h,_,_,_,_,_,_,_=>by cases h
 |_,.str _,.aB,_,_,_,_,_,h,_,_,_,_,_,_,_=>by cases h
 |_,.str _,.bl _,_,_,_,_,_,h,_,_,_,_,_,_,_=>by cases h
 |_,.str _,.int _,_,_,_,_,_,h,_,_,_,_,_,_,_=>by cases h
 |_,.str _,.tup _,_,_,_,_,_,h,_,_,_,_,_,_,_=>by cases h
 |_,.str _,.lst _,_,_,_,_,_,h,_,_,_,_,_,_,_=>by cases h
 |_,.str _,.bC _,_,_,_,_,_,h,_,_,_,_,_,_,_=>by cases h
 |_,.str _,.aj _,_,_,_,_,_,h,_,_,_,_,_,_,_=>by cases h
 |_,.str _,.ty _,_,_,_,_,_,h,_,_,_,_,_,_,_=>by cases h
 |_,.str _,.bF _,_,_,_,_,_,h,_,_,_,_,_,_,_=>by cases h
 |_,.tup _,.aB,_,_,_,_,_,h,_,_,_,_,_,_,_=>by cases h
 |_,.tup _,.bl _,_,_,_,_,_,h,_,_,_,_,_,_,_=>by cases h
 |_,.tup _,.int _,_,_,_,_,_,h,_,_,_,_,_,_,_=>by cases h
 |_,.tup _,.str _,_,_,_,_,_,h,_,_,_,_,_,_,_=>by cases h
 |_,.tup _,.lst _,_,_,_,_,_,h,_,_,_,_,_,_,_=>by cases h
 |_,.tup _,.bC _,_,_,_,_,_,h,_,_,_,_,_,_,_=>by cases h
 |_,.tup _,.aj _,_,_,_,_,_,h,_,_,_,_,_,_,_=>by cases h
 |_,.tup _,.ty _,_,_,_,_,_,h,_,_,_,_,_,_,_=>by cases h
 |_,.tup _,.bF _,_,_,_,_,_,h,_,_,_,_,_,_,_=>by cases h
theorem EF (I:Inv X pins σ w.H s):∀(A:Around) (xs ys:List D) (b:Bool) (vs us:List V) (ps qs:List Value),ic xs ys=some b->cV xs=true->cV ys=true->A.units+5*cG xs+5<cLine->aq X.K w xs vs->aq X.K w ys us->Vals vs ps->Vals us qs->gW A s ps qs b
 |A,[],[],b,vs,us,ps,qs,h,_,_,_,hx,hy,rx,ry=>by
  cases h;cases hx;cases hy;cases rx;cases ry
  exact .nn
 |A,[],y::ys,b,vs,us,ps,qs,h,_,_,_,hx,hy,rx,ry=>by
  cases h;cases hx;cases rx
  obtain⟨u,r,rfl,_,_⟩:=hy
  cases ry
  exact .nc _ _
 |A,x::xs,[],b,vs,us,ps,qs,h,_,_,_,hx,hy,rx,ry=>by
  cases h;cases hy;cases ry
  obtain⟨u,r,rfl,_,_⟩:=hx
  cases rx
  exact .cn _ _
 |A,x::xs,y::ys,b,vs,us,ps,qs,h,lx,ly,hu,hx,hy,rx,ry=>by
  obtain⟨v,r,rfl,dx,dr⟩:=hx
  obtain⟨u,r',rfl,dy,RK⟩:=hy
  simp only[cV,Bool.and_eq_true] at lx ly
  simp only[cG] at hu
  have m1:=Nat.le_max_left (dep x) (cG xs)
  have m2:=Nat.le_max_right (dep x) (cG xs)
  cases rx with
  |cons rx RL =>
   cases ry with
   |cons ry RM =>
    have he:=Pd I A lx.1 ly.1 (by omega) dx dy rx ry
    simp only[ic] at h
    split at h
    ·rename_i hb
     rw[hb] at he
     exact .eq he (EF I A xs ys b _ _ _ _ h lx.2 ly.2 (by omega) dr RK RL RM)
    ·rename_i hb
     rw[Bool.not_eq_true] at hb
     rw[hb] at he
     exact .lt he (Fq I A x y b _ _ _ _ h lx.1 ly.1 (by omega) dx dy rx ry)
end
noncomputable def jI (x y:D) (s:ae):Res D:=if (lay x&&lay y&&decide (dep x<=30))=true then bG ((gO x y).map D.bl) s else none
theorem uR {k:Nat} (hr:cN k X.A):bg X (compareOp .Lt) (rO X.K Ξ jI):=by
 rintro pins s σ H x y v u Q I rx ry ⟨w,dx,dy,rfl,S,hx,hy,h⟩
 unfold jI at h
 split at h
 ·rename_i hl
  simp only[Bool.and_eq_true,decide_eq_true_eq] at hl
  obtain⟨d,e,h⟩:=eJ h
  cases hb:gO dx dy with
  |none=>rw[hb] at e;cases e
  |some b =>
   rw[hb] at e
   cases e
   exact Fq I X.A dx dy b x y v u hb hl.1.1 hl.1.2 (by have:=hr.un;have:=hl.2;have:cLine=9900:=rfl;omega) hx hy rx ry _ _ _ _ ⟨.bl b,w.H,I,rfl,aG S h _ rfl⟩
 ·exact h.elim
end
end DI
namespace DI
open PySem L2
section
variable {X:Cx} {Ξ:Wd->bq->Prop} {e:Expr} {p pos TJ TL Qa To:Pos} {f:Env->ae->Res D}
end
end DI
namespace DI
open PySem L2
noncomputable def pI:List D->ae->Res D:=aZ 2 2 (ay (bX (aH (e2 jI (aa 1) (eB fB (af (aa 0) ai)))) (aQ (e2 aw (aa 0) (aa 1))) cu) (aQ (eC (.int 0))))
noncomputable def sS:List D->ae->Res D:=aZ 2 3 (ay (aO (ax pI (af (aa 0) (af (aa 1) ai))) (gN 2)) (aQ (eNew (af (eB mC (af (eC (.int 0)) (af (e2 qr (aa 2) (e2 ui (eC (.int 10)) (eC (.int 18)))) ai))) (af (e2 km (aa 2) (eC (.int 2147483647))) ai)))))
noncomputable def bu:List D->ae->Res D:=aZ 2 4 (ay (bX (aH (e2 uN (e2 aw (aa 0) (eC (.int 0))) (eC (.int 0)))) (ay (aO (e2 km (e2 aw (aa 0) (eC (.int 0))) (aa 1)) (gN 2)) (ay (fV (e2 qu (e2 aw (aa 0) (eC (.int 0))) (aa 1)) (aa 0) (eC (.int 0))) (aQ (aa 2)))) cu) (ay (fV (e2 km (e2 cM (e2 gY (e2 aw (aa 0) (eC (.int 1))) (eC (.int 48271))) (eC (.int 29))) (eC (.int 2147483647))) (aa 0) (eC (.int 1))) (ay (aO (e2 km (e2 cM (e2 cM (e2 gY (e2 aw (aa 0) (eC (.int 1))) (e2 aw (aa 0) (eC (.int 1)))) (e2 gY (eC (.int 39373)) (e2 aw (aa 0) (eC (.int 1))))) (eC (.int 7))) (eC (.int 2147483629))) (gN 3)) (ay (aO (e2 km (e2 cM (e2 gY (aa 3) (aa 3)) (e2 gY (eC (.int 16807)) (aa 3))) (eC (.int 2147483587))) (gN 3)) (aQ (e2 km (e2 qu (aa 3) (eC (.int 8))) (aa 1)))))))
noncomputable def kR:List D->ae->Res D:=aZ 2 3 (ay (aO (e2 cM (eC (.int 1)) (ax bu (af (aa 0) (af (eC (.int 4)) ai)))) (gN 2)) (aQ (eB df (af (ba 1 [0,2] (bE (af (aa 1) ai)) (gN 0) (aH (e2 aT (ax bu (af (aa 1) (af (e2 cM (aa 2) (eC (.int 1))) ai))) (eC (.int 0)))) (aa 0)) ai))))
noncomputable def l6:List D->ae->Res D:=aZ 1 1 (aQ (eB jG (af (ba 2 [] (oO (af (aa 0) (af (nr (aa 0) (mR (eC (.int 1))) nq) ai))) (gT [gN 0,gN 1]) cx (e2 jI (aa 0) (aa 1))) ai)))
noncomputable def vK:List D->ae->Res D:=aZ 1 1 (aQ (cv (eB gM (af (aa 0) (af (eC (.ty "int")) ai))) (cv (lu (eB gM (af (aa 0) (af (eC (.ty "bool")) ai)))) (e2 uO (aa 0) (eC (.int 0))))))
noncomputable def nS:List D->ae->Res D:=aZ 2 2 (aQ (cv (ax vK (af (aa 0) ai)) (e2 jI (aa 0) (aa 1))))
noncomputable def pM:List D->ae->Res D:=aZ 1 1 (aQ (ax nS (af (aa 0) (af (eC (.int (8))) ai))))
noncomputable def nO:List D->ae->Res D:=aZ 1 1 (aQ (cv (eB gM (af (aa 0) (af (eC (.ty "tuple")) ai))) (cv (eB jG (af (ba 1 [] (aW (aa 0)) (gN 0) cx (ax pM (af (aa 0) ai))) ai)) (ax l6 (af (aa 0) ai)))))
end DI
namespace ST
open PySem PySem.W PyProof.Rows
structure Ord (α:Type) where
 lt:α->α->Bool
 zW:∀a,lt a a=false
 tr:∀a b c,lt a b=true->lt b c=true->lt a c=true
 rS:∀a b,lt a b=false->lt b a=false->a=b
section
variable {α:Type} (O:Ord α)
def Ord.le (a b:α):Prop:=O.lt b a=false
variable {O}
theorem Ord.le_refl (a:α):O.le a a:=O.zW a
theorem Ord.le_of_lt {a b:α} (h:O.lt a b=true):O.le a b:=by
 unfold Ord.le
 cases hb:O.lt b a with
 |false=>rfl
 |true=>have:=O.tr _ _ _ h hb;rw[O.zW] at this;cases this
theorem Ord.oG {a b c:α} (h:O.le a b) (g:O.le b c):O.le a c:=by
 unfold Ord.le at *
 cases hc:O.lt c a with
 |false=>rfl
 |true =>
  cases hb:O.lt a b with
  |true=>have:=O.tr _ _ _ hc hb;rw[g] at this;cases this
  |false =>
   have e:=O.rS a b hb h
   subst e
   rw[g] at hc;cases hc
theorem Ord.Fs {a b:α} (h:O.le a b) (g:O.le b a):a=b:=O.rS _ _ g h
end
noncomputable def ok {β:Type} (c:Nat->Nat->Bool) (n:Nat):KasT β->(β->Prop)->Prop
 | .ret a,Q=>Q a
 | .ask i j k,Q=>i<n/\j<n/\ok c n (k (c i j)) Q
theorem iU {β:Type} {c:Nat->Nat->Bool} {n:Nat} {Q R:β->Prop}:∀{t:KasT β},ok c n t Q->(∀a,Q a->R a)->ok c n t R
 | .ret a,h,i=>i a h
 | .ask _ _ k,h,i=>⟨h.1,h.2.1,iU (t:=k _) h.2.2 i⟩
theorem n5 {β γ:Type} {c:Nat->Nat->Bool} {n:Nat} {f:β->KasT γ} {Q:γ->Prop}:∀{t:KasT β},ok c n t (λa=>ok c n (f a) Q)->ok c n (t.bind f) Q
 | .ret _,h=>h
 | .ask _ _ k,h=>⟨h.1,h.2.1,n5 (t:=k _) h.2.2⟩
theorem Fu {β:Type} {c:Nat->Nat->Bool} {n:Nat} {cmp:Nat->Nat->(Bool->Shared->Prop)->Shared->Prop} {s:Shared} (hc:∀i j C,i<n->j<n->C (c i j) s->cmp i j C s) {Q:β->Shared->Prop}:∀{t:KasT β},ok c n t (λa=>Q a s)->t.kasWp cmp Q s
 | .ret _,h=>h
 | .ask _ _ k,h=>hc _ _ _ h.1 h.2.1 (Fu hc (t:=k _) h.2.2)
section
variable {α:Type} {O:Ord α} {x:Nat->α} {n:Nat}
noncomputable def ky (x:Nat->α) (p:Array Nat) (i:Nat):α:=x (p.getD i 0)
def Pm (n:Nat) (p:Array Nat):Prop:=p.size=n/\p.toList.Perm (List.range n)
def Up (O:Ord α) (f:Nat->α) (k:Nat):Prop:=∀i j,i<j->j<k->O.le (f i) (f j)
def Dn (O:Ord α) (f:Nat->α) (k:Nat):Prop:=∀i j,i<j->j<k->O.le (f j) (f i)
theorem Up.more {f:Nat->α} {k:Nat} (h:Up O f k) (hk:1<=k) (h1:O.le (f (k-1)) (f k)):Up O f (k+1):=λi j dA hj=>by
 by_cases e:j=k
 ·subst e
  by_cases e':i=j-1
  ·subst e';exact h1
  ·exact Ord.oG (h i (j-1) (by omega) (by omega)) h1
 ·exact h i j dA (by omega)
theorem Dn.more {f:Nat->α} {k:Nat} (h:Dn O f k) (hk:1<=k) (h1:O.le (f k) (f (k-1))):Dn O f (k+1):=λi j dA hj=>by
 by_cases e:j=k
 ·subst e
  by_cases e':i=j-1
  ·subst e';exact h1
  ·exact Ord.oG h1 (h i (j-1) (by omega) (by omega))
 ·exact h i j dA (by omega)
theorem Pm.lt {p:Array Nat} (h:Pm n p) {i:Nat} (hi:i<n):p.getD i 0<n:=by
 have hs:i<p.size:=by rw[h.1];exact hi
 have:p[i]∈p.toList:=by simp
 have e:p.getD i 0=p[i]:=by simp[Array.getD,hs]
 rw[e]
 exact List.mem_range.mp (h.2.mem_iff.mp this)
theorem Pm.rev {p:Array Nat} (h:Pm n p) (i j:Nat):Pm n (kas_rev p i j):=⟨by rw[kas_rev_size];exact h.1,(Array.perm_iff_toList_perm.mp (mirror_perm p i j _)).trans h.2⟩
theorem Pm.RN {p:Array Nat} (h:Pm n p) (i j:Nat):Pm n (bubble p i j):=⟨by rw[bubble_size];exact h.1,(Array.perm_iff_toList_perm.mp (bubble_perm p i j)).trans h.2⟩
theorem pY {p q:Array Nat} {i j:Nat} (h:p[i]?=q[j]?):p.getD i 0=q.getD j 0:=by
 rw[Array.getD_eq_getD_getElem?,Array.getD_eq_getD_getElem?,h]
theorem xD {p:Array Nat} {i j:Nat} (hj:j<=p.size) (k:Nat):ky x (kas_rev p i j) k=if i<=k/\k<j then ky x p (i+j-1-k) else ky x p k:=by
 have e:=getElem?_mirror_all (i:=i) hj k
 unfold ky kas_rev
 split<;>rename_i h
 ·rw[if_pos h] at e;rw[pY e]
 ·rw[if_neg h] at e;rw[pY e]
theorem EG {p:Array Nat} {k d:Nat} (hk:k<p.size) (hd:d<=k) (i:Nat):ky x (bubble p k d) i=if i=k-d then ky x p k else if k-d<i/\i<=k then ky x p (i-1) else ky x p i:=by
 have e:=getElem?_bubble hk d hd i
 by_cases h:i=k-d
 ·rw[if_pos h] at e |-;exact congrArg x (pY e)
 ·rw[if_neg h] at e |-
  by_cases h2:k-d<i/\i<=k
  ·rw[if_pos h2] at e |-;exact congrArg x (pY e)
  ·rw[if_neg h2] at e |-;exact congrArg x (pY e)
theorem DC {p:Array Nat} {i j:Nat} (hj:j<=p.size) (he:∀k,i<=k->k<j->ky x p k=ky x p (j-1)):ky x (kas_rev p i j)=ky x p:=funext λk=>by
 rw[xD hj]
 split
 ·rw[he _ (by omega) (by omega),he k (by omega) (by omega)]
 ·rfl
noncomputable abbrev asks (O:Ord α) (x:Nat->α) (i j:Nat):Bool:=O.lt (x i) (x j)
theorem xE {p:Array Nat} (hp:Pm n p):∀(f m:Nat),1<=m->m+f<=n->Up O (ky x p) m->ok (asks O x) n (kas_asc p f m) λr=>m<=r/\r<=m+f/\Up O (ky x p) r/\(r<m+f->O.lt (ky x p r) (ky x p (r-1))=true)
 |0,m,h1,h2,hu=>⟨Nat.le_refl _,Nat.le_refl _,hu,λz=>absurd z (Nat.lt_irrefl _)⟩
 |f+1,m,h1,h2,hu=>by
  refine⟨hp.lt (by omega),hp.lt (by omega),?_⟩
  show ok _ _ (if O.lt (ky x p m) (ky x p (m-1))=true then _ else _) _
  cases hc:O.lt (ky x p m) (ky x p (m-1)) with
  |true =>
   rw[if_pos rfl]
   exact⟨Nat.le_refl _,by omega,hu,λ_=>hc⟩
  |false =>
   rw[if_neg Bool.false_ne_true]
   refine iU (xE hp f (m+1) (by omega) (by omega) (hu.more h1 hc)) λr hr=>⟨by omega,by omega,hr.2.2.1,λz=>hr.2.2.2 (by omega)⟩
structure DS (O:Ord α) (x:Nat->α) (n:Nat) (p:Array Nat) (m q:Nat):Prop where
 pm:Pm n p
 q1:q+1<=m
 mn:m<=n
 dn:Dn O (ky x p) m
 bl:∀k,m-(q+1)<=k->k<m->ky x p k=ky x p (m-1)
theorem DS.turn {p:Array Nat} {m q:Nat} (D:DS O x n p m q):Pm n (kas_rev p (m-(q+1)) m)/\ky x (kas_rev p (m-(q+1)) m)=ky x p :=
 ⟨D.pm.rev _ _,DC (by rw[D.pm.1];exact D.mn) D.bl⟩
theorem tF:∀(f:Nat) (p:Array Nat) (m q:Nat),m+f<=n->DS O x n p m q->ok (asks O x) n (kas_desc f p m q) λr=>m<=r.2.1/\DS O x n r.1 r.2.1 r.2.2
 |0,p,m,q,_,D=>⟨Nat.le_refl _,D⟩
 |f+1,p,m,q,hm,D=>by
  have q1:=D.q1
  refine⟨D.pm.lt (by omega),D.pm.lt (by omega),?_⟩
  show ok _ _ (if O.lt (ky x p m) (ky x p (m-1))=true then _ else _) _
  cases hc:O.lt (ky x p m) (ky x p (m-1)) with
  |true =>
   rw[if_pos rfl]
   have one:∀p',Pm n p'->ky x p'=ky x p->DS O x n p' (m+1) 0:=λp' h1 h2=>⟨h1,by omega,by omega,by rw[h2];exact D.dn.more (by omega) (Ord.le_of_lt hc),λk k1 k2=>by rw[show k=m+1-1 by omega]⟩
   by_cases hq:q > 0
   ·rw[if_pos hq]
    exact iU (tF f _ (m+1) 0 (by omega) (one _ D.turn.1 D.turn.2)) λr hr=>⟨by omega,hr.2⟩
   ·rw[if_neg hq]
    exact iU (tF f _ (m+1) 0 (by omega) (one _ D.pm rfl)) λr hr=>⟨by omega,hr.2⟩
  |false =>
   rw[if_neg Bool.false_ne_true]
   refine⟨D.pm.lt (by omega),D.pm.lt (by omega),?_⟩
   show ok _ _ (if O.lt (ky x p (m-1)) (ky x p m)=true then _ else _) _
   cases hd:O.lt (ky x p (m-1)) (ky x p m) with
   |true =>
    rw[if_pos rfl]
    exact⟨Nat.le_refl _,D⟩
   |false =>
    rw[if_neg Bool.false_ne_true]
    have e:ky x p m=ky x p (m-1):=O.rS _ _ hc hd
    refine iU (tF f p (m+1) (q+1) (by omega) ⟨D.pm,by omega,by omega,D.dn.more (by omega) (by rw[e];exact Ord.le_refl _),λk k1 k2=>?_⟩) λr hr=>⟨by omega,hr.2⟩
    show _=ky x p m
    by_cases hk:k=m
    ·rw[hk]
    ·rw[D.bl k (by omega) (by omega),e]
theorem DD {p:Array Nat} {m:Nat} (hp:Pm n p) (h1:1<=m) (hm:m<=n) (hd:Dn O (ky x p) m):ok (asks O x) n (kas_tail3 m n p) λr=>1<=r.1/\r.1<=n/\Pm n r.2/\Up O (ky x r.2) r.1:=by
 refine n5 ?_
 have hu:Up O (ky x (kas_rev p 0 m)) m:=λi j dA hj=>by
  rw[xD (by rw[hp.1];exact hm),xD (by rw[hp.1];exact hm),if_pos ⟨by omega,by omega⟩,if_pos ⟨by omega,hj⟩]
  exact hd _ _ (by omega) (by omega)
 exact iU (xE (hp.rev 0 m) (n-m) m h1 (by omega) hu) λr hr=>⟨by show 1<=r;omega,by show r<=n;omega,hp.rev 0 m,hr.2.2.1⟩
theorem Br {p:Array Nat} {m:Nat} (hp:Pm n p) (h1:1<=m) (hm:m+1<=n) (hd:Dn O (ky x p) (m+1)):ok (asks O x) n (kas_descPart m n p) λr=>1<=r.1/\r.1<=n/\Pm n r.2/\Up O (ky x r.2) r.1:=by
 refine n5 (iU (tF (n-(m+1)) p (m+1) 0 (by omega) ⟨hp,by omega,hm,hd,λk k1 k2=>by rw[show k=m+1-1 by omega]⟩) λr hr=>?_)
 obtain⟨h2,D⟩:=hr
 split
 ·exact DD D.turn.1 (by have:=D.q1;omega) D.mn (by rw[D.turn.2];exact D.dn)
 ·exact DD D.pm (by have:=D.q1;omega) D.mn D.dn
theorem K0 {p:Array Nat} (hp:Pm n p) (hn:1<=n):ok (asks O x) n (kas_count n p) λr=>1<=r.1/\r.1<=n/\Pm n r.2/\Up O (ky x r.2) r.1:=by
 refine n5 (iU (xE hp (n-1) 1 (Nat.le_refl _) (by omega) λi j dA hj=>by omega) λm hm=>?_)
 obtain⟨h1,h2,h3,h4⟩:=hm
 split
 ·rename_i e
  rw[beq_iff_eq] at e
  exact⟨h1,by omega,hp,h3⟩
 ·rename_i e
  have gr:m≠n:=λz=>e (by rw[z];exact beq_self_eq_true n)
  have hs:=h4 (by omega)
  split
  ·refine⟨hp.lt (by omega),hp.lt (by omega),?_⟩
   show ok _ _ (if O.lt (ky x p 0) (ky x p (m-1))=true then _ else _) _
   cases hc:O.lt (ky x p 0) (ky x p (m-1)) with
   |true =>
    rw[if_pos rfl]
    exact⟨h1,by omega,hp,h3⟩
   |false =>
    rw[if_neg Bool.false_ne_true]
    have dj:∀k,0<=k->k<m->ky x p k=ky x p (m-1):=λk _ hk=>by
     have a1:O.le (ky x p k) (ky x p (m-1)):=by
      by_cases e:k=m-1
      ·rw[e];exact Ord.le_refl _
      ·exact h3 k (m-1) (by omega) (by omega)
     have a2:O.le (ky x p (m-1)) (ky x p k):=by
      by_cases e:k=0
      ·rw[e];exact hc
      ·exact Ord.oG hc (h3 0 k (by omega) hk)
     exact Ord.Fs a1 a2
    have hk:=DC (x:=x) (p:=p) (i:=0) (j:=m) (by rw[hp.1];omega) dj
    refine Br (hp.rev 0 m) h1 (by omega) ?_
    rw[hk]
    refine Dn.more (λi j dA hj=>?_) h1 (Ord.le_of_lt hs)
    rw[dj i (by omega) (by omega),dj j (by omega) hj]
    exact Ord.le_refl _
  ·refine Br hp h1 (by omega) (Dn.more (λi j dA hj=>by omega) h1 (Ord.le_of_lt hs))
theorem wA {p:Array Nat} {k:Nat} (hp:Pm n p) (hk:k<n) (hu:Up O (ky x p) k):∀(f l r:Nat),r-l<=f->l<=r->r<=k->(∀i,i<l->O.le (ky x p i) (ky x p k))->(∀i,r<=i->i<k->O.le (ky x p k) (ky x p i)) ->
  ok (asks O x) n (kas_place p k f l r) λm=>m<=k/\(∀i,i<m->O.le (ky x p i) (ky x p k))/\(∀i,m<=i->i<k->O.le (ky x p k) (ky x p i))
 |0,l,r,hf,hl,hr,a,b=>⟨by omega,a,λi hi=>b i (by omega)⟩
 |f+1,l,r,hf,hl,hr,a,b=>by
  unfold kas_place
  by_cases h:l ≥ r
  ·rw[if_pos h]
   exact⟨by omega,a,λi hi=>b i (by omega)⟩
  ·rw[if_neg h]
   refine⟨hp.lt hk,hp.lt (by omega),?_⟩
   show ok _ _ (if O.lt (ky x p k) (ky x p ((l+r) / 2))=true then _ else _) _
   cases hc:O.lt (ky x p k) (ky x p ((l+r) / 2)) with
   |true =>
    rw[if_pos rfl]
    refine wA hp hk hu f l ((l+r) / 2) (by omega) (by omega) (by omega) a λi hi ng=>?_
    by_cases e:i=(l+r) / 2
    ·rw[e];exact Ord.le_of_lt hc
    ·exact Ord.oG (Ord.le_of_lt hc) (hu _ _ (by omega) ng)
   |false =>
    rw[if_neg Bool.false_ne_true]
    refine wA hp hk hu f ((l+r) / 2+1) r (by omega) (by omega) hr (λi hi=>?_) b
    by_cases e:i=(l+r) / 2
    ·rw[e];exact hc
    ·exact Ord.oG (hu _ _ (by omega) (by omega)) hc
theorem EH:∀(f:Nat) (p:Array Nat) (k:Nat),Pm n p->k+f=n->Up O (ky x p) k->ok (asks O x) n (kas_bin f p k) λq=>Pm n q/\Up O (ky x q) n
 |0,p,k,hp,hk,hu=>⟨hp,by rw[<- hk];exact hu⟩
 |f+1,p,k,hp,hk,hu=>by
  refine n5 (iU (wA hp (by omega) hu k 0 k (by omega) (Nat.zero_le _) (Nat.le_refl _) (λi hi=>by omega) λi h1 h2=>by omega) λm hm=>?_)
  obtain⟨h1,h2,h3⟩:=hm
  refine EH f _ (k+1) (hp.RN _ _) (by omega) λi j dA hj=>?_
  have hz:k<p.size:=by rw[hp.1];omega
  have ek:k-(k-m)=m:=by omega
  rw[EG hz (by omega),EG hz (by omega),ek]
  by_cases i1:i=m
  ·rw[if_pos i1,if_neg (by omega),if_pos (by omega)]
   exact h3 _ (by omega) (by omega)
  ·rw[if_neg i1]
   by_cases i2:m<i/\i<=k
   ·rw[if_pos i2,if_neg (by omega),if_pos (by omega)]
    exact hu _ _ (by omega) (by omega)
   ·rw[if_neg i2]
    by_cases j1:j=m
    ·rw[if_pos j1];exact h2 _ (by omega)
    ·rw[if_neg j1]
     by_cases j2:m<j/\j<=k
     ·rw[if_pos j2]
      by_cases e:i=j-1
      ·rw[e];exact Ord.le_refl _
      ·exact hu _ _ (by omega) (by omega)
     ·rw[if_neg j2];exact hu _ _ dA (by omega)
theorem Mq (hn:1<=n):ok (asks O x) n (kas_sort n) λq=>Pm n q/\Up O (ky x q) n:=by
 refine n5 (iU (K0 (p:=List.toArray (List.range n)) ⟨by simp,by simp⟩ hn) λr hr=>?_)
 obtain⟨h1,h2,h3,h4⟩:=hr
 split
 ·rw[Nat.max_eq_left h1]
  exact EH _ _ _ h3 (by omega) h4
 ·rw[show r.1=n by omega] at h4
  exact⟨h3,h4⟩
end
end ST
namespace ST
open PySem PySem.W PyProof.Rows
section
variable {α:Type} {O:Ord α} {x:Nat->α} {prog:Program} {w:World} {A:Around} {E:Value->Shared->Prop} {s:Shared}
def uT (prog:Program) (w:World) (A:Around) (O:Ord α) (x:Nat->α) (us:List Value) (t:Shared):Prop :=
 wpAny (model prog w) A (keyKind' us.toArray) (fun κ t'=>t'=t/\∀i j (C:Bool->Shared->Prop),i<us.length->j<us.length->C (O.lt (x i) (x j)) t->wpAny (model prog w) A (keyLt' κ (us.getD i Value.none) (us.getD j Value.none)) C (λ_ _=>False) t) (λ_ _=>False) t
theorem HH {b:Addr} {us:List Value} {m:Nat} {R:PySem.Fin->Shared->Prop} (hb:s.heap.get? b=some (seqObj "list" us.toArray m)) (hz:us.length<64)
  (hk:2<=us.length->∀h1,(∀c o,c≠b->s.heap.get? c=some o->h1.get? c=some o)->uT prog w A O x us { s with heap:=h1 })
  (hR:∀(q:Array Nat) h' e,Pm us.length q->Up O (ky x q) us.length->(∀c o,c≠b->s.heap.get? c=some o->h'.get? c=some o)->h'.get? b=some (seqObj "list" (q.toList.map λi=>us.getD i Value.none).toArray e)->R (.done (.ret .none)) { s with heap:=h' }) :
  wpAny (model prog w) A (Builtin.«list.sort» ⟨[.ref b],[]⟩) R E s:=by
 have bh:b<s.heap.objs.size:=Heap.lt_size hb
 have line:us.length<=sizeLine:=by rw[sizeLine_eq];omega
 obtain⟨e1,zo⟩:∃e1,(s.heap.update b (Obj.mapSeq λ_=>(#[]:Array Value))).get? b=some (seqObj "list" #[] e1):=⟨_,get?_update_seq hb λ_=>#[]⟩
 generalize hg:((s.heap.update b (Obj.mapSeq λ_=>(#[]:Array Value))).push (seqObj "tuple" us.toArray 0)).push (seqObj "list" #[] 0)=h2
 have nC:h2.get? b=some (seqObj "list" #[] e1):=by rw[<- hg];exact Heap.get?_push_of_some _ (Heap.get?_push_of_some _ zo)
 have old:∀c o,c≠b->s.heap.get? c=some o->h2.get? c=some o:=λc o hc e=>by
  rw[<- hg]
  exact Heap.get?_push_of_some _ (Heap.get?_push_of_some _ (by rw[Heap.get?_update_ne _ _ _ _ hc];exact e))
 have last:∀(q:Array Nat),Pm us.length q->Up O (ky x q) us.length->R (.done (.ret .none)) { s with heap:=h2.update b (Obj.mapSeq λ_=>(q.toList.map λi=>us.getD i Value.none).toArray) }:=λq h1 h3 =>
  hR q _ _ h1 h3 (λc o hc e=>by rw[Heap.get?_update_ne _ _ _ _ hc];exact old c o hc e) (get?_update_seq nC λ_=>(q.toList.map λi=>us.getD i Value.none).toArray)
 rw[list_sort_plain]
 refine wpAny_bind (listItems_at hb rfl (wpAny_bind (listUpdate_at hb rfl ?_ (by rw[List.size_toArray];exact line) (Nat.zero_le _))))
 refine wpAny_bind (seqEpoch_at zo rfl (wpAny_bind (wpAny_newTuple (wpAny_bind (wpAny_newList (wpAny_holding ?_) (Nat.zero_le _))) (by show us.length<=_;exact line))))
 show wpAny (model prog w) A _ R E { s with heap:=_ }
 rw[hg]
 dsimp only
 by_cases lU:us.toArray.size<2
 ·rw[if_pos lU,if_pos lU]
  refine wpAny_bind (wpAny_pure ?_)
  rw[StateT.run_pure]
  refine wpAny_bind (wpAny_pure ?_)
  dsimp only
  have eo:(us.toArray.zip us.toArray).map (·.2)=((List.toArray (List.range us.length)).toList.map λi=>us.getD i Value.none).toArray:=by
   rw[List.size_toArray] at lU
   match us,lU with
   | [],_=>exact Array.toList_inj.mp (by simp)
   | [u],_=>exact Array.toList_inj.mp (by simp)
  refine wpAny_bind (seqEpoch_at nC rfl (wpAny_bind (listUpdate_at nC rfl ?_ (Nat.zero_le _) ?_)))
  ·simp only[bne_self_eq_false,Bool.false_eq_true,if_false]
   show wpAny _ _ _ _ _ { s with heap:=h2.update b (Obj.mapSeq λ_=>(us.toArray.zip us.toArray).map (·.2)) }
   rw[eo]
   refine wpAny_pure (last _ ⟨by simp,by simp⟩ λi j dA hj=>?_)
   rw[List.size_toArray] at lU
   omega
  ·show ((us.toArray.zip us.toArray).map (·.2)).size<=sizeLine+1
   simp
   omega
 ·rw[if_neg lU,if_neg lU]
  rw[List.size_toArray] at lU
  refine wpAny_bind (wpAny_mono (hk (by omega) h2 old) (fun κ t ht=>?_) λ_ _ z=>z.elim)
  obtain⟨rfl,ht⟩:=ht
  have tree:(kas_sort us.length).kasWp (kas_ask prog w A κ us) (λq t=>t={ s with heap:=h2 }/\Pm us.length q/\Up O (ky x q) us.length) { s with heap:=h2 } :=
   Fu (c:=asks O x) (n:=us.length) (λi j C hi hj hC=>ht i j C hi hj hC) (iU (Mq (by omega)) λq hq=>⟨rfl,hq⟩)
  refine wpAny_bind (wpAny_mono (kat_run (Q:=λcX t=>∃q:Array Nat,q.size=us.length/\arrOf cX=q.map (kas_item (us.toArray.zip us.toArray))/\failedOf cX=none/\t={ s with heap:=h2 }/\Pm us.length q/\Up O (ky x q) us.length)
   rfl (by omega) hz (λq cX t a1 a2 a3 a4=>⟨q,a1,a2,a3,a4⟩) tree) ?_ λ_ _ z=>z)
  rintro ⟨⟨⟩,cX⟩ t ⟨q,hq,RO,hf,rfl,h3,h4⟩
  dsimp only
  rw[kat_snds rfl RO]
  refine wpAny_bind (seqEpoch_at nC rfl (wpAny_bind (listUpdate_at nC rfl ?_ (Nat.zero_le _) ?_)))
  ·rw[hf]
   simp only[bne_self_eq_false,Bool.false_eq_true,if_false]
   exact wpAny_pure (last q h3 h4)
  ·show ((q.toList.map λi=>us.getD i Value.none).toArray).size<=sizeLine+1
   rw[List.size_toArray,List.length_map,Array.length_toList,hq]
   omega
theorem JE {l:Addr} {us:List Value} {Q:Value->Shared->Prop} (hl:s.heap.IsList l us.toArray) (hz:us.length<64)
  (hk:2<=us.length->∀h1,(∀c o,s.heap.get? c=some o->h1.get? c=some o)->uT prog w A.in1.in1 O x us { s with heap:=h1 })
  (hQ:∀(q:Array Nat) h' b e,Pm us.length q->Up O (ky x q) us.length->(∀c o,s.heap.get? c=some o->h'.get? c=some o)->s.heap.objs.size<=b->h'.get? b=some (seqObj "list" (q.toList.map λi=>us.getD i Value.none).toArray e)->Q (.ref b) { s with heap:=h' }) :
  wpAny (model prog w) A (call (.builtin "sorted") [.ref l]) Q E s:=by
 have line:us.length<=sizeLine:=by rw[sizeLine_eq];omega
 refine Calls.call_function_entry kind_sorted plain_sorted entry_sorted (args_sorted1 _) ?_
 unfold Builtin.«sorted»
 refine wpAny_bind (m:=checkCount "sorted" 1 1 _) (wpAny_pure (wpAny_bind (collect_list hl (wpAny_bind (wpAny_newList ?_ line)) line)))
 generalize hg:((s.heap.push (seqObj "list" #[] 0)).update s.heap.objs.size (Obj.mapSeq (·++us.toArray)))=h1
 have rG:h1.objs.size=s.heap.objs.size+1:=by rw[<- hg,Heap.size_update,size_push']
 have yG:∀c o,s.heap.get? c=some o->h1.get? c=some o:=λc o e=>by
  have bh:c<s.heap.objs.size:=Heap.lt_size e
  rw[<- hg,Heap.get?_update_ne _ _ _ _ (Nat.ne_of_lt bh)]
  exact Heap.get?_push_of_some _ e
 show wpAny _ _ _ _ _ { s with heap:=h1.push (seqObj "list" us.toArray 0) }
 have hb:(h1.push (seqObj "list" us.toArray 0)).get? h1.objs.size=some (seqObj "list" us.toArray 0):=Heap.get?_push_size _ rfl
 have old:∀c o,s.heap.get? c=some o->c≠h1.objs.size/\(h1.push (seqObj "list" us.toArray 0)).get? c=some o:=λc o e=>by
  have bh:c<s.heap.objs.size:=Heap.lt_size e
  exact⟨Nat.ne_of_lt (by rw[rG];exact Nat.lt_succ_of_lt bh),Heap.get?_push_of_some _ (yG c o e)⟩
 refine wpAny_bind (wpAny_holding (wpAny_call_entry slot_list_sort ⟨_,hb,rfl⟩ entry_list_sort (HH hb hz (λz h' ho=>hk z h' λc o e=>ho c o (old c o e).1 (old c o e).2) λq h' e h3 h4 ho hq=>⟨_,rfl,?_⟩) (args_list_sort _)))
 exact wpAny_pure ⟨_,rfl,hQ q h' _ e h3 h4 (λc o e=>ho c o (old c o e).1 (old c o e).2) (by show _<=h1.objs.size;rw[rG];exact Nat.le_succ _) hq⟩
end
end ST
namespace ST
open PySem PySem.W PyProof.Rows HT
theorem xh:∀a:List Int,lexLt a a=false:=λa=>by
 induction a with
 |nil=>rfl
 |cons i r ih=>rw[iy,if_pos rfl];exact ih
theorem NW:∀a b c:List Int,lexLt a b=true->lexLt b c=true->lexLt a c=true:=λa=>by
 induction a with
 |nil =>
  intro b c h g
  cases b with
  |nil=>cases h
  |cons j s=>cases c with
   |nil=>cases g
   |cons k t=>rfl
 |cons i r ih =>
  intro b c h g
  cases b with
  |nil=>cases h
  |cons j s =>
   cases c with
   |nil=>cases g
   |cons k t =>
    rw[iy] at h g |-
    by_cases e1:i=j
    ·subst e1
     rw[if_pos rfl] at h
     by_cases e2:i=k
     ·rw[if_pos e2] at g |-;exact ih s t h g
     ·rw[if_neg e2] at g |-;exact g
    ·rw[if_neg e1] at h
     have h:=of_decide_eq_true h
     by_cases e2:j=k
     ·subst e2
      rw[if_neg e1];exact decide_eq_true h
     ·rw[if_neg e2] at g
      have g:=of_decide_eq_true g
      rw[if_neg (by omega)];exact decide_eq_true (by omega)
theorem Mr:∀a b:List Int,lexLt a b=false->lexLt b a=false->a=b:=λa=>by
 induction a with
 |nil =>
  intro b h g
  cases b with
  |nil=>rfl
  |cons j s=>cases h
 |cons i r ih =>
  intro b h g
  cases b with
  |nil=>cases g
  |cons j s =>
   rw[iy] at h g
   by_cases e:i=j
   ·subst e
    rw[if_pos rfl] at h g
    rw[ih s h g]
   ·rw[if_neg e] at h
    rw[if_neg (Ne.symm e)] at g
    have h:=of_decide_eq_false h
    have g:=of_decide_eq_false g
    omega
section
variable {prog:Program} {w:World} {A:Around} {E:Value->Shared->Prop} {s:Shared}
inductive lA (h:Heap):List Value->List (List Int)->Prop where
 |nil:lA h [] []
 |cons {a:Addr} {its:Array Value} {ns:List Int} {us:List Value} {gP:List (List Int)}:IsTup h a its->IntsAre its.toList ns->lA h us gP->lA h (.ref a::us) (ns::gP)
theorem lA.keep {h h':Heap} (k:∀c o,h.get? c=some o->h'.get? c=some o) {us:List Value} {gP:List (List Int)} (t:lA h us gP):lA h' us gP:=by
 induction t with
 |nil=>exact .nil
 |cons a b _ ih =>
  obtain⟨o,ho,r⟩:=a
  exact .cons ⟨o,k _ _ ho,r⟩ b ih
theorem lA.at {h:Heap} {us:List Value} {gP:List (List Int)} (t:lA h us gP):∀i,i<us.length->∃a its,us.getD i Value.none=.ref a/\IsTup h a its/\IntsAre its.toList (gP.getD i []):=by
 induction t with
 |nil=>intro i hi;simp at hi
 |cons a b _ ih =>
  intro i hi
  cases i with
  |zero=>exact⟨_,_,rfl,a,b⟩
  |succ i =>
   obtain⟨c,its,e,r⟩:=ih i (by simpa using hi)
   exact⟨c,its,by simpa using e,r⟩
inductive rT:List (Option Value)->List (List Int)->Prop where
 |nil:rT [] []
 |aB {fs:List (Option Value)} {gP:List (List Int)}:rT fs gP->rT (none::fs) ([]::gP)
 |one {fs:List (Option Value)} {gP:List (List Int)} {n:Int} {t:Tok} {r:List Int}:rT fs gP->rT (some (.int n t)::fs) ((n::r)::gP)
noncomputable def ins {α:Type} (O:Ord α) (a:α):List α->List α
 | []=>[a]
 |b::r=>if O.lt b a=true then b::ins O a r else a::b::r
noncomputable def iC {α:Type} (O:Ord α):List α->List α
 | []=>[]
 |a::r=>ins O a (iC O r)
end
section
variable {α:Type} {O:Ord α}
theorem CS (a:α) (l:List α):(ins O a l).Perm (a::l):=by
 induction l with
 |nil=>exact .refl _
 |cons b r ih =>
  unfold ins
  split
  ·exact(List.Perm.cons b ih).trans (List.Perm.swap a b r)
  ·exact .refl _
theorem sF (l:List α):(iC O l).Perm l:=by
 induction l with
 |nil=>exact .refl _
 |cons a r ih=>exact(CS a _).trans (ih.cons a)
theorem NX (a:α) (l:List α) (h:l.Pairwise O.le):(ins O a l).Pairwise O.le:=by
 induction l with
 |nil=>exact List.pairwise_singleton _ _
 |cons b r ih =>
  obtain⟨h1,h2⟩:=List.pairwise_cons.mp h
  unfold ins
  split<;>rename_i hb
  ·refine List.pairwise_cons.mpr ⟨λc hc=>?_,ih h2⟩
   rcases List.mem_cons.mp ((CS a r).mem_iff.mp hc) with e|e
   ·rw[e];exact Ord.le_of_lt hb
   ·exact h1 c e
  ·have hb:O.le a b:=by rw[Bool.not_eq_true] at hb;exact hb
   refine List.pairwise_cons.mpr ⟨λc hc=>?_,h⟩
   rcases List.mem_cons.mp hc with e|e
   ·rw[e];exact hb
   ·exact Ord.oG hb (h1 c e)
theorem CT (l:List α):(iC O l).Pairwise O.le:=by
 induction l with
 |nil=>exact .nil
 |cons a r ih=>exact NX a _ ih
theorem JF:∀{l m:List α},l.Perm m->l.Pairwise O.le->m.Pairwise O.le->l=m:=by
 intro l
 induction l with
 |nil=>intro m h _ _;exact h.nil_eq
 |cons a r ih =>
  intro m h h1 h2
  cases m with
  |nil=>exact absurd h.length_eq (by simp)
  |cons b t =>
   obtain⟨a1,a2⟩:=List.pairwise_cons.mp h1
   obtain⟨b1,b2⟩:=List.pairwise_cons.mp h2
   have e:a=b:=by
    rcases List.mem_cons.mp (h.mem_iff.mp List.mem_cons_self) with e|e
    ·exact e
    ·rcases List.mem_cons.mp (h.mem_iff.mpr List.mem_cons_self) with e'|e'
     ·exact e'.symm
     ·exact Ord.Fs (a1 b e') (b1 a e)
   subst e
   rw[ih h.cons_inv a2 b2]
theorem JG {xs:List α} {d:α} {q:Array Nat} (hp:Pm xs.length q) (hu:Up O (ky (λi=>xs.getD i d) q) xs.length):q.toList.map (λi=>xs.getD i d)=iC O xs:=by
 refine JF ?_ ?_ (CT xs)
 ·refine(hp.2.map _).trans ?_
  have:(List.range xs.length).map (λi=>xs.getD i d)=xs:=by
   apply List.ext_getElem?
   intro i
   by_cases hi:i<xs.length
   ·simp[hi]
   ·simp[hi,Nat.le_of_not_lt hi]
  rw[this]
  exact(sF xs).symm
 ·rw[List.pairwise_iff_getElem]
  intro i j hi hj dA
  have l1:(q.toList.map λi=>xs.getD i d).length=xs.length:=by rw[List.length_map,Array.length_toList,hp.1]
  have RP:j<q.size:=by rw[hp.1];omega
  have pA:i<q.size:=by omega
  have:=hu i j dA (by omega)
  unfold ky at this
  simpa [Array.getD,pA,RP] using this
end
end ST
namespace DI
open PySem L2
section
variable {X:Cx} {Ξ:Wd->bq->Prop} {a e tg:Expr} {p pos:Pos} {f:Env->ae->Res D} {fa:Env->ae->Res (List D)}
noncomputable def qh (x y:D) (s:ae):Res D:=match x,y with
 | .bl a,.bl b=>ok (.bl (!decide (a=b))) s
 |_,_=>none
theorem NY:bg X (compareOp .IsNot) (rO X.K Ξ qh):=by
 rintro pins s σ H x y v u Q I rx ry ⟨w,dx,dy,rfl,S,hx,hy,h⟩
 unfold qh at h
 split at h
 ·rename_i a b
  cases hx;cases hy;cases rx;cases ry
  refine wpAny_isNot_plain rfl (cf I (aG S h _ rfl) ?_)
  cases a<;>cases b<;>rfl
 ·exact h.elim
noncomputable def mJ (n:Nat):List D:=(List.range n).map λi:Nat=>D.int ((n:Int)-1-i)
theorem JH (n:Nat):(mJ n).length=n:=by simp[mJ]
theorem JI (n i:Nat):(mJ n)[i]?=if i<n then some (.int ((n:Int)-1-i)) else none:=by
 unfold mJ
 rw[List.getElem?_map]
 split
 ·rename_i h;rw[List.getElem?_range h];rfl
 ·rename_i h;rw[List.getElem?_eq_none (by simp;omega)];rfl
theorem EI {K:Frag} {w:Wd} {n:Nat}:nj K w (uG n) (mJ n):=λw' l' S' i=>by
 refine⟨λd ed=>?_,λhl=>by rw[JH] at hl;exact hl⟩
 rw[JI] at ed
 split at ed
 ·cases ed
  exact⟨by assumption,λx H' ⟨e1,e2⟩=>⟨w',e1.symm,Le.refl _,S',rfl,e2⟩⟩
 ·cases ed
noncomputable def zX (fa:Env->ae->Res (List D)):Env->ae->Res (List D):=λenv s=>ar (fa env s) λds s=>match ds with
 | [.int j]=>if (iB j&&decide (0<=j))=true then ok (mJ j.toNat) s else none
 |_=>none
theorem Pe {p2 i8:Pos} (hg:Gl X "reversed") (hm:X.mg "reversed"=none) (zD:Gl X "range") (zE:X.mg "range"=none) (ha:PA X [a] (tA X.K Ξ fa))
  (he:starEach [a] X.env=(false,eval a X.env)::starEach [] X.env:=by rfl) (cT:(backTo i8 (starEach [] X.env)).any (·.1)=false:=by rfl)
  (hs:starEach [.Call (.Name "range" p2) [a] [] i8] X.env=[(false,eval (.Call (.Name "range" p2) [a] [] i8) X.env)]:=by rfl)
  (vf:starEach [.Call (.Name "range" p2) [a] [] i8] X.env=(false,eval (.Call (.Name "range" p2) [a] [] i8) X.env)::starEach [] X.env:=by rfl) :
  PI X tg (.Call (.Name "reversed" p) [.Call (.Name "range" p2) [a] [] i8] [] pos) (dI X.K Ξ (zX fa)) :=
 oj (NJ hg hm (pX (vY Ic zD zE (by decide +kernel) ha (by decide) (by decide) he cT) p6 vf) hs) fun σ H R aC=>by
  obtain⟨w,env,eH,S,eo,h⟩:=aC
  subst eH
  refine⟨w,env,rfl,S,eo,(Out.ar h).mono λw1 ds l1 S1 h1 vs au=>?_⟩
  split at h1
  ·rename_i j
   split at h1
   ·rename_i hj
    simp only[iB,Bool.and_eq_true,decide_eq_true_eq] at hj
    obtain⟨v,r,rfl,dv,dr⟩:=au
    have e1:v=.int j:=dv
    have e2:r=[]:=dr
    subst e1 e2
    refine⟨j,rfl,λq hq=>?_⟩
    refine⟨q,j.toNat,rfl,?_,by omega,?_⟩
    ·rw[dU,Int.toNat_of_nonneg hj.2]
    ·exact h1 (w1.grow q (.bR 0 j)) (Fw.grow hq).le (S1.grow hq) rfl _ EI
   ·exact h1.elim
  ·exact h1.elim
end
end DI
namespace L2
open PySem PySem.Spec PyProof.Rows
structure EJ (sc:Scope) (cl fK:List (Str×Addr)) (C:Nat) (h:Heap):Prop where
 old:∀n c,fK.lookup n=some c->(C<c/\(n,NameKind.cell)∈sc.names/\∃v,h.IsCell c v)\/cl.lookup n=some c
 own:∀n,sc.names.lookup n=some .cell\/(cl.lookup n).isSome=true->∃c,fK.lookup n=some c
 inj:(∀x y c,cl.lookup x=some c->cl.lookup y=some c->x=y)->(∀x c,cl.lookup x=some c->c<C)->∀x y c,fK.lookup x=some c->fK.lookup y=some c->x=y
theorem v5 {x:Str} {c:Addr}:∀(names:List (Str×NameKind)) (n:Nat) (acc:List (Str×Addr)),(cellsFrom n names acc).lookup x=some c->((x,NameKind.cell)∈names/\n<=c)\/acc.lookup x=some c
 | [],n,acc,h=>.inr h
 |(y,k)::r,n,acc,h=>by
  unfold cellsFrom at h
  split at h
  ·rename_i hk
   have hk:k=.cell:=by simpa using hk
   subst hk
   rcases v5 r (n+1) _ h with ⟨h1,h2⟩|h1
   ·exact .inl ⟨List.mem_cons_of_mem _ h1,by omega⟩
   ·rw[List.lookup_cons] at h1
    split at h1
    ·rename_i e
     have e:x=y:=by simpa using e
     subst e
     cases h1
     exact .inl ⟨List.mem_cons_self,Nat.le_refl _⟩
    ·exact .inr h1
  ·rcases v5 r n acc h with ⟨h1,h2⟩|h1
   ·exact .inl ⟨List.mem_cons_of_mem _ h1,h2⟩
   ·exact .inr h1
theorem v7:∀(names:List (Str×NameKind)) (n:Nat) (acc:List (Str×Addr)),(∀x y c,acc.lookup x=some c->acc.lookup y=some c->x=y)->(∀x c,acc.lookup x=some c->c<n)->∀x y c,(cellsFrom n names acc).lookup x=some c->(cellsFrom n names acc).lookup y=some c->x=y
 | [],n,acc,hi,hb=>hi
 |(z,k)::r,n,acc,hi,hb=>by
  unfold cellsFrom
  split
  ·refine v7 r (n+1) _ (λx y c h1 h2=>?_) λx c h1=>?_
   ·rw[List.lookup_cons] at h1 h2
    split at h1
    ·rename_i e1
     split at h2
     ·rename_i e2
      exact(by simpa using e1:x=z).trans (by simpa using e2:y=z).symm
     ·cases h1
      exact absurd (hb y _ h2) (Nat.lt_irrefl _)
    ·split at h2
     ·cases h2
      exact absurd (hb x _ h1) (Nat.lt_irrefl _)
     ·exact hi x y c h1 h2
   ·rw[List.lookup_cons] at h1
    split at h1
    ·cases h1;exact Nat.lt_succ_self _
    ·exact Nat.lt_succ_of_lt (hb x c h1)
  ·exact v7 r n acc hi hb
theorem wB {x:Str} {c:Addr} {lo:Nat}:∀(names:List (Str×NameKind)) (h:Heap) (acc:List (Str×Addr)),lo<=h.objs.size->(∀x c,acc.lookup x=some c->lo<=c->h.IsCell c none)->(cellsFrom h.objs.size names acc).lookup x=some c->lo<=c->(pushCells h names).IsCell c none
 | [],h,acc,_,ha,e,hl=>ha x c e hl
 |(z,k)::r,h,acc,Gv,ha,e,hl=>by
  unfold cellsFrom at e
  unfold pushCells
  split at e
  ·rename_i hk
   rw[if_pos hk]
   have hz:(h.push { cls:=.type "cell",data:=.cell none }).objs.size=h.objs.size+1:=Heap.size_push ..
   refine wB (lo:=lo) r _ ((z,h.objs.size)::acc) (by omega) (λy d hy hd=>?_) (by rw[hz];exact e) hl
   rw[List.lookup_cons] at hy
   split at hy
   ·cases hy
    exact⟨_,Heap.get?_push_size _ rfl,rfl⟩
   ·exact(ha y d hy hd).keeps λb o q=>Heap.get?_push_of_some _ q
  ·rename_i hk
   rw[if_neg hk]
   exact wB r h acc Gv ha e hl
theorem Hu {M:Model} {A:Around} {E:Value->Shared->Prop} {s:Shared} {scope:Scope} {globals:Addr} {cl:List (Str×Addr)} {qual:Str} {env:Env} {bi:Addr} {Q:Env->Shared->Prop}
  (hQ:∀fK h3,((∀x c,cl.lookup x=some c->c<s.heap.objs.size)->EJ scope cl fK s.heap.objs.size h3)->h3.Ns s.heap.objs.size (λ_=>none)->(∀b o,s.heap.get? b=some o->h3.get? b=some o)->Q (newEnv scope s.heap.objs.size globals fK qual none .none (some env) bi) { s with heap:=h3 }) :
  wpAny M A (newFunctionEnv scope globals cl [] qual none .none (some env) bi) Q E s:=by
 simp only[newFunctionEnv,Option.isSome_some,if_true]
 refine wpAny_bind (wpAny_alloc ?_)
 refine wpAny_bind (wpAny_layCells _ (λname kind cells=>by cases RQ:kind==NameKind.cell<;>simp[RQ]) _ _ _ _ ?_)
 rw[show ({ s with heap:=s.heap.push { cls:=.type "dict",data:=.dict #[] } }:Shared).heap.objs.size=s.heap.objs.size+1 from Heap.size_push ..]
 simp only[List.forIn_nil]
 refine wpAny_bind (wpAny_pure (wpAny_pure ?_))
 have hz:(s.heap.push { cls:=.type "dict",data:=.dict #[] }).objs.size=s.heap.objs.size+1:=Heap.size_push ..
 refine hQ (cellsFrom (s.heap.objs.size+1) scope.names cl) _ (λhb=>⟨λn c e=>?_,λn hn=>?_,λhi eV=>v7 _ _ _ hi λx c e=>Nat.lt_succ_of_lt (eV x c e)⟩) ((Heap.Ns.new s.heap (.type "dict")).keeps (pushCells_keeps _ _)) λb o e=>pushCells_keeps _ _ b o (Heap.get?_push_of_some _ e)
 ·rcases v5 _ _ _ e with ⟨h1,h2⟩|h1
  ·exact .inl ⟨by omega,h1,none,wB (lo:=s.heap.objs.size+1) scope.names _ cl (by omega) (λx d q hd=>absurd (hb x d q) (Nat.not_lt.mpr (Nat.le_of_succ_le hd))) (by rw[hz];exact e) h2⟩
  ·exact .inr h1
 ·exact Option.isSome_iff_exists.mp (PySem.W.cellsFrom_some scope.names _ cl hn)
noncomputable abbrev ef (X:Cx) (N:List Str) (sc:Scope) (cl:List (Str×Addr)) (C:Addr) (s:Shared) (H:Hp) (ex:List Addr) (pn:List (Addr×Obj)):Cx:={ dB X N sc cl C s H ex pn with fn:=λx=>sc.names.lookup x==some .cell }
structure lg (X:Cx) (sc:Scope) (N:List Str) (nt:Nat) (cap:List Nat):Prop where
 kind:sc.kind=.function
 names:∀x∈sc.names,x.2=.local->sc.names.lookup x.1=some .local
 cells:∀x∈sc.names,x.2=.cell->sc.names.lookup x.1=some .cell
 frees:∀x∈sc.names,x.2=.free->sc.names.lookup x.1=some .free/\(X.env.scope.names.lookup x.1=some .cell\/X.env.scope.names.lookup x.1=some .free)
 len:N.length=nt+cap.length
 yC:∀(k:Nat) j,cap[k]?=some j->∃x,X.N[j]?=some x/\N[nt+k]?=some x/\(x,NameKind.free)∈sc.names
section
variable {X:Cx} {sc:Scope} {N:List Str} {nt:Nat} {cap:List Nat} {cl fK:List (Str×Addr)} {s:Shared} {h1:Heap} {H:Hp} {σ:St} {pins:List (Addr×Obj)} {fp:List Addr} {C:Addr} {t':Nat}
theorem Inv.NZ (I:Inv X pins σ H s) (S:lg X sc N nt cap) (cY:∀n c,cl.lookup n=some c↔((n,NameKind.free)∈sc.names/\X.env.cells.lookup n=some c)) (gp:EJ sc cl fK C h1) (hf:∀b∈fp,fv X pins H b) (il:∀b∈fp,b<s.heap.objs.size)
  (hk:∀b o,s.heap.get? b=some o->h1.get? b=some o) (hC:s.heap.objs.size<=C) (oX:∃m,h1.Ns C m):Inv (ef X N sc fK C s H fp (X.pn++pins)) [] (jv nt cap σ) H { s with heap:=h1,toks:=t' }:=by
 have qm:∀b∈fZ X.stack,b∈X.env.locals::X.fs:=I.kc
 have QG:∀x c,cl.lookup x=some c->c<s.heap.objs.size:=λx c e=>by
  obtain⟨v,o,ho,_⟩:=I.cell x c ((cY x c).mp e).2
  exact Heap.lt_size ho
 have xW:∀x,(relabel sc X.env).names.lookup x=some .cell\/(relabel sc X.env).names.lookup x=some .free->(x,NameKind.free)∈sc.names\/sc.names.lookup x=some .cell:=λx hx=>by
  rw[sj] at hx
  cases e:sc.names.lookup x with
  |none=>rw[e] at hx;rcases hx with z|z<;>cases z
  |some k =>
   have hm:(x,k)∈sc.names:=by
    obtain⟨l1,l2,e1,_⟩:=List.lookup_eq_some_iff.mp e
    rw[e1]
    simp
   rw[e] at hx
   cases k with
   |free=>exact .inl hm
   |cell=>exact .inr rfl
   |_=>exfalso;revert hx;simp
 have wY:∀x,(x,NameKind.free)∈sc.names->∃c,X.env.cells.lookup x=some c:=λx hx=>I.ok.has x (S.frees _ hx rfl).2
 have F4:∀x c,(x,NameKind.free)∈sc.names->X.env.cells.lookup x=some c->fK.lookup x=some c:=λx c hx hc=>by
  have e:=(cY x c).mpr ⟨hx,hc⟩
  obtain⟨d,hd⟩:=gp.own x (.inr (by rw[e];rfl))
  rcases gp.old x d hd with ⟨_,q,_⟩|q
  ·have z1:=S.cells _ q rfl
   have z2:=(S.frees _ hx rfl).1
   dsimp only at z1 z2
   rw[z1] at z2
   cases z2
  ·rw[e] at q
   cases q
   exact hd
 have ok:Cx.Ok (ef X N sc fK C s H fp (X.pn++pins)):=by
  refine⟨I.ok.mod,?_,I.ok.glob,I.ok.blt,hC,?_,?_,?_,I.ok.hd,I.ok.frames,.inl rfl,?_,I.bs,Nat.le_trans I.ok.jc I.sz,?_,?_,I.stack,I.wU⟩
  ·exact S.kind
  ·exact gp.inj (λx y c hx hy=>I.ok.inj x y c ((cY x c).mp hx).2 ((cY y c).mp hy).2) λx c e=>Nat.lt_of_lt_of_le (QG x c e) hC
  ·intro x hx
   rcases xW x hx with hm|hm
   ·obtain⟨c,e⟩:=wY x hm
    exact⟨c,F4 x c hm e⟩
   ·exact gp.own x (.inl hm)
  ·intro x c hx e
   rcases gp.old x c e with ⟨q,_,_⟩|q
   ·exact Nat.le_trans hC (Nat.le_of_lt q)
   ·have z2:=(S.frees _ ((cY x c).mp q).1 rfl).1
    have z1:sc.names.lookup x=some .cell:=by simpa using hx
    dsimp only at z2
    rw[z1] at z2
    cases z2
  ·intro b hb
   refine⟨Nat.ne_of_lt (Nat.lt_of_lt_of_le (il b hb) hC),λx c e=>?_⟩
   rcases gp.old x c e with ⟨q,_,_⟩|q
   ·exact Nat.ne_of_gt (Nat.lt_of_lt_of_le (il b hb) (Nat.le_trans hC (Nat.le_of_lt q)))
   ·exact(hf b hb).2.2.2.2.1 x c ((cY x c).mp q).2
  ·intro b o e hb
   rcases(hf b hb).2.2.2.1 with z|z
   ·exact I.ok.mL b o e z
   ·exact absurd (Nat.lt_of_lt_of_le (Heap.lt_size e) (Nat.le_trans I.ok.jc z)) (Nat.lt_irrefl _)
  ·intro b hb z
   rcases List.mem_cons.mp (qm b z) with e|e
   ·exact(hf b hb).2.1 e
   ·exact(hf b hb).2.2.1 e
 obtain⟨m,hm⟩:=oX
 obtain⟨mX,Q4,zg⟩:=I.loc
 refine⟨ok,rfl,I.bare,Un.kept hk,⟨m,hm,λi x v e1 e2 e3=>?_⟩,λx c e=>?_,I.aJ.fresh hC,λx c e=>?_,λp hp=>?_,I.aJ.kept hk,?_⟩
 ·
  have hi:nt<=i:=by
   apply Nat.le_of_not_lt
   intro bh
   have:(jv nt cap σ)[i]?=some none:=by
    unfold jv
    rw[List.getElem?_append_left (by simpa using bh),List.getElem?_replicate,if_pos bh]
   rw[this] at e2
   cases e2
  have jh:(cap.map λj=>(σ[j]?).getD none)[i-nt]?=some (some v):=by
   have e:=e2
   unfold jv at e
   rw[List.getElem?_append_right (by simpa using hi)] at e
   simpa using e
  rw[List.getElem?_map] at jh
  cases ej:cap[i-nt]? with
  |none=>rw[ej] at jh;cases jh
  |some j =>
   rw[ej] at jh
   have ev:(σ[j]?).getD none=some v:=Option.some.inj jh
   have rA:σ[j]?=some (some v):=by
    cases q:σ[j]? with
    |none=>rw[q] at ev;cases ev
    |some z=>rw[q] at ev;exact congrArg some ev
   obtain⟨y,f1,f2,f3⟩:=S.yC _ _ ej
   rw[Nat.add_sub_cancel' hi] at f2
   have zh:y=x:=Option.some.inj (f2.symm.trans e1)
   subst zh
   obtain⟨g1,g2⟩:=S.frees _ f3 rfl
   have zi:qS X.env.scope y:=.inr g2
   obtain⟨u,r,l⟩:=zg j y v f1 rA zi
   refine⟨u,r,.inr ⟨?_,?_⟩⟩
   ·show (relabel sc X.env).names.lookup y=some .cell\/(relabel sc X.env).names.lookup y=some .free
    rw[sj,g1]
    simp only[Option.map_some]
    split
    ·exact .inl rfl
    ·exact .inr rfl
   ·rcases l with ⟨k,_⟩ | ⟨_,c,hc,lh⟩
    ·exfalso
     have k':X.env.scope.names.lookup y=some .local:=k
     dsimp only at g2
     rw[k'] at g2
     rcases g2 with z|z<;>cases z
    ·obtain⟨oc,ho,hd⟩:=lh
     exact⟨c,F4 y c f3 hc,oc,hk _ _ ho,hd⟩
 ·rcases gp.old x c e with ⟨_,_,q⟩|q
  ·exact q
  ·obtain⟨v,oc,ho,hd⟩:=I.cell x c ((cY x c).mp q).2
   exact⟨v,oc,hk _ _ ho,hd⟩
 ·rcases gp.old x c e with ⟨q,_,_⟩|q
  ·exact I.aJ.fresh (by omega)
  ·exact I.eD x c ((cY x c).mp q).2
 ·have zj:p∈X.pn++pins:=by simpa using hp
  obtain⟨e,n,ne,nf,d⟩:=I.pin p zj
  refine⟨hk _ _ e,n,Nat.ne_of_lt (Nat.lt_of_lt_of_le (Heap.lt_size e) hC),λz=>?_,d⟩
  rcases List.mem_cons.mp (qm p.1 z) with q|q
  ·exact ne q
  ·exact nf q
 ·unfold jv
  rw[List.length_append,List.length_replicate,List.length_map]
  exact S.len.symm
end
section
variable {X:Cx}
theorem BJ {el tg src:Expr} {tests:List Expr} {sc:Scope} {ps:Pos} {N:List Str} {nt:Nat} {cap:List Nat} {wi:TI} {g:TG} {tf:TT} {te:TE} {p1:Pos} {use:Option (Value->Sem Unit)} {R:Value->Shared->Prop} {pins:List (Addr×Obj)} {s:Shared} {σ:St} {H:Hp} {Q:VK} (hc:X.calm=true) (S:lg X sc N nt cap) (fJ:kC g nt) (hi:PI X tg src wi)
  (hY:∀(cl:List (Str×Addr)) (C:Addr) (s:Shared) (H:Hp) (ex:List Addr) (pn:List (Addr×Obj)),PG (ef X N sc cl C s H ex pn) tg g/\PF (ef X N sc cl C s H ex pn) tests tf/\PE (ef X N sc cl C s H ex pn) el te)
  (hs:∀x,foldedSetIterable src X.env x=pure x) (I:Inv X pins σ H s) (h:ki wi nt cap g tf te σ H Q)
  (yK:∀(s':Shared) (H1:Hp) (D C:Addr) (m:Str->Option Value),(∀h',Heap.SameBut C s'.heap h'->Inv X pins σ H1 { s' with heap:=h' })->s'.heap.Ns C m->H1 C=none->C≠X.env.locals->C∉X.fs->X.cS.heap.objs.size<=C->(∀x c,X.env.cells.lookup x=some c->c≠C)->(∀p∈X.pn++pins,p.1≠C)->Q (.ref D) H1->compPost (model X.prog X.w) X.A X.xe use R (.ref D) C (.ok .next) s') :
  wpAny (model X.prog X.w) X.A (comprehension (.ListComp el [⟨tg,src,tests,0⟩] sc ps) sc X.env p1 (newList []) false (eval src X.env) use) R X.xe s:=by
 obtain⟨cl,x6,cY⟩:=Ek (env:=X.env) (sc:=sc) λn hn=>I.ok.has n (S.frees _ hn rfl).2
 refine wpAny_comprehension_free (use:=use) rfl hs x6 S.kind S.names (aK (hi pins s σ H _ I h) λxv s1 h1=>aK h1 λgn s2 h2=>?_)
 obtain⟨it,fp,tn,J,H2,e,I2,T,iI,f2,W,⟨m0,w0⟩,turn⟩:=h2
 subst e
 refine wpAny_newObj_type (Hu λfK h3 kA i9 lP=>?_)
 dsimp only at kA i9 lP |-
 generalize hD:s2.heap.objs.size=D at kA i9 lP |-
 generalize hG:s2.heap.push { cls:=.type "list",dict:=none,data:=.seq ([]:List Value).toArray }=G at kA i9 lP |-
 generalize zM:G.objs.size=C at kA i9 lP |-
 have hC:C=D+1:=by rw[<- zM,<- hG,Heap.size_push,hD]
 have nA:D≠C:=by omega
 have fC:s2.heap.objs.size<=D:=Nat.le_of_eq hD
 have gj:s2.heap.objs.size<=C:=by omega
 have old:∀b o,s2.heap.get? b=some o->h3.get? b=some o:=λb o e=>lP b o (hG ▸ Heap.get?_push_of_some _ e)
 have jD:h3.PlainList D #[]:=⟨_,lP _ _ (hG ▸ hD ▸ Heap.get?_push_size _ rfl)⟩
 have il:∀b∈fp,b<s2.heap.objs.size:=λb hb=>by
  obtain⟨o,e,_⟩:=T.obj _ _ iI b hb
  exact Heap.lt_size e
 have kA:=kA λx c e=>by
  obtain⟨v,o,ho,_⟩:=I2.cell x c ((cY x c).mp e).2
  exact Nat.lt_of_lt_of_le (Heap.lt_size ho) gj
 have IB:=I2.NZ (t':=s2.toks) S cY kA f2 il old gj ⟨_,i9⟩
 have zN:D∉fZ X.stack:=λz=>by
  rcases List.mem_cons.mp (I2.kc D z) with e|e
  ·exact absurd (Nat.lt_of_lt_of_le I2.lt fC) (by rw[e];exact Nat.lt_irrefl _)
  ·exact I2.qF fC e
 have kH:D∉fp:=λz=>absurd (Nat.lt_of_lt_of_le (il D z) fC) (Nat.lt_irrefl _)
 have xC:∀x c,fK.lookup x=some c->c≠D:=λx c e z=>by
  rcases kA.old x c e with ⟨q,_,_⟩|e
  ·rw[z] at q
   exact absurd q (by rw[hC];exact Nat.not_lt.mpr (Nat.le_succ D))
  ·obtain⟨v,o,ho,_⟩:=I2.cell x c ((cY x c).mp e).2
   exact absurd (Nat.lt_of_lt_of_le (Heap.lt_size ho) (by rw[z];exact fC)) (Nat.lt_irrefl _)
 have x8:∀p∈X.pn++pins,p.1≠D:=λp hp z=>absurd (Nat.lt_of_lt_of_le (Heap.lt_size (I2.pin p hp).1) (by rw[z];exact fC)) (Nat.lt_irrefl _)
 generalize fL:ef X N sc fK C s2 H2 fp (X.pn++pins)=Y at IB
 have kI:∀{H':Hp} {pl:List (Addr×Obj)},(∀b∈fp,H' b=none)->(∀p∈pl,p.1∉fp)->∀b∈fp,fv Y pl H' b:=λ{H' pl} hn hp b hb=>by
  subst fL
  obtain⟨_,f1,nv,f3,f4,f5⟩:=f2 b hb
  refine⟨hn b hb,Nat.ne_of_lt (Nat.lt_of_lt_of_le (il b hb) gj),λz=>?_,.inl hb,λx c e=>(kA.old x c e).elim (λq z=>Nat.ne_of_gt (Nat.lt_of_lt_of_le (il b hb) (Nat.le_trans gj (Nat.le_of_lt q.1))) z) λe=>f4 x c ((cY x c).mp e).2,λp rN=>?_⟩
  ·rcases List.mem_cons.mp (I2.kc b z) with e|e
   ·exact f1 e
   ·exact nv e
  ·rcases List.mem_append.mp rN with z|z
   ·exact f5 p z
   ·exact λe=>hp p z (e ▸ hb)
 have zO:PG Y tg g:=by subst fL;exact(hY _ _ _ _ _ _).1
 have zP:PF Y tests tf:=by subst fL;exact(hY _ _ _ _ _ _).2.1
 have RR:PE Y el te:=by subst fL;exact(hY _ _ _ _ _ _).2.2
 have eP:Y.prog=X.prog:=by subst fL;rfl
 have eW:Y.w=X.w:=by subst fL;rfl
 have eA:Y.A=X.A:=by subst fL;rfl
 have eK:Y.K=X.K:=by subst fL;rfl
 have eE:Y.env=compEnvC sc fK C X.env:=by subst fL;rfl
 have eX:Y.xe=λ_ _=>False:=by subst fL;rfl
 have eC:Y.calm=true:=by subst fL;exact hc
 have eS:Y.cS.heap.objs.size<=D:=by subst fL;exact fC
 have eF:D∉Y.fs:=by subst fL;exact zN
 have eL:D≠Y.env.locals:=by subst fL;exact nA
 have RS:∀x c,Y.env.cells.lookup x=some c->c≠D:=by subst fL;exact xC
 have eN:∀p∈Y.pn,p.1≠D:=by subst fL;exact x8
 have fin:∀(s':Shared) (τ:St) (H':Hp) (acc:List V) (ys:Array Value),Inv Y [] τ H' s'->s'.heap.PlainList D ys->Vals acc ys.toList->H' D=none->acc.length<=sizeLine->(∀D,H' D=none->Q (.ref D) (upd H' D (.lst acc))) ->
   compPost (model X.prog X.w) X.A X.xe use R (.ref D) C (.ok .next) s':=by
  intro s' τ H' acc ys I' pl rv hn hz q
  subst fL
  obtain⟨m,hm,_⟩:=id I'.loc
  refine yK s' (upd H' D (.lst acc)) D C m (λh' sb=>?_) hm ?_ (λz=>absurd (Nat.lt_of_lt_of_le I2.lt gj) (by rw[z];exact Nat.lt_irrefl _)) (I2.qF gj) (Nat.le_trans I2.sz gj) (λx c e z=>?_) (λp hp z=>absurd (Nat.lt_of_lt_of_le (Heap.lt_size (I2.pin p hp).1) (by rw[z];exact gj)) (Nat.lt_irrefl _)) (q D hn)
  ·have yP:cb X.prog X.w H' h':=I'.aJ.but I'.free sb
   obtain⟨n,ho⟩:=pl
   have dw:h'.get? D=some { cls:=.type "list",data:=.seq ys n }:=(sb.2 D nA).trans ho
   have new:dC X.prog X.w (upd H' D (.lst acc)) h' D (.lst acc):=⟨hz,ys.toList,n,rv,by simpa using dw⟩
   have u:=(I'.base.but gj sb).adopt (o:=.lst acc) fC hn
   refine I2.xR (s':={ s' with heap:=h' }) (ch:=fp) I'.os u (yP.adopt hn new) I'.bare (λb hb=>?_)
   obtain⟨_,f1,_,f3,f4,f5⟩:=f2 b hb
   exact⟨f3,f1,f4,f5⟩
  ·rw[bx (Ne.symm nA)]
   exact I'.free
  ·obtain⟨v,o,iK,_⟩:=I2.cell x c e
   exact absurd (Nat.lt_of_lt_of_le (Heap.lt_size iK) (by rw[z];exact gj)) (Nat.lt_irrefl _)
 have loop:codeAny (model X.prog X.w) X.A (.compLoop (.ListComp el [⟨tg,src,tests,0⟩] sc ps) 0 (.ref it) (.ref D) (compEnvC sc fK C X.env)) (compPost (model X.prog X.w) X.A X.xe use R (.ref D) C)
   { s2 with heap:=h3 }:=by
  refine Iy (λn s'=>∃i acc o H' ys,Inv Y [] (o++lj cap σ) H' s'/\o.length=nt/\tn i s'.heap/\(∀b∈fp,H' b=none)/\s'.heap.PlainList D ys/\Vals acc ys.toList/\H' D=none/\W i n acc H') ?_ m0
   ⟨0,[],List.replicate nt none,H2,#[],IB,by simp,T.keep _ _ _ iI λb _ o e=>old b o e,λb hb=>(f2 b hb).1,jD,.nil,I2.aJ.fresh fC,w0⟩
  rintro n s3 ⟨i,acc,o3,H3,ys,I3,GO,lD,lE,RT,lR,RU,w3⟩
  generalize RV:o3++lj cap σ=τ at I3
  obtain⟨nn,ho⟩:=id RT
  generalize GP:({ cls:=.type "list",data:=.seq ys nn }:Obj)=oD at ho
  have Pf:∀v,oD.data≠.cell v:=λv z=>by subst GP;cases z
  have rP:Inv Y [(D,oD)] τ H3 s3:=I3.ka λp hp=>by
   have e:p=(D,oD):=by simpa using hp
   subst e
   exact⟨ho,RU,eL,eF,Pf⟩
  have ny:∀p∈[(D,oD)],p.1∉fp:=λp hp=>by
   have e:p=(D,oD):=by simpa using hp
   subst e
   exact kH
  have ph:∀{pl:List (Addr×Obj)} {cy:St} {H':Hp} {s':Shared},Inv Y ([(D,oD)]++pl) cy H' s'->s'.heap.PlainList D ys/\H' D=none:=λ{pl cy H' s'} I'=>by
   have q:=I'.pin (D,oD) (List.mem_append_right _ (List.mem_append_left _ (by simp)))
   exact⟨⟨nn,by rw[GP];exact q.1⟩,q.2.1⟩
  rcases turn i n acc H3 w3 with ⟨stop,hz,q⟩ | ⟨go,hz,N',hN,step⟩
  ·have hd:=T.done Y eP eW eK eC i [(D,oD)] s3 τ H3 (λ_ _=>False) rP (kI lE ny) lD stop
   rw[eA] at hd
   refine aK hd λr s4 h4=>?_
   obtain⟨hr,I4⟩:=h4
   subst hr
   obtain⟨zK,n4⟩:=ph (pl:=[]) (by simpa using I4)
   exact fin s4 τ H3 acc ys (Inv.j7 (pins:=[]) I4) zK lR n4 hz q
  ·have hd:=T.item Y eP eW eK eC i [(D,oD)] s3 τ H3 (λ_ _=>False) rP (kI lE ny) lD go
   rw[eA] at hd
   refine aK hd λr s4 h4=>?_
   obtain⟨u,hr,h4⟩:=h4
   subst hr
   refine aK h4 λ_ s5 h5=>?_
   obtain⟨x,H5,I5,r5,y5,je,ra⟩:=h5
   have rb:=I5.pinned (kI ra ny) (T.obj _ _ je)
   have q5:=zO _ s5 τ H5 x u _ rb r5 (RV ▸ fJ x o3 _ H5 _ GO (step o3 x H5 GO y5))
   rw[eP,eW,eA,eE,eX] at q5
   refine aK q5 λ_ s6 h6=>?_
   obtain⟨pk,H6,I6,⟨o6,rQ,uQ⟩,q6⟩:=h6
   have q7:=zP _ s6 pk H6 _ I6 q6
   rw[eP,eW,eA,eE,eX] at q7
   refine aK q7 λb s7 h7=>?_
   obtain⟨H7,I7,q7⟩:=h7
   have qM:∀{cy:St} {H':Hp} {s':Shared},Inv Y ([(D,oD)]++lb fp s5.heap) cy H' s'->tn (i+1) s'.heap/\∀b∈fp,H' b=none:=λ{cy H' s'} I'=>by
    refine⟨T.keep _ _ _ je λb hb o e=>(I'.pin (b,o) (List.mem_append_right _ (List.mem_append_right _ (nR hb e)))).1,λb hb=>?_⟩
    obtain⟨o,e,_⟩:=T.obj _ _ je b hb
    exact(I'.pin (b,o) (List.mem_append_right _ (List.mem_append_right _ (nR hb e)))).2.1
   cases b with
   |false =>
    rw[if_neg Bool.false_ne_true] at q7 |-
    obtain⟨m',hm,w7⟩:=hN _ _ q7
    obtain⟨vi,n7⟩:=ph I7
    obtain⟨t7,f7⟩:=qM I7
    exact⟨m',hm,i+1,acc,o6,H7,ys,uQ ▸ I7.ka (λp hp=>by simp at hp),rQ,t7,f7,vi,lR,n7,w7⟩
   |true =>
    rw[if_pos rfl] at q7 |-
    have q8:=RR _ s7 pk H7 _ I7 q7
    rw[eP,eW,eA,eE,eX] at q8
    refine aK q8 λy s8 h8=>?_
    obtain⟨v,H8,I8,r8,q9⟩:=h8
    obtain⟨m',hm,w8⟩:=hN _ _ q9
    obtain⟨zG,n8⟩:=ph I8
    obtain⟨t8,f8⟩:=qM I8
    have zH:ys.size<=sizeLine:=by
     have e:=lR.length
     simp only[Array.length_toList] at e
     omega
    refine wpAny_list_append_plain (hsz:=zH) zG λh9 zI vh=>?_
    have zJ:Inv Y [] pk H8 s8:=I8.ka (λp hp=>by simp at hp)
    have I9:Inv Y [] pk H8 { s8 with heap:=h9,toks:=s8.toks }:=zJ.turned (it:=D) (λb o hb e=>(vh.2 b hb).trans e) n8 eL (.inr eS) RS (λp hp=>eN p (by simpa using hp))
    refine⟨m',hm,i+1,acc++[v],o6,H8,ys.push y,uQ ▸ I9,rQ,T.keep _ _ _ t8 λb hb o e=>(vh.2 b (λz=>kH (z ▸ hb))).trans e,f8,zI,?_,n8,w8⟩
    rw[Array.toList_push]
    exact Vals.append lR (.cons r8 .nil)
 exact codeAny_compStart_list loop (T.self _ _ _ _ _ (T.keep _ _ _ iI λb _ o e=>old b o e) loop)
theorem CU {el tg src:Expr} {tests:List Expr} {sc:Scope} {ps:Pos} {N:List Str} {nt:Nat} {cap:List Nat} {wi:TI} {g:TG} {tf:TT} {te:TE} (hc:X.calm=true) (S:lg X sc N nt cap) (fJ:kC g nt) (hi:PI X tg src wi)
  (hY:∀(cl:List (Str×Addr)) (C:Addr) (s:Shared) (H:Hp) (ex:List Addr) (pn:List (Addr×Obj)),PG (ef X N sc cl C s H ex pn) tg g/\PF (ef X N sc cl C s H ex pn) tests tf/\PE (ef X N sc cl C s H ex pn) el te)
  (hs:∀x,foldedSetIterable src X.env x=pure x:=by intro _;rfl):PE X (.ListComp el [⟨tg,src,tests,0⟩] sc ps) (ki wi nt cap g tf te):=by
 intro pins s σ H Q I h
 rw[eval_ListComp]
 exact BJ (use:=none) hc S fJ hi hY hs I h λs' H1 D C m IX hm _ _ _ _ _ _ q=>⟨m,hm,λh' sb=>⟨.ref D,H1,IX h' sb,rfl,q⟩⟩
theorem K1 {el tg src:Expr} {tests:List Expr} {sc:Scope} {ps pos pos':Pos} {N:List Str} {nt:Nat} {cap:List Nat} {wi:TI} {g:TG} {tf:TT} {te:TE} {i0:Nat} {x0:Str} (zY:X.N.Nodup) (zZ:X.N[i0]?=some x0) (z9:Loc X.env.scope x0) (hc:X.calm=true) (S:lg X sc N nt cap) (fJ:kC g nt) (hi:PI X tg src wi)
  (hY:∀(cl:List (Str×Addr)) (C:Addr) (s:Shared) (H:Hp) (ex:List Addr) (pn:List (Addr×Obj)),PG (ef X N sc cl C s H ex pn) tg g/\PF (ef X N sc cl C s H ex pn) tests tf/\PE (ef X N sc cl C s H ex pn) el te)
  (hs:∀x,foldedSetIterable src X.env x=pure x:=by intro _;rfl)
  (Aa:swapsWith (.ListComp el [⟨tg,src,tests,0⟩] sc ps) (some (.Name x0 pos')) pos.line X.env=pure true:=by rfl)
  (Ab:X.fn x0=true\/X.env.scope.names.lookup x0=some .local:=by first|exact .inl rfl|exact .inr rfl|assumption):PS X (.Assign [.Name x0 pos'] (.ListComp el [⟨tg,src,tests,0⟩] sc ps) pos) (oI (ki wi nt cap g tf te) (kh i0)):=by
 intro pins s σ H D0 I h
 rw[exec_Assign_Name_used _ _ _ _ Aa]
 refine wpAny_bind (wpAny_standAt (wpAny_bind ?_))
 obtain⟨Q,hQ⟩:∃Q:VK,Q=λv H1=>kh i0 v σ H1 D0.nx:=⟨_,rfl⟩
 have h:ki wi nt cap g tf te σ H Q:=by rw[hQ];exact h
 have lK:∀v H1,Q v H1->D0.nx (σ.set i0 (some v)) H1:=λv H1 q=>by rw[hQ] at q;exact q
 unfold evalThenUse
 refine wpAny_bind (wpAny_mono (Q:=λ_ s'=>SP X pins D0 .next s') ?_ (λ_ s' q=>wpAny_pure (wpAny_pure q)) (λ_ _ z=>z))
 refine BJ (use:=some (assign (.Name x0 pos') X.env)) hc S fJ hi hY hs I h λs' H1 D C m IX hm GQ GR RW Gx lh QH q=>?_
 have GS:Inv X pins σ H1 s':=IX s'.heap (Heap.SameBut.refl _ _)
 obtain⟨oC,es,ep,RX,GU,qY⟩:=id hm
 have IP:Inv X ((C,oC)::pins) σ H1 s':=GS.ka λp hp=>by
  rcases List.mem_cons.mp hp with e|e
  ·subst e
   exact⟨RX,GQ,GR,RW,λv z=>by rw[GU] at z;cases z⟩
  ·exact GS.pin p (List.mem_append_right _ e)
 show wpAny _ _ (assign (.Name x0 pos') X.env (.ref D)) _ _ s'
 refine wpAny_assign_Name (kP IP zY zZ z9 (show RelV (.ref D) (.ref D) from rfl) (λs3 I3=>?_) Ab)
 have p3:=(I3.pin (C,oC) (List.mem_append_right _ (List.mem_cons_self ..))).1
 refine⟨m,⟨oC,es,ep,p3,GU,qY⟩,λh' sb=>⟨_,H1,?_,lK _ _ q⟩⟩
 have I4:Inv X pins (σ.set i0 (some (.ref D))) H1 s3:=I3.ka λp hp=>I3.pin p (List.mem_append_right _ (List.mem_cons_of_mem _ hp))
 exact I4.turned (it:=C) (t':=s3.toks) (λb o hb e=>(sb.2 b hb).trans e) GQ GR (.inr Gx) lh QH
end
end L2
namespace L2
open PySem
noncomputable def EK (sc:Scope) (on:List (Str×NameKind)) (oN N:List Str) (nt:Nat) (cap:List Nat):Bool :=
 decide (sc.kind=.function)&&sc.names.all (λx=>decide (x.2=.local->sc.names.lookup x.1=some .local))&&sc.names.all (λx=>decide (x.2=.cell->sc.names.lookup x.1=some .cell)) &&
 sc.names.all (λx=>decide (x.2=.free->sc.names.lookup x.1=some .free/\(on.lookup x.1=some .cell\/on.lookup x.1=some .free)))&&decide (N.length=nt+cap.length) &&
 (List.range cap.length).all (λk=>match cap[k]? with
  |some j=>match oN[j]? with
   |some x=>decide (N[nt+k]?=some x)&&decide ((x,NameKind.free)∈sc.names)
   |none=>false
  |none=>true)
theorem bW {X:Cx} {sc:Scope} {N:List Str} {nt:Nat} {cap:List Nat} (h:EK sc X.env.scope.names X.N N nt cap=true):lg X sc N nt cap:=by
 unfold EK at h
 simp only[Bool.and_eq_true,List.all_eq_true,decide_eq_true_eq] at h
 obtain⟨⟨⟨⟨⟨h1,h2⟩,h3⟩,h4⟩,h5⟩,h6⟩:=h
 refine⟨h1,h2,h3,λx hx e=>h4 x hx e,h5,λk j e=>?_⟩
 have hk:k<cap.length:=(List.getElem?_eq_some_iff.mp e).1
 have:=h6 k (List.mem_range.mpr hk)
 rw[e] at this
 dsimp only at this
 cases ex:X.N[j]? with
 |none=>rw[ex] at this;cases this
 |some x =>
  rw[ex] at this
  simp only[Bool.and_eq_true,decide_eq_true_eq] at this
  exact⟨x,rfl,this.1,this.2⟩
end L2
namespace DI
open PySem L2
section
variable {X:Cx} {Ξ:Wd->bq->Prop} {e a b c tg el src:Expr} {es rest tests:List Expr} {pos:Pos} {f g h:Env->ae->Res D} {fa:Env->ae->Res (List D)} {ft gt:Env->ae->Res Bool}
theorem ck {sc:Scope} {ps:Pos} {N:List Str} {nt:Nat} {cap:List Nat} {it:Env->ae->Res (List D)} {gd:D->Env->Option Env} {g0:TG} (hc:X.calm=true) (S:lg X sc N nt cap) (T:Tg X.K g0 gd nt) (hi:PI X tg src (dI X.K Ξ it))
  (hY:∀(cl:List (Str×Addr)) (C:Addr) (s:Shared) (H:Hp) (ex:List Addr) (pn:List (Addr×Obj)),PG (ef X N sc cl C s H ex pn) tg g0/\PF (ef X N sc cl C s H ex pn) tests (tT X.K cj ft)/\PE (ef X N sc cl C s H ex pn) el (tE X.K cj f))
  (hs:∀x,foldedSetIterable src X.env x=pure x:=by intro _;rfl):PE X (.ListComp el [⟨tg,src,tests,0⟩] sc ps) (tE X.K Ξ (ba nt cap it gd ft f)) :=
 cP (CU hc S T.jk hi hY hs) fun σ H Q h=>vQ T.imp (λR R' i h=>wo R R' i h) (CM σ H Q h)
theorem Ms {sc:Scope} {ps pos':Pos} {N:List Str} {nt:Nat} {cap:List Nat} {it:Env->ae->Res (List D)} {gd:D->Env->Option Env} {g0:TG} (i0:Nat) {x0:Str} (zY:X.N.Nodup) (hc:X.calm=true) (S:lg X sc N nt cap) (T:Tg X.K g0 gd nt) (hi:PI X tg src (dI X.K Ξ it))
  (hY:∀(cl:List (Str×Addr)) (C:Addr) (s:Shared) (H:Hp) (ex:List Addr) (pn:List (Addr×Obj)),PG (ef X N sc cl C s H ex pn) tg g0/\PF (ef X N sc cl C s H ex pn) tests (tT X.K cj ft)/\PE (ef X N sc cl C s H ex pn) el (tE X.K cj f))
  (zZ:X.N[i0]?=some x0:=by rfl) (z9:Loc X.env.scope x0:=by first|exact Or.inl rfl|exact Or.inr rfl)
  (hs:∀x,foldedSetIterable src X.env x=pure x:=by intro _;rfl)
  (Aa:swapsWith (.ListComp el [⟨tg,src,tests,0⟩] sc ps) (some (.Name x0 pos')) pos.line X.env=pure true:=by rfl)
  (Ab:X.fn x0=true\/X.env.scope.names.lookup x0=some .local:=by first|exact .inl rfl|exact .inr rfl):PS X (.Assign [.Name x0 pos'] (.ListComp el [⟨tg,src,tests,0⟩] sc ps) pos) (tS X.K Ξ (aO (ba nt cap it gd ft f) (gN i0))) :=
 iV (K1 zY zZ z9 hc S T.jk hi hY hs Aa Ab) λD σ H h=>by
  have h2:=Cf (te:=tE X.K Ξ f) D σ H (xf D σ H h)
  exact vQ T.imp (λR R' i h=>wo R R' i h) (CM σ H _ h2)
theorem CV {sc:Scope} {ps:Pos} {N:List Str} {nt:Nat} {cap:List Nat} {it:Env->ae->Res (List D)} {gd:D->Env->Option Env} {g0:TG} (hc:X.calm=true) (S:lg X sc N nt cap) (T:Tg X.K g0 gd nt) (hi:PI X tg src (dI X.K Ξ it))
  (hY:∀(cl:List (Str×Addr)) (C:Addr) (s:Shared) (H:Hp) (ex:List Addr) (pn:List (Addr×Obj)),PG (ef X N sc cl C s H ex pn) tg g0/\PF (ef X N sc cl C s H ex pn) tests (tT X.K cj ft)/\PE (ef X N sc cl C s H ex pn) el (tE X.K cj f))
  (hs:∀x,foldedSetIterable src X.env x=pure x:=by intro _;rfl):PE X (.ListComp el [⟨tg,src,tests,0⟩] sc ps) (tE X.K Ξ (qd nt cap it gd ft f)) :=
 cP (CU hc S T.jk hi hY hs) fun σ H Q h=>vQ T.imp (λR R' i h=>wo R R' i h) (Jz σ H Q h)
end
end DI
namespace L2
open PySem PySem.Spec PyProof.Rows
section
variable {X:Cx} {tg:Expr}
theorem DE {i:Int} (h:-1<=i):Builtin.Range.rangeSize i (-1) (-1)=i+1:=by
 unfold Builtin.Range.rangeSize
 simp
 omega
noncomputable def Ph (ta:TA):TI:=fun σ H R=>ta σ H λvs H1=>∃i:Int,vs=[.int i,.int (-1),.int (-1)]/\-1<=i/\i<1000000/\R (uG (i+1).toNat) H1
theorem JJ {a b c:Expr} {ta:TA} {p pos:Pos} (hg:Gl X "range") (hm:X.mg "range"=none) (ha:PA X [a,b,c] ta) (hs:starEach [a,b,c] X.env=[(false,eval a X.env),(false,eval b X.env),(false,eval c X.env)]:=by rfl) (dF:starEach [b,c] X.env=[(false,eval b X.env),(false,eval c X.env)]:=by rfl) :
  PI X tg (.Call (.Name "range" p) [a,b,c] [] pos) (Ph ta):=by
 intro pins s σ H R I h
 refine Call_ (kY I hg hm boot_range (PyProof.Rows.callWith_type1 (aK (ha pos pins s σ H _ I h) λus s1 aC=>?_) (by rw[hs,dF]) (by rw[dF];rfl)))
 obtain⟨vs,H1,I1,r1,q1⟩:=aC
 obtain⟨i,e,q1,q2,q⟩:=q1
 subst e
 cases r1 with
 |cons r rr =>
  cases rr with
  |cons r' rr =>
   cases rr with
   |cons RY rr =>
    cases rr
    obtain⟨t,rfl⟩:=r
    obtain⟨t',rfl⟩:=r'
    obtain⟨vq,rfl⟩:=RY
    refine call_range_3 (by decide) ?_ (.inl (PyProof.noPylong_small (by omega)))
    refine wpAny_pyIter_range (IsRange.new ..) ?_ ?_
    ·unfold Builtin.Range.small
     rw[DE q1]
     simp only[Builtin.Range.rangeFitsLong,Bool.and_eq_true,Bool.or_eq_true,decide_eq_true_eq,beq_iff_eq,show ¬ (-1:Int) > 0 by decide,if_false]
     omega
    ·have I2:Inv X pins σ H1 { s1 with heap:=s1.heap.push { cls:=.type "range",data:=.fields #[.int i t,.int (-1) t',.int (-1) vq] },toks:=s1.toks }:=I1.kept λb o e=>Heap.get?_push_of_some _ e
     rw[DE q1]
     refine⟨(s1.heap.push { cls:=.type "range",data:=.fields #[.int i t,.int (-1) t',.int (-1) vq] }).objs.size,[(s1.heap.push { cls:=.type "range",data:=.fields #[.int i t,.int (-1) t',.int (-1) vq] }).objs.size],_,_,H1,rfl,
      I2.kept (t':=s1.toks) λb o e=>Heap.get?_push_of_some _ e,CK _ (i+1).toNat,?_,λb hb=>?_,q⟩
     ·have e1:(((i+1).toNat:Nat):Int)-1+((0:Nat):Int)*(-1)=i:=by simp;omega
      have e2:(((i+1).toNat:Nat):Int)-((0:Nat):Int)=i+1:=by simp;omega
      show IsRangeIter _ _ ((((i+1).toNat:Nat):Int)-1+((0:Nat):Int)*(-1)) ((((i+1).toNat:Nat):Int)-((0:Nat):Int)) (-1)
      rw[e1,e2]
      exact Heap.get?_push_size _ rfl
     ·have e:b=(s1.heap.push { cls:=.type "range",data:=.fields #[.int i t,.int (-1) t',.int (-1) vq] }).objs.size:=by simpa using hb
      subst e
      exact I2.oJ (Nat.le_refl _) (I2.aJ.fresh (Nat.le_refl _))
end
end L2
namespace DI
open PySem L2
section
variable {X:Cx} {Ξ:Wd->bq->Prop} {a b c tg:Expr} {pos:Pos} {fa:Env->ae->Res (List D)}
noncomputable def Ac (fa:Env->ae->Res (List D)):Env->ae->Res (List D):=λenv s=>ar (fa env s) λds s=>match ds with
 | [.int i,.int (-1),.int (-1)]=>if (decide (-1<=i)&&decide (i<1000000))=true then ok (mJ (i+1).toNat) s else none
 |_=>none
theorem N0 {p:Pos} (hg:Gl X "range") (hm:X.mg "range"=none) (ha:PA X [a,b,c] (tA X.K Ξ fa)) (hs:starEach [a,b,c] X.env=[(false,eval a X.env),(false,eval b X.env),(false,eval c X.env)]:=by rfl) (dF:starEach [b,c] X.env=[(false,eval b X.env),(false,eval c X.env)]:=by rfl):PI X tg (.Call (.Name "range" p) [a,b,c] [] pos) (dI X.K Ξ (Ac fa)) :=
 oj (JJ hg hm ha hs dF) fun σ H R aC=>by
  obtain⟨w,env,eH,S,eo,h⟩:=aC
  subst eH
  refine⟨w,env,rfl,S,eo,(Out.ar h).mono λw1 ds l1 S1 h1 vs au=>?_⟩
  split at h1
  ·rename_i i
   split at h1
   ·rename_i hj
    simp only[Bool.and_eq_true,decide_eq_true_eq] at hj
    obtain⟨v,r,rfl,dv,v2,r2,rfl,jj,v3,r3,rfl,zA,dr⟩:=au
    have e1:v=.int i:=dv
    have e2:v2=.int (-1):=jj
    have e3:v3=.int (-1):=zA
    have e4:r3=[]:=dr
    subst e1 e2 e3 e4
    exact⟨i,rfl,hj.1,hj.2,aG S1 h1 _ EI⟩
   ·exact h1.elim
  ·exact h1.elim
end
end DI
namespace L2
open PySem PySem.Spec PyProof.Rows
section
variable {X:Cx}
end
end L2
namespace DI
open PySem L2
section
variable {X:Cx} {Ξ:Wd->bq->Prop} {a:Expr} {p pos:Pos} {fa:Env->ae->Res (List D)}
end
end DI
namespace DI
open PySem L2
section
variable {X:Cx} {Ξ:Wd->bq->Prop} {a:Expr} {p pos:Pos} {f g:Env->ae->Res D} {fa:Env->ae->Res (List D)}
theorem aq.erase {K:Frag} {w:Wd}:∀{ds:List D} {xs:List V} (j:Nat),aq K w ds xs->aq K w (ds.eraseIdx j) (xs.eraseIdx j)
 | [],xs,j,h=>by
  have e:xs=[]:=h
  subst e
  exact h
 |d::ds,xs,0,h=>by
  obtain⟨v,r,rfl,_,dr⟩:=h
  exact dr
 |d::ds,xs,j+1,h=>by
  obtain⟨v,r,rfl,dv,dr⟩:=h
  exact⟨v,r.eraseIdx j,rfl,dv,aq.erase j dr⟩
end
end DI
namespace DI
open PySem L2 HT PyProof.Rows
section
variable {X:Cx} {Ξ:Wd->bq->Prop}
theorem JK {xs:List V} {us:List Value} (h:Vals xs us):∀{q:List Nat},(∀i∈q,i<us.length)->Vals (q.map λi=>xs.getD i .aB) (q.map λi=>us.getD i Value.none):=by
 intro q
 induction q with
 |nil=>intro _;exact .nil
 |cons i q ih =>
  intro hq
  refine .cons ?_ (ih λj hj=>hq j (List.mem_cons_of_mem _ hj))
  have hi:=hq i List.mem_cons_self
  clear ih hq
  induction h generalizing i with
  |nil=>simp at hi
  |cons a _ ih =>
   cases i with
   |zero=>exact a
   |succ i=>simpa using ih i (by simpa using hi)
theorem K2 {K:Frag} {w:Wd} {ds:List D} {xs:List V} (h:aq K w ds xs):∀{q:List Nat},(∀i∈q,i<ds.length)->aq K w (q.map λi=>ds.getD i .aB) (q.map λi=>xs.getD i .aB):=by
 intro q
 induction q with
 |nil=>intro _;exact rfl
 |cons i q ih =>
  intro hq
  have hi:=hq i List.mem_cons_self
  obtain⟨v,e,dv⟩:=h.get' i _ (List.getElem?_eq_getElem hi)
  refine⟨_,_,rfl,?_,ih λj hj=>hq j (List.mem_cons_of_mem _ hj)⟩
  have e1:ds.getD i .aB=ds[i]:=by simp[hi]
  have e2:xs.getD i .aB=v:=by simp[e]
  show DV K w (ds.getD i .aB) (xs.getD i .aB)
  rw[e1,e2]
  exact dv
theorem K3 {α:Type} {O:ST.Ord α} {ks:List α} {f:α->D} {d:α} {q:Array Nat} (hp:ST.Pm ks.length q) (hu:ST.Up O (ST.ky (λi=>ks.getD i d) q) ks.length):q.toList.map (λi=>(ks.map f).getD i .aB)=(ST.iC O ks).map f:=by
 rw[<- ST.JG hp hu,List.map_map]
 refine List.map_congr_left λi hi=>?_
 have:i<ks.length:=List.mem_range.mp (hp.2.mem_iff.mp hi)
 simp[this]
end
end DI
namespace TK
open PySem PySem.W PyProof.Rows DI
mutual
noncomputable def kd:D->Bool
 | .int _=>true
 | .str x=>PyData.strOk x
 | .tup ks=>cz ks
 |_=>false
noncomputable def cz:List D->Bool
 | []=>true
 |k::ks=>kd k&&cz ks
end
mutual
noncomputable def KA (h:Heap):D->Value->Prop
 | .int i,v=>∃t,v=.int i t
 | .str x,v=>∃t,v=.str x t
 | .tup ks,v=>∃a o its n,v=.ref a/\h.get? a=some o/\o.cls=.type "tuple"/\o.data=.seq its n/\cA h ks its.toList
 |_,_=>False
noncomputable def cA (h:Heap):List D->List Value->Prop
 | [],vs=>vs=[]
 |k::ks,vs=>∃v r,vs=v::r/\KA h k v/\cA h ks r
end
mutual
theorem mj:∀k:D,kd k=true->lay k=true
 | .int _,_=>rfl
 | .str _,h=>h
 | .tup ks,h=>by simp only[kd] at h;simp only[lay];exact sT ks h
 | .aB,h=>by cases h
 | .bl _,h=>by cases h
 | .lst _,h=>by cases h
 | .bC _,h=>by cases h
 | .aj _,h=>by cases h
 | .ty _,h=>by cases h
 | .bF _,h=>by cases h
theorem sT:∀ks:List D,cz ks=true->cV ks=true
 | [],_=>rfl
 |k::ks,h=>by
  simp only[cz,cV,Bool.and_eq_true] at h |-
  exact⟨mj k h.1,sT ks h.2⟩
end
mutual
theorem tX:∀x y:D,kd x=true->kd y=true->(beq x y=true↔x=y)
 | .int i,.int j,_,_=>by simp[beq]
 | .str i,.str j,_,_=>by simp[beq]
 | .tup xs,.tup ys,h,g=>by
  simp only[kd] at h g
  simp only[beq,wC xs ys h g]
  exact⟨λe=>by rw[e],λe=>by injection e⟩
 | .int _,.str _,_,_=>by simp[beq]
 | .int _,.tup _,_,_=>by simp[beq]
 | .str _,.int _,_,_=>by simp[beq]
 | .str _,.tup _,_,_=>by simp[beq]
 | .tup _,.int _,_,_=>by simp[beq]
 | .tup _,.str _,_,_=>by simp[beq]
 | .aB,_,h,_=>by cases h
 | .bl _,_,h,_=>by cases h
 | .lst _,_,h,_=>by cases h
 | .bC _,_,h,_=>by cases h
 | .aj _,_,h,_=>by cases h
 | .ty _,_,h,_=>by cases h
 | .bF _,_,h,_=>by cases h
 |_,.aB,_,h=>by cases h
 |_,.bl _,_,h=>by cases h
 |_,.lst _,_,h=>by cases h
 |_,.bC _,_,h=>by cases h
 |_,.aj _,_,h=>by cases h
 |_,.ty _,_,h=>by cases h
 |_,.bF _,_,h=>by cases h
theorem wC:∀xs ys:List D,cz xs=true->cz ys=true->(gJ xs ys=true↔xs=ys)
 | [],[],_,_=>by simp[gJ]
 | [],_::_,_,_=>by simp[gJ]
 |_::_,[],_,_=>by simp[gJ]
 |x::xs,y::ys,h,g=>by
  simp only[cz,Bool.and_eq_true] at h g
  simp only[gJ,Bool.and_eq_true,tX x y h.1 g.1,wC xs ys h.2 g.2,List.cons.injEq]
end
mutual
theorem KA.reads {h:Heap}:∀(k:D) (v:Value),KA h k v->∃as,Reads h v (py k) as
 | .int i,v,q=>by obtain⟨t,rfl⟩:=q;exact⟨_,.int i t⟩
 | .str x,v,q=>by obtain⟨t,rfl⟩:=q;exact⟨_,.str x t⟩
 | .tup ks,v,q=>by
  simp only[KA] at q
  obtain⟨a,o,its,n,rfl,ho,hc,hd,r⟩:=q
  obtain⟨as,r⟩:=cA.reads ks _ r
  exact⟨as,.tuple ho hc hd r⟩
 | .aB,_,q=>by cases q
 | .bl _,_,q=>by cases q
 | .lst _,_,q=>by cases q
 | .bC _,_,q=>by cases q
 | .aj _,_,q=>by cases q
 | .ty _,_,q=>by cases q
 | .bF _,_,q=>by cases q
theorem cA.reads {h:Heap}:∀(ks:List D) (vs:List Value),cA h ks vs->∃as,ReadsAll h vs (bY ks) as
 | [],vs,q=>by cases q;exact⟨_,.nil⟩
 |k::ks,vs,q=>by
  obtain⟨v,r,rfl,h1,h2⟩:=q
  obtain⟨as,h1⟩:=KA.reads k v h1
  obtain⟨bs,h2⟩:=cA.reads ks r h2
  exact⟨_,.cons h1 h2⟩
end
theorem N1 {h:Heap} {y:D} {i:Int} {t:Tok} (q:KA h y (.int i t)):y=.int i:=by
 cases y with
 |int j=>obtain⟨_,e⟩:=q;cases e;rfl
 |str j=>obtain⟨_,e⟩:=q;cases e
 |tup ks=>simp only[KA] at q;obtain⟨_,_,_,_,e,_⟩:=q;cases e
 |_=>cases q
theorem N2 {h:Heap} {y:D} {i:Str} {t:Tok} (q:KA h y (.str i t)):y=.str i:=by
 cases y with
 |str j=>obtain⟨_,e⟩:=q;cases e;rfl
 |int j=>obtain⟨_,e⟩:=q;cases e
 |tup ks=>simp only[KA] at q;obtain⟨_,_,_,_,e,_⟩:=q;cases e
 |_=>cases q
theorem N3 {h:Heap} {y:D} {a:Addr} (q:KA h y (.ref a)):∃ks o its n,y=.tup ks/\h.get? a=some o/\o.cls=.type "tuple"/\o.data=.seq its n/\cA h ks its.toList:=by
 cases y with
 |str j=>obtain⟨_,e⟩:=q;cases e
 |int j=>obtain⟨_,e⟩:=q;cases e
 |tup ks =>
  simp only[KA] at q
  obtain⟨_,o,its,n,e,r⟩:=q
  cases e
  exact⟨ks,o,its,n,rfl,r⟩
 |_=>cases q
mutual
theorem KA.inj {h:Heap}:∀(x y:D) (v:Value),KA h x v->KA h y v->x=y
 | .int i,y,v,p,q=>by
  obtain⟨t,rfl⟩:=p
  exact(N1 q).symm
 | .str i,y,v,p,q=>by
  obtain⟨t,rfl⟩:=p
  exact(N2 q).symm
 | .tup xs,y,v,p,q=>by
  simp only[KA] at p
  obtain⟨a,o,its,n,rfl,ho,hc,hd,r⟩:=p
  obtain⟨ks,o',its',n',rfl,dw,jK,fG,r'⟩:=N3 q
  cases ho.symm.trans dw
  cases hd.symm.trans fG
  rw[cA.inj xs _ _ r r']
 | .aB,_,_,q,_=>by cases q
 | .bl _,_,_,q,_=>by cases q
 | .lst _,_,_,q,_=>by cases q
 | .bC _,_,_,q,_=>by cases q
 | .aj _,_,_,q,_=>by cases q
 | .ty _,_,_,q,_=>by cases q
 | .bF _,_,_,q,_=>by cases q
theorem cA.inj {h:Heap}:∀(xs ys:List D) (vs:List Value),cA h xs vs->cA h ys vs->xs=ys
 | [],ys,vs,p,q=>by
  cases p
  cases ys with
  |nil=>rfl
  |cons y ys=>obtain⟨_,_,e,_⟩:=q;cases e
 |x::xs,ys,vs,p,q=>by
  obtain⟨v,r,rfl,h1,h2⟩:=p
  cases ys with
  |nil=>cases q
  |cons y ys =>
   obtain⟨v',r',e,g1,g2⟩:=q
   cases e
   rw[KA.inj x y v h1 g1,cA.inj xs ys r h2 g2]
end
mutual
theorem KA.keep {h h':Heap} (hk:∀a o,h.get? a=some o->o.cls=.type "tuple"->(∃its n,o.data=.seq its n)->h'.get? a=some o):∀(x:D) (v:Value),KA h x v->KA h' x v
 | .int i,v,p=>p
 | .str i,v,p=>p
 | .tup xs,v,p=>by
  simp only[KA] at p |-
  obtain⟨a,o,its,n,e,ho,hc,hd,r⟩:=p
  exact⟨a,o,its,n,e,hk a o ho hc ⟨its,n,hd⟩,hc,hd,cA.keep hk xs _ r⟩
 | .aB,_,q=>by cases q
 | .bl _,_,q=>by cases q
 | .lst _,_,q=>by cases q
 | .bC _,_,q=>by cases q
 | .aj _,_,q=>by cases q
 | .ty _,_,q=>by cases q
 | .bF _,_,q=>by cases q
theorem cA.keep {h h':Heap} (hk:∀a o,h.get? a=some o->o.cls=.type "tuple"->(∃its n,o.data=.seq its n)->h'.get? a=some o):∀(xs:List D) (vs:List Value),cA h xs vs->cA h' xs vs
 | [],vs,p=>p
 |x::xs,vs,p=>by
  obtain⟨v,r,e,h1,h2⟩:=p
  exact⟨v,r,e,KA.keep hk x v h1,cA.keep hk xs r h2⟩
end
theorem DF {k:D} {ks:List D} (h:k∈ks):dep k<=cG ks:=by
 induction ks with
 |nil=>cases h
 |cons x xs ih =>
  simp only[cG]
  rcases List.mem_cons.mp h with rfl|h
  ·exact Nat.le_max_left _ _
  ·exact Nat.le_trans (ih h) (Nat.le_max_right _ _)
mutual
noncomputable def hs (w:World):D->Int
 | .int i=>hashInt i
 | .str x=>hashStr w x
 | .tup ks=>reduceHash (Builtin.Tuple.tupleHashOf (jR w ks))
 |_=>0
noncomputable def jR (w:World):List D->List Int
 | []=>[]
 |k::ks=>hs w k::jR w ks
end
mutual
noncomputable def dr:D->Nat
 | .int _=>1
 | .str _=>1
 | .tup ks=>jm ks+1
 |_=>0
noncomputable def jm:List D->Nat
 | []=>0
 |k::ks=>dr k+jm ks
end
theorem DG (w:World) (xs ys:List D):jR w (xs++ys)=jR w xs++jR w ys:=by
 induction xs with
 |nil=>rfl
 |cons x xs ih=>simp only[List.cons_append,jR,ih]
theorem DH (xs ys:List D):jm (xs++ys)=jm xs+jm ys:=by
 induction xs with
 |nil=>simp[jm]
 |cons x xs ih=>simp only[List.cons_append,jm,ih,Nat.add_assoc]
section
variable {prog:Program} {w:World}
theorem K4 {A:Around} {E:Value->Shared->Prop} {s:Shared} {a:Addr} {o:Obj} {items:Array Value} {m:Nat} {ks:List D} {Q:Int->Shared->Prop} (hu:A.units<cLine) (ho:s.heap.get? a=some o) (hc:o.cls=.type "tuple") (hd:o.data=.seq items m) (hi:cA s.heap ks items.toList)
  (ih:∀k∈ks,∀(A':Around) (s':Shared) (v:Value) (E':Value->Shared->Prop) (Q':Int->Shared->Prop),A'.units<=A.units+1->KA s'.heap k v->Q' (hs w k) { s' with toks:=s'.toks+dr k }->wpAny (model prog w) A' (pyHash v) Q' E' s')
  (h:Q (hs w (.tup ks)) { s with toks:=s.toks+dr (.tup ks) }):wpAny (model prog w) A (pyHash (.ref a)) Q E s:=by
 have hT:s.TypeIs (.ref a) "tuple":=⟨o,ho,hc⟩
 unfold pyHash
 first|unfold pyHashByItsType|skip
 first|refine wpAny_bind (wpAny_cRoomFor_or (.inr hu) ?_)|skip
 refine wpAny_bind (wpAny_specialOf hT F.slot_tuple_hash.lookup ?_)
 show wpAny _ _ (if (some (Value.builtin "tuple.__hash__")==some Value.none)=true then _ else _) Q E s
 rw[if_neg (by rw[beq_builtin_none];exact Bool.false_ne_true)]
 refine wpAny_bind (wpAny_specialOf hT F.slot_tuple_hash.lookup ?_)
 show wpAny _ _ (callSpecialIfBoundUnlessNone? (.ref a) "__hash__" _ >>= _) Q E s
 refine wpAny_bind (wpAny_callSpecialIfBoundUnlessNone?_slot hT F.slot_tuple_hash (wpAny_call_entry F.slot_tuple_hash hT F.entry_tuple_hash ?_ (F.args_tuple_hash_1 _)))
 show wpAny _ _ (Builtin.Tuple.tupleItemsOf (.ref a) >>= _) _ _ s
 refine wpAny_bind (wpAny_tupleItemsOf ho hd ?_)
 refine wpAny_bind ?_
 rw[<- Array.forIn_toList]
 refine wpAny_forIn_list _
  (λrest (b:Array Int) s'=>∃done left,ks=done++left/\cA s.heap left rest/\b.toList=jR w done/\s'={ s with toks:=s.toks+jm done })
  _ ?_ ?_ _ _ ⟨[],ks,rfl,hi,rfl,rfl⟩
 ·rintro x rest b s' ⟨done,left,e,hl,hb,rfl⟩
  cases left with
  |nil=>cases hl
  |cons k left =>
   obtain⟨x',r',ex,h1,lT⟩:=hl
   cases ex
   refine wpAny_bind (ih k (by rw[e];simp) _ { s with toks:=s.toks+jm done } _ _ _ ?_ h1 ?_)
   ·exact Nat.le_refl _
   ·first
     |exact wpAny_pure ⟨done++[k],left,by simp[e],lT,by simp[hb,DG,jR],by simp[Nat.add_assoc,DH,jm]⟩
     |exact wpAny_bind (wpAny_pure (wpAny_pure ⟨done++[k],left,by simp[e],lT,by simp[hb,DG,jR],by simp[Nat.add_assoc,DH,jm]⟩))
 ·rintro b s' ⟨done,left,e,hl,hb,rfl⟩
  cases left with
  |cons k left=>obtain⟨_,_,ex,_⟩:=hl;cases ex
  |nil =>
  rw[List.append_nil] at e
  subst e
  simp only[hs,dr] at h
  show wpAny _ _ (retInt (Builtin.Tuple.tupleHashOf b.toList)) _ _ _
  rw[hb]
  generalize Builtin.Tuple.tupleHashOf (jR w ks)=z at h |-
  refine wpAny_ret_mkInt ?_
  show wpAny _ _ (if (decide (-(2:Int) ^ 63<=z)&&decide (z<2 ^ 63))=true then _ else _) Q E _
  unfold reduceHash at h
  by_cases hr:(decide (-(2:Int) ^ 63<=z)&&decide (z<2 ^ 63))=true
  ·rw[if_pos hr]
   rw[if_pos hr] at h
   exact wpAny_pure (by simpa [Nat.add_assoc] using h)
  ·rw[if_neg hr]
   rw[if_neg hr] at h
   exact wpAny_bind (wpAny_rule (wpAny_pure (by simpa [Nat.add_assoc] using h)))
theorem Mt:∀(n:Nat) (k:D),dep k<=n->∀(A:Around) (s:Shared) (v:Value) (E:Value->Shared->Prop) (Q:Int->Shared->Prop),KA s.heap k v->A.units+n<cLine->Q (hs w k) { s with toks:=s.toks+dr k }->wpAny (model prog w) A (pyHash v) Q E s:=by
 intro n
 induction n with
 |zero =>
  intro k hn A s v E Q q hu h
  cases k with
  |int i=>obtain⟨t,rfl⟩:=q;exact wpAny_pyHash_int h
  |str i=>obtain⟨t,rfl⟩:=q;exact wpAny_pyHash_str h
  |tup ks=>simp[dep] at hn
  |_=>cases q
 |succ n ih =>
  intro k hn A s v E Q q hu h
  cases k with
  |int i=>obtain⟨t,rfl⟩:=q;exact wpAny_pyHash_int h
  |str i=>obtain⟨t,rfl⟩:=q;exact wpAny_pyHash_str h
  |tup ks =>
   simp only[dep] at hn
   simp only[KA] at q
   obtain⟨a,o,items,m,rfl,ho,hc,hd,hi⟩:=q
   exact K4 (by omega) ho hc hd hi (λk hk A' s' v E' Q' hA q' h'=>ih k (by have:=DF hk;omega) A' s' v E' Q' q' (by omega) h') h
  |_=>cases q
theorem K5:∀(n:Nat) (k:D),dep k<=n->∀{A:Around} {s:Shared} {v:Value} {E:Value->Shared->Prop} {Q:Bool->Shared->Prop},KA s.heap k v->Q true s->wpAny (model prog w) A (eqIsQuiet n v) Q E s:=by
 intro n
 induction n with
 |zero =>
  intro k hn A s v E Q q h
  cases k with
  |int i=>obtain⟨t,rfl⟩:=q;rw[eqIsQuiet_byValue _ rfl];exact wpAny_pure h
  |str i=>obtain⟨t,rfl⟩:=q;rw[eqIsQuiet_byValue _ rfl];exact wpAny_pure h
  |tup ks=>simp[dep] at hn
  |_=>cases q
 |succ n ih =>
  intro k hn A s v E Q q h
  cases k with
  |int i=>obtain⟨t,rfl⟩:=q;rw[eqIsQuiet_byValue _ rfl];exact wpAny_pure h
  |str i=>obtain⟨t,rfl⟩:=q;rw[eqIsQuiet_byValue _ rfl];exact wpAny_pure h
  |tup ks =>
   simp only[dep] at hn
   simp only[KA] at q
   obtain⟨a,o,items,m,rfl,ho,hc,hd,hi⟩:=q
   have hT:s.TypeIs (.ref a) "tuple":=⟨o,ho,hc⟩
   unfold eqIsQuiet
   refine wpAny_bind (wpAny_specialOf hT F.slot_tuple_eq.lookup ?_)
   show wpAny _ _ (isInstance (.ref a) (.type "tuple") >>= _) _ _ s
   refine wpAny_bind (wpAny_isInstance hT isSubtype_tuple_tuple ?_)
   simp only[Bool.not_true,Bool.false_eq_true,if_false]
   refine wpAny_bind (wpAny_seqItems ho hd ?_)
   refine wpAny_bind ?_
   show wpAny _ _ (forIn items _ _) _ _ s
   rw[<- Array.forIn_toList]
   refine wpAny_forIn_list _ (λrest r s'=>r.1=none/\s'=s/\∃left,cA s.heap left rest/\∀k∈left,dep k<=n) _ ?_ ?_ _ _ ⟨rfl,rfl,ks,hi,λk hk=>by have:=DF hk;omega⟩
   ·rintro v rest r s' ⟨hr,rfl,left,hl,dj⟩
    cases left with
    |nil=>cases hl
    |cons k left =>
     obtain⟨x',r',ex,h1,lT⟩:=hl
     cases ex
     refine wpAny_bind (ih k (dj k List.mem_cons_self) h1 ?_)
     simp only[Bool.not_true,Bool.false_eq_true,if_false]
     exact wpAny_pure ⟨rfl,rfl,left,lT,λu RZ=>dj u (List.mem_cons_of_mem _ RZ)⟩
   ·rintro ⟨r1,r2⟩ s' ⟨hr,rfl,_⟩
    simp only at hr
    subst hr
    exact wpAny_pure h
  |_=>cases q
def vt (h:Heap) (ks:List D) (a:Addr):Prop:=cz ks=true/\cG ks<=6/\KA h (.tup ks) (.ref a)
noncomputable instance Tp:DecidableEq (List D):=λa b=>Classical.propDecidable (a=b)
theorem N4 {A:Around} {E:Value->Shared->Prop} {s:Shared} {x y:List D} {a b:Addr} {Q:Bool->Shared->Prop} (hu:A.units+10<cLine) (hx:vt s.heap x a) (hy:vt s.heap y b) (h:Q (decide (x=y)) s):wpAny (model prog w) A (PySem.eqBool (.ref a) (.ref b)) Q E s:=by
 obtain⟨k1,d1,r1⟩:=hx
 obtain⟨k2,d2,r2⟩:=hy
 obtain⟨as,r1⟩:=KA.reads _ _ r1
 obtain⟨bs,r2⟩:=KA.reads _ _ r2
 have l1:lay (.tup x)=true:=by simp only[lay];exact sT x k1
 have l2:lay (.tup y)=true:=by simp only[lay];exact sT y k2
 obtain⟨p1,p2⟩:=iX _ l1
 obtain⟨q1,q2⟩:=iX _ l2
 have e:=SeqAt.eqAt_reads _ _ A s _ _ as bs r1 r2 p1 q1 (by rw[p2,q2];simp only[dep];omega)
 rw[om _ _ l1 l2] at e
 refine e prog w E Q ?_
 have:beq (.tup x) (.tup y)=decide (x=y):=by
  have:=wC x y k1 k2
  simp only[beq]
  cases hb:gJ x y with
  |true=>exact(decide_eq_true (this.mp hb)).symm
  |false=>exact(decide_eq_false λz=>by rw[this.mpr z] at hb;cases hb).symm
 rw[this]
 exact h
noncomputable def kind (prog:Program) (w:World):HeapKind prog w (List D) where
 is:=vt
 hash:=λks=>hs w (.tup ks)
 draws:=λks=>dr (.tup ks)
 room:=λA=>A.units+10<cLine
 inj:=λhx hy=>by have:=KA.inj _ _ _ hx.2.2 hy.2.2;injection this
 keeps:=λ{h h' k a d o es ep} x ho hd hs=>⟨x.1,x.2.1,KA.keep (λb u hb hc hq=>(hs.2 b (λe=>by
  subst e
  rw[ho] at hb
  cases hb
  obtain⟨_,_,hq⟩:=hq
  rw[hd] at hq
  cases hq)).trans hb) _ _ x.2.2⟩
 pyHash:=λhu hk h=>Mt 7 _ (by simp only[dep];have:=hk.2.1;omega) _ _ _ _ _ hk.2.2 (by omega) h
 eqBool:=λhu hx hy h=>N4 hu hx hy h
 quiet:=λhk h=>K5 8 _ (by simp only[dep];have:=hk.2.1;omega) hk.2.2 h
end
end TK
namespace TK
open PySem PySem.W PyProof.Rows DI L2
theorem DX.fS {a:Addr} {es:List (Int×Addr)} (h1 h2:Heap) (h:DX a es h1) (k:∀o,h1.get? a=some o->h2.get? a=some o):DX a es h2:=by
 obtain⟨z,o,xs,ep,ho,r⟩:=h
 exact⟨z,o,xs,ep,k o ho,r⟩
theorem Fv {P:Program} {w:World} {H:Hp} {h:Heap} {a:Addr} {es:List (Int×Addr)} (x:DX a es h):dC P w H h a (.ext (DX a es)):=by
 obtain⟨z,o,xs,ep,ho,r⟩:=id x
 exact⟨x,⟨o,ho⟩,DX.fS⟩
def AllK (w:World) (ao:List (D×Int)):Prop:=∀p∈ao,∃ks,p.1=.tup ks/\cz ks=true/\cG ks<=6/\p.2=hs w p.1
noncomputable def its:D->List D
 | .tup ks=>ks
 |_=>[]
noncomputable def XS:List (D×Int)->List Addr->List (List D×Addr×Value)
 |p::r,a::as=>(its p.1,a,.bool true)::XS r as
 |_,_=>[]
theorem N5 {ao:List (D×Int)}:∀{as:List Addr},ao.length=as.length->∀(p:D×Int) (a:Addr),XS (ao++[p]) (as++[a])=XS ao as++[(its p.1,a,.bool true)]:=by
 induction ao with
 |nil =>
  intro as e p a
  cases as with
  |nil=>rfl
  |cons _ _=>simp at e
 |cons q r ih =>
  intro as e p a
  cases as with
  |nil=>simp at e
  |cons b as =>
   simp only[List.cons_append,XS]
   rw[ih (by simpa using e)]
theorem N6 {ao:List (D×Int)}:∀{as:List Addr},ao.length=as.length->(XS ao as).length=ao.length:=by
 induction ao with
 |nil=>intro as e;cases as<;>rfl
 |cons q r ih =>
  intro as e
  cases as with
  |nil=>simp at e
  |cons b as=>simp only[XS,List.length_cons,ih (by simpa using e)]
theorem DJ {w:World} {ao:List (D×Int)}:∀{as:List Addr},AllK w ao->ao.length=as.length->(XS ao as).map (λx=>D.tup x.1)=ao.map (·.1):=by
 induction ao with
 |nil=>intro as _ e;cases as<;>rfl
 |cons q r ih =>
  intro as k e
  cases as with
  |nil=>simp at e
  |cons b as =>
   obtain⟨ks,e1,_⟩:=k q List.mem_cons_self
   simp only[XS,List.map_cons,ih (λp hp=>k p (List.mem_cons_of_mem _ hp)) (by simpa using e),e1,its]
theorem CY {P:Program} {w:World} {ao:List (D×Int)}:∀{as:List Addr},AllK w ao->ao.length=as.length ->
  (((ao.map (·.2)).zip as).map λp=>(⟨p.1,.ref p.2,.bool true⟩:DictEntry))=(XS ao as).map (entryOfKey (kind P w)):=by
 induction ao with
 |nil=>intro as _ e;cases as<;>rfl
 |cons q r ih =>
  intro as k e
  cases as with
  |nil=>simp at e
  |cons b as =>
   obtain⟨ks,e1,_,_,e2⟩:=k q List.mem_cons_self
   simp only[XS,List.map_cons,List.zip_cons_cons,ih (λp hp=>k p (List.mem_cons_of_mem _ hp)) (by simpa using e)]
   rw[e2,e1]
   rfl
section
variable {X:Cx} {pins:List (Addr×Obj)} {σ:L2.St} {s:Shared} {w:Wd}
mutual
theorem ya (I:Inv X pins σ w.H s):∀(d:D) (v:V) (u:Value),kd d=true->DI.DV X.K w d v->RelV v u->KA s.heap d u
 | .int i,v,u,_,h,r=>by cases h;exact r
 | .str x,v,u,_,h,r=>by cases h;exact r
 | .tup ds,v,u,k,h,r=>by
  simp only[DI.DV] at h
  obtain⟨a,xs,rfl,hq,dv⟩:=h
  cases r
  obtain⟨its,r1,⟨o,ho,hc,n,hd⟩,_⟩:=I.tuple hq
  simp only[kd] at k
  simp only[KA]
  exact⟨a,o,_,n,rfl,ho,hc,hd,xF I ds xs _ k dv (by simpa using r1)⟩
 | .aB,_,_,k,_,_=>by cases k
 | .bl _,_,_,k,_,_=>by cases k
 | .lst _,_,_,k,_,_=>by cases k
 | .bC _,_,_,k,_,_=>by cases k
 | .aj _,_,_,k,_,_=>by cases k
 | .ty _,_,_,k,_,_=>by cases k
 | .bF _,_,_,k,_,_=>by cases k
theorem xF (I:Inv X pins σ w.H s):∀(ds:List D) (vs:List V) (us:List Value),cz ds=true->DI.aq X.K w ds vs->Vals vs us->cA s.heap ds us
 | [],vs,us,_,h,r=>by cases h;cases r;rfl
 |d::ds,vs,us,k,h,r=>by
  obtain⟨v,r',rfl,h1,h2⟩:=h
  simp only[cz,Bool.and_eq_true] at k
  cases r with
  |cons r rs=>exact⟨_,_,rfl,ya I d v _ k.1 h1 r,xF I ds r' _ k.2 h2 rs⟩
end
theorem Pj (I:Inv X pins σ w.H s) {W:World}:∀{ao:List (D×Int)} {as:List Addr},AllK W ao->DI.aq X.K w (ao.map (·.1)) (as.map V.ref)->∀x∈XS ao as,vt s.heap x.1 x.2.1:=by
 intro ao
 induction ao with
 |nil =>
  intro as _ _ x hx
  cases as<;>cases hx
 |cons q r ih =>
  intro as k dv x hx
  cases as with
  |nil=>cases hx
  |cons b as =>
   obtain⟨v,r',e,h1,h2⟩:=dv
   injection e with e1 e2
   subst e1 e2
   obtain⟨ks,e1,k1,k2,_⟩:=k q List.mem_cons_self
   rcases List.mem_cons.mp hx with rfl|hx
   ·refine⟨by simpa only [e1,its] using k1,by simpa only [e1,its] using k2,?_⟩
    have h1:DI.DV X.K w q.1 (V.ref b):=h1
    rw[e1] at h1
    simpa only [e1,its] using ya I (.tup ks) (.ref b) (.ref b) (by simpa only [kd] using k1) h1 rfl
   ·exact ih (λp hp=>k p (List.mem_cons_of_mem _ hp)) h2 x hx
end
noncomputable def fE (w:World) (ao:List (D×Int)) (k:D):List (D×Int):=if (ao.any λp=>beq p.1 k)=true then ao else ao++[(k,hs w k)]
noncomputable def keyOk (w:World) (p:D×Int):Bool:=match p.1 with
 | .tup ks=>cz ks&&decide (cG ks<=6)&&decide (p.2=hs w p.1)
 |_=>false
theorem JL {w:World} {ao:List (D×Int)} (h:ao.all (keyOk w)=true):AllK w ao:=λp hp=>by
 have:=List.all_eq_true.mp h p hp
 unfold keyOk at this
 split at this
 ·rename_i ks e
  simp only[Bool.and_eq_true,decide_eq_true_eq] at this
  exact⟨ks,e,this.1.1,this.1.2,this.2⟩
 ·cases this
theorem kT {w:World} {ao:List (D×Int)} (k:AllK w ao) {ks:List D} (hk:cz ks=true):(ao.any λp=>beq p.1 (.tup ks))=true↔D.tup ks∈ao.map (·.1):=by
 rw[List.any_eq_true,List.mem_map]
 constructor
 ·rintro ⟨p,hp,hb⟩
  obtain⟨ls,e,k1,_⟩:=k p hp
  refine⟨p,hp,?_⟩
  exact(tX p.1 (.tup ks) (by rw[e];simpa only [kd] using k1) (by simpa only [kd] using hk)).mp hb
 ·rintro ⟨p,hp,e⟩
  exact⟨p,hp,by rw[e];exact(tX _ _ (by simpa only [kd] using hk) (by simpa only [kd] using hk)).mpr rfl⟩
theorem EL {w:World} {ao:List (D×Int)} {as:List Addr} (k:AllK w ao) (e:ao.length=as.length) (ks:List D):ks∈(XS ao as).map (·.1)↔D.tup ks∈ao.map (·.1):=by
 rw[<- DJ k e,List.mem_map,List.mem_map]
 exact⟨λ⟨x,hx,e⟩=>⟨x,hx,by rw[e]⟩,λ⟨x,hx,e⟩=>⟨x,hx,by injection e⟩⟩
theorem HI {xs:List (List D×Addr×Value)} (h:∀x∈xs,x.2.2=Value.bool true) (k:List D):xs.map (putAt k (.bool true))=xs:=by
 induction xs with
 |nil=>rfl
 |cons x xs ih =>
  rw[List.map_cons,ih λy hy=>h y (List.mem_cons_of_mem _ hy)]
  congr 1
  unfold putAt
  split
  ·obtain⟨a,b,c⟩:=x
   have:=h (a,b,c) List.mem_cons_self
   simp only at this
   rw[this]
  ·rfl
theorem DK:∀(ao:List (D×Int)) (as:List Addr),∀x∈XS ao as,x.2.2=Value.bool true
 | [],as,x,h=>by cases as<;>cases h
 |p::r,[],x,h=>by cases h
 |p::r,a::as,x,h=>by
  rcases List.mem_cons.mp h with rfl|h
  ·rfl
  ·exact DK r as x h
theorem JM {w:World} {ao:List (D×Int)} {as:List Addr} (k:AllK w ao) (e:ao.length=as.length) {ks:List D} (hk:cz ks=true) (a:Addr) :
  storedH (XS ao as) ks a (.bool true)=XS (fE w ao (.tup ks)) (if (ao.any λp=>beq p.1 (.tup ks))=true then as else as++[a]):=by
 unfold fE
 by_cases hm:(ao.any λp=>beq p.1 (.tup ks))=true
 ·rw[if_pos hm,if_pos hm]
  have kE:=(EL k e ks).mpr ((kT k hk).mp hm)
  cases h:atKey (XS ao as) ks with
  |none =>
   exfalso
   obtain⟨x,hx,e'⟩:=List.mem_map.mp kE
   unfold atKey at h
   rw[Option.map_eq_none_iff,List.find?_eq_none] at h
   exact h x hx (decide_eq_true e')
  |some p=>rw[storedH_old h,HI (DK ao as)]
 ·rw[if_neg hm,if_neg hm]
  have kE:ks∉(XS ao as).map (·.1):=λz=>hm ((kT k hk).mpr ((EL k e ks).mp z))
  have h:atKey (XS ao as) ks=none:=by
   unfold atKey
   rw[Option.map_eq_none_iff,List.find?_eq_none]
   intro x hx z
   exact kE (List.mem_map.mpr ⟨x,hx,of_decide_eq_true z⟩)
  rw[storedH_new h,N5 e]
  rfl
theorem K6 {w:World} {ao:List (D×Int)} (k:AllK w ao) {ks:List D} (hk:cz ks=true) (hd:cG ks<=6):AllK w (fE w ao (.tup ks)):=by
 unfold fE
 split
 ·exact k
 ·intro p hp
  rcases List.mem_append.mp hp with hp|hp
  ·exact k p hp
  ·rw[List.mem_singleton.mp hp]
   exact⟨ks,rfl,hk,hd,rfl⟩
theorem IS {w:World} {ao:List (D×Int)} (k:AllK w ao) {ks:List D} (hk:cz ks=true) (h:(ao.map (·.1)).Nodup):((fE w ao (.tup ks)).map (·.1)).Nodup:=by
 unfold fE
 split
 ·exact h
 ·rename_i hm
  rw[List.map_append,List.nodup_append]
  refine⟨h,by simp,λa ha b hb=>?_⟩
  have:b=.tup ks:=by simpa using hb
  rw[this]
  intro z
  rw[z] at ha
  exact hm ((kT k hk).mpr ha)
noncomputable def lB (w:World) (d k x:D) (s:ae):Option ae:=match d,k,x with
 | .aj j,.tup ks,.bl true=>match s[j]? with
  |some (.dT ao)=>if (cz ks&&decide (cG ks<=6)&&ao.all (keyOk w)&&decide (ao.length<sizeLine))=true then some (s.set j (.dT (fE w ao (.tup ks)))) else none
  |_=>none
 |_,_,_=>none
noncomputable def gZ (w:World) (f o i:DI.Env->ae->Res D):DI.Env->ae->Res Fl:=λenv s=>ar (f env s) λx s=>ar (o env s) λd s=>ar (i env s) λn s=>match lB w d n x s with
 |some s'=>ok (.nx env) s'
 |none=>none
noncomputable def qA:DI.Env->ae->Res D:=λ_ s=>ok (.aj s.length) (s++[.dT []])
section
variable {X:Cx} {Ξ:Wd->bq->Prop} {e o i:Expr} {pos fW:Pos} {f fo fi:DI.Env->ae->Res D}
theorem Mu:PE X (.Dict [] [] pos) (λ_ H Q=>∀p,H p=none->Q (.ref p) (upd H p (.ext (DX p [])))):=λpins s σ H Q I h=>by
 refine wpAny_Dict_empty ⟨.ref s.heap.objs.size,_,I.laid (a:=s.heap.objs.size) (o:=.ext (DX s.heap.objs.size [])) (t':=s.toks) (λ_ _ q=>Heap.get?_push_of_some _ q) (Nat.le_refl _) (Fv ?_),rfl,h _ (I.aJ.fresh (Nat.le_refl _))⟩
 have hb:=I.big
 exact⟨by simp only[beq_eq_false_iff_ne,ne_eq];intro z;rw[z] at hb;exact Nat.lt_irrefl _ hb,_,#[],0,Heap.get?_push_size _ rfl,⟨rfl,rfl,rfl⟩,rfl,rfl⟩
theorem EM:PE X (.Dict [] [] pos) (tE X.K Ξ qA):=cP Mu fun σ H Q aC=>by
 obtain⟨w,env,eH,S,eo,h⟩:=aC
 subst eH
 intro p hp
 have le:=(Fw.cell (o:=.ext (DX p [])) (c:=.dT []) S hp).le (K:=X.K)
 refine h (w.cell p (.ext (DX p [])) (.dT [])) le (S.xX hp ⟨[],dU,rfl,List.nodup_nil⟩) rfl (.ref p) ⟨p,?_,rfl⟩
 show (w.ρ++[p])[w.aI.length]?=some p
 rw[<- S.len]
 simp
noncomputable def Pk (K:Frag) (W:World):uz:=λo i v H Q=>∃(w:Wd) (d b:Addr) (ao:List (D×Int)) (as:List Addr) (ks:List D),w.H=H/\o=.ref d/\i=.ref b/\v=.bl true/\H d=some (.ext (DX d ((ao.map (·.2)).zip as))) /\
 AllK W ao/\ao.length<sizeLine/\DI.aq K w (ao.map (·.1)) (as.map V.ref)/\(ao.map (·.1)).Nodup/\cz ks=true/\cG ks<=6/\DI.DV K w (.tup ks) (.ref b) /\
 Q (upd H d (.ext (DX d (((fE W ao (.tup ks)).map (·.2)).zip (if (ao.any λp=>beq p.1 (.tup ks))=true then as else as++[b])))))
theorem K7 {w:World} {ao:List (D×Int)} {as:List Addr} {ks:List D} {b:Addr} (e:ao.length=as.length):(fE w ao (.tup ks)).length=(if (ao.any λp=>beq p.1 (.tup ks))=true then as else as++[b]).length:=by
 unfold fE
 split<;>simp[e]
theorem Pl {k:Nat} (hr:cN k X.A):yr X (Pk X.K X.w):=by
 rintro pins s σ H o i v ov iv u Q I ro ri rv ⟨w,d,b,ao,as,ks,rfl,rfl,rfl,rfl,hd,dj,hl,au,nd,k1,k2,dk,q⟩
 cases ro;cases ri;cases rv
 have len:ao.length=as.length:=by have:=au.length;simpa using this
 obtain⟨⟨hz,ob,es,ep,ho,hex,oS,vv⟩,_,_⟩:=I.aJ _ _ hd
 have hD:s.heap.DictOfH (kind X.prog X.w) d (XS ao as):=⟨ob,es,ep,ho,hex,oS,by rw[vv,CY dj len],Pj I dj au,by
  have:=DJ dj len
  rw[<- this] at nd
  have e:(XS ao as).map (λx=>D.tup x.1)=((XS ao as).map (·.1)).map D.tup:=by rw[List.map_map];rfl
  rw[e] at nd
  exact List.Pairwise.of_map D.tup (λa b h e=>h (by rw[e])) nd⟩
 have hu:X.A.units+100<cLine:=by have:=hr.un;have:cLine=9900:=rfl;omega
 refine wpAny_setItem_heap (hsz:=by rw[N6 len];exact Nat.le_of_lt hl) (knd:=kind X.prog X.w) (show X.A.in1.units+10<cLine from ?_) ⟨k1,k2,ya I (.tup ks) (.ref b) (.ref b) (by simpa only [kd] using k1) dk rfl⟩ hD λh' GV hs=>⟨_,?_,q⟩
 ·have:X.A.in1.units<=X.A.units+1:=by first|exact Nat.le_refl _|exact Nat.le_succ _
  omega
 ·rw[JM dj len k1] at GV
  obtain⟨o',fH,qV,dw,QI,Pn,QJ,_⟩:=GV
  refine L8 I (by rw[hd];exact True.intro) hs ⟨o',dw⟩ (Fv ⟨hz,o',fH,qV,dw,QI,Pn,?_⟩)
  rw[QJ]
  exact(CY (K6 dj k1 k2) (K7 len)).symm
theorem tY {k:Nat} {W:World} (hW:X.w=W) (hr:cN k X.A) (he:PE X e (tE X.K Ξ f)) (ho:PE X o (tE X.K Ξ fo)) (hi:PE X i (tE X.K Ξ fi))
  (ha:∀v,assign (.Subscript o i fW) X.env v=(do
   let ov <- holding [v] (eval o X.env)
   let iv <- holding [v,ov] (eval i X.env)
   standAt fW
   holding [v,ov,iv] (setItem ov iv v)
   release [v,ov,iv] []):=by intro _;rfl)
  (hs:swapsWithSole [.Subscript o i fW] e pos.line X.env=pure false:=by rfl) (hw:swappedStores [.Subscript o i fW] e X.env=pure none:=by rfl)
  (h1:(assignEach [.Subscript o i fW] X.env).map (·.2)=[assign (.Subscript o i fW) X.env]:=by rfl):PS X (.Assign [.Subscript o i fW] e pos) (tS X.K Ξ (gZ W f fo fi)) :=
 iV (xt he (Ee ho hi (Pl hr) ha) hs hw h1) λD0 σ H aC=>by
  subst hW
  obtain⟨w,env,eH,S,eo,h⟩:=aC
  subst eH
  refine⟨w,env,rfl,S,eo,(Out.ar h).mono λw1 x l1 S1 h1 u du=>?_⟩
  refine⟨w1,env,rfl,S1,eo.le l1,(Out.ar h1).mono λw2 d l2 S2 h2 v dv=>?_⟩
  refine⟨w2,env,rfl,S2,eo.le (l1.trans l2),(Out.ar h2).mono λw3 n l3 S3 h3 m dm=>?_⟩
  cases hd:lB X.w d n x w3.aI with
  |none=>rw[hd] at h3;exact h3.elim
  |some s' =>
   rw[hd] at h3
   unfold lB at hd
   split at hd
   ·rename_i j ks
    split at hd
    ·rename_i ao hj
     split at hd
     ·rename_i hc
      simp only[Bool.and_eq_true,decide_eq_true_eq] at hc
      obtain⟨⟨⟨k1,k2⟩,k3⟩,k4⟩:=hc
      cases hd
      obtain⟨a,e1,rfl⟩:=(l3 _ _ dv)
      obtain⟨as,q1,q2,q3⟩:=S3.cell j a _ e1 hj
      have dj:=JL k3
      have eu:u=.bl true:=((l2.trans l3) _ _ du)
      have GW:=dm
      simp only[DI.DV] at GW
      obtain⟨b,_,rfl,_⟩:=GW
      have len:ao.length=as.length:=by have:=q2.length;simpa using this
      have le:=(Fw.put (o:=.ext (DX a (((fE X.w ao (.tup ks)).map (·.2)).zip (if (ao.any λp=>beq p.1 (.tup ks))=true then as else as++[b])))) (c:=.dT (fE X.w ao (.tup ks))) S3 e1 hj (by intro z;cases z)).le
      refine⟨w3,a,b,ao,as,ks,rfl,rfl,rfl,eu,q1,dj,k4,q2,q3,k1,k2,dm,?_⟩
      refine h3 (w3.put j a _ _) le (S3.yH e1 hj (by intro z;cases z) ⟨_,dU,?_,IS dj k1 q3⟩) rfl σ (eo.le (l1.trans (l2.trans (l3.trans le))))
      refine le.all ?_
      unfold fE
      split
      ·exact q2
      ·rw[List.map_append,List.map_append]
       exact q2.append (aq.one dm)
     ·cases hd
    ·cases hd
   ·cases hd
end
end TK
namespace TK
open PySem PySem.W PyProof.Rows DI L2
def ie (h:Heap) (d:Addr) (es:Array DictEntry) (ep:Nat):Prop:=∃o,h.get? d=some o/\o.ExactDict/\o.data=.dict es ep
section
variable {prog:Program} {w:World} {A:Around} {E:Value->Shared->Prop} {s:Shared} {d it:Addr} {es:Array DictEntry} {ep i:Nat}
theorem ie.ty (r:ie s.heap d es ep):s.TypeIs (.ref d) "dict":=by obtain⟨o,ho,x,_⟩:=r;exact⟨o,ho,x.1⟩
theorem ie.lt {h:Heap} (r:ie h d es ep):d<h.objs.size:=by obtain⟨o,ho,_⟩:=r;exact Heap.lt_size ho
theorem K8 {Q:Value->Shared->Prop} (hd:(d==sysModules)=false) (r:ie s.heap d es ep)
  (hQ:Q (.ref s.heap.objs.size) { s with heap:=s.heap.push { cls:=.type "dict_keyiterator",data:=.fields #[.ref d,.int 0 0,.int es.size 0,.int ep 0] } }):wpAny (model prog w) A (pyIter (.ref d)) Q E s:=by
 have ty:=r.ty
 obtain⟨o,ho,x,oS⟩:=r
 refine wpAny_pyIter_slot ty F.slot_dict_iter (wpAny_call_entry F.slot_dict_iter ty F.entry_dict_iter ?_ (F.args_dict_iter_1 _))
 unfold Builtin.«dict.__iter__» Builtin.Dict.dictSlotNone
 refine wpAny_bind (wpAny_bind (wpAny_notOrdered_dict ty ?_))
 refine(wpAny_pure ?_:wpAny _ _ (pure (Value.ref d)) _ _ s)
 show wpAny _ _ (Builtin.Dict.showsAll d >>= _) _ _ s
 unfold Builtin.Dict.showsAll
 rw[if_neg (by rw[hd];decide)]
 refine wpAny_bind (wpAny_pure (wpAny_bind (wpAny_dictEntries ho oS (wpAny_bind (wpAny_dictEpoch ho oS ?_)))))
 refine wpAny_bind (wpAny_newObj_type (wpAny_pure ⟨_,rfl,"dict_keyiterator",_,⟨_,Heap.get?_push_size _ rfl,rfl⟩,F.slot_dict_keyiterator_next.lookup,?_⟩))
 simpa [rawInt] using hQ
theorem K9 {Q:Option Value->Shared->Prop} (hit:s.heap.IsKeyIter it d i es.size ep) (r:ie s.heap d es ep) {e:DictEntry} (he:es[i]?=some e)
  (hQ:∀h',h'.IsKeyIter it d (i+1) es.size ep->Heap.SameBut it s.heap h'->Q (some e.key) { s with heap:=h' }):wpAny (model prog w) A (pyNext (.ref it)) Q E s:=by
 obtain⟨oi,pB,ci,di⟩:=id hit
 obtain⟨od,rV,_,nh⟩:=r
 have own:Builtin.Dict_items.ownsTuple "dict_keyiterator"=false:=by decide
 unfold pyNext
 refine wpAny_bind (wpAny_attempt (wpAny_callSpecial?_slot (name:=Str.ofString "__next__") hit.typeIs F.slot_dict_keyiterator_next (wpAny_call_entry F.slot_dict_keyiterator_next hit.typeIs F.entry_dict_keyiterator_next ?_ (F.args_dict_keyiterator_next_1 _))))
 refine wpAny_bind (wpAny_pure (wpAny_bind (wpAny_bind (wpAny_bind (wpAny_typeNameOfWhole_keyiter hit.typeIs (wpAny_pure (wpAny_bind (wpAny_fieldsOf pB di ?_))))))))
 simp only[own,Bool.false_eq_true,if_false]
 refine(show wpAny _ _ (if (Value.ref d==Value.none)=true then _ else _) _ _ s from ?_)
 rw[if_neg (show ¬ ((Value.ref d==Value.none)=true) by intro z;cases z)]
 refine wpAny_bind (wpAny_pure (wpAny_bind (wpAny_dictEntries rV nh ?_)))
 rw[if_neg (by simp)]
 refine wpAny_bind (wpAny_pure (wpAny_bind (wpAny_dictEpoch rV nh ?_)))
 rw[if_neg (by simp)]
 refine wpAny_pure ?_
 simp only[show ¬ ((i:Int)<0) by omega,if_false,Int.toNat_natCast,he]
 refine wpAny_bind (wpAny_bind (wpAny_typeNameOfWhole_keyiter hit.typeIs (wpAny_pure (wpAny_bind (wpAny_isOneOf_keyiter hit.typeIs ?_)))))
 show wpAny _ _ (setField (.ref it) 1 (rawInt ((i:Int)+1)) >>= _) _ _ s
 refine wpAny_bind (wpAny_setField pB di (by simp) ?_)
 generalize hh:s.heap.update it (Obj.mapFields (·.setIfInBounds 1 (rawInt ((i:Int)+1))))=h'
 have sb:Heap.SameBut it s.heap h':=by rw[<- hh];exact Heap.SameBut.update ..
 have nx:h'.IsKeyIter it d (i+1) es.size ep:=by
  rw[<- hh]
  exact⟨_,Heap.get?_update_self _ pB (Obj.isFreed_of_fields (Obj.data_mapFields di _)),(Obj.cls_mapFields ..).trans ci,by rw[Obj.data_mapFields di];simp[rawInt]⟩
 refine wpAny_bind (wpAny_holding (wpAny_bind (wpAny_isOneOf_keyiter (s:={ s with heap:=h' }) nx.typeIs ?_)))
 show wpAny _ _ (pure e.key) _ _ _
 exact wpAny_pure (wpAny_pure ⟨_,rfl,wpAny_pure (hQ _ nx sb)⟩)
theorem Mv {Q:Option Value->Shared->Prop} (hh:A.handled=none) (hit:s.heap.IsKeyIter it d i es.size ep) (r:ie s.heap d es ep) (u9:es.size<=i)
  (hQ:∀h',Heap.ExtBut it s.heap h'->Q none { s with heap:=h' }):wpAny (model prog w) A (pyNext (.ref it)) Q E s:=by
 obtain⟨oi,pB,ci,di⟩:=id hit
 obtain⟨od,rV,_,nh⟩:=r
 have own:Builtin.Dict_items.ownsTuple "dict_keyiterator"=false:=by decide
 unfold pyNext
 refine wpAny_bind (wpAny_attempt (wpAny_callSpecial?_slot (name:=Str.ofString "__next__") hit.typeIs F.slot_dict_keyiterator_next (wpAny_call_entry F.slot_dict_keyiterator_next hit.typeIs F.entry_dict_keyiterator_next ?_ (F.args_dict_keyiterator_next_1 _))))
 refine wpAny_bind (wpAny_pure (wpAny_bind (wpAny_bind (wpAny_bind (wpAny_typeNameOfWhole_keyiter hit.typeIs (wpAny_pure (wpAny_bind (wpAny_fieldsOf pB di ?_))))))))
 simp only[own,Bool.false_eq_true,if_false]
 refine(show wpAny _ _ (if (Value.ref d==Value.none)=true then _ else _) _ _ s from ?_)
 rw[if_neg (show ¬ ((Value.ref d==Value.none)=true) by intro z;cases z)]
 refine wpAny_bind (wpAny_pure (wpAny_bind (wpAny_dictEntries rV nh ?_)))
 rw[if_neg (by simp)]
 refine wpAny_bind (wpAny_pure (wpAny_bind (wpAny_dictEpoch rV nh ?_)))
 rw[if_neg (by simp)]
 refine wpAny_pure ?_
 simp only[show ¬ ((i:Int)<0) by omega,if_false,Int.toNat_natCast,Array.getElem?_eq_none u9]
 refine wpAny_bind (wpAny_bind (wpAny_typeNameOfWhole_keyiter hit.typeIs (wpAny_pure ?_)))
 refine(wpAny_bind (wpAny_setField pB di (by simp) ?_):wpAny _ _ (setField (.ref it) 0 .none >>= _) _ _ s)
 show wpAny _ _ (newExc (.type "StopIteration") [] >>= _) _ _ _
 simp only[newExc,newTuple]
 refine wpAny_bind (wpAny_bind (wpAny_newObj_type ?_ (by size_fits)))
 refine wpAny_bind (m:=firstArgMember _ _) (wpAny_of_eq (a:=Value.none) (by first|rfl | (simp only[firstArgMember];rfl)) (wpAny_newObj_type ?_ (by size_fits)))
 simp only[raiseNew]
 refine wpAny_bind (wpAny_handled ?_)
 rw[show A.in1.handled=none from hh]
 refine wpAny_bind (wpAny_pure (wpAny_throw ?_))
 refine wpAny_bind (wpAny_isInstance (T:="StopIteration") (b:=true) ⟨_,Heap.get?_push_size _ rfl,rfl⟩ isSubtype_stop ?_)
 exact wpAny_pure (hQ _ (((Heap.SameBut.update ..).extBut.push _).push _))
theorem ie.at {h h':Heap} (r:ie h d es ep) (k:∀o,h.get? d=some o->h'.get? d=some o):ie h' d es ep:=by obtain⟨o,ho,x⟩:=r;exact⟨o,k o ho,x⟩
theorem JN (hh:A.handled=none) (I:Addr) (gr:d≠I) :
  Walks prog w A I [I,d] [I] es.size (λi v=>∃e,es[i]?=some e/\v=e.key) (λi h=>h.IsKeyIter I d i es.size ep/\ie h d es ep) where
 sub:=λb hb=>by simp at hb;simp[hb]
 frame:=λ_ _ _ st hk=>⟨st.1.at λo e=>hk I (by simp) o e,st.2.at λo e=>hk d (by simp) o e⟩
 item:=λi s Q E hi st hQ=>by
  have he:es[i]?=some es[i]:=by simp[hi]
  exact K9 st.1 st.2 he λh' nx sb=>hQ _ h' s.toks ⟨_,he,rfl⟩ ⟨nx,st.2.at λo e=>sb.extBut d o gr e⟩ λb o hb e=>sb.extBut b o (λh=>hb (by simp[h])) e
 done:=λs Q E st hQ=>Mv hh st.1 st.2 (Nat.le_refl _) λh' R0=>hQ h' s.toks λb o hb e=>R0 b o (λh=>hb (by simp[h])) e
 self:=λ_ _ _ _ st hQ=>wpAny_pyIter_keyiter st.1 hQ
theorem Mw (lo:(d==sysModules)=false):KdlSrc prog w "dict" d d es.size (λi v=>∃e,es[i]?=some e/\v=e.key) (λh=>ie h d es ep) where
 type:=λ_ hm=>hm.ty
 there:=λ_ hm=>⟨hm.lt,hm.lt⟩
 keep:=λ_ _ hm hk=>hm.at λo e=>hk d (.inl rfl) o e
 notList:=by decide
 notTuple:=by decide
 hint:=λ_ _ _ _ hm hq=>kdl_hint_dict hm.ty hq
 iter:=λ_ _ hh hm=>⟨_,_,(λ_ _ hq=>K8 lo hm hq),JN hh _ (Nat.ne_of_lt hm.lt),⟨⟨_,Heap.get?_push_size _ rfl,rfl,rfl⟩,hm.at λo e=>Heap.get?_push_of_some _ e⟩⟩
end
noncomputable def ml (ds:List D) (s:ae):Res D:=match ds with
 | [.aj j]=>match s[j]? with
  |some (.dT ao)=>if ao.length<=sizeLine then ok (.lst (ao.map (·.1))) s else none
  |_=>none
 |_=>none
theorem CZ:∀as:List Addr,Vals (as.map V.ref) (as.map Value.ref)
 | []=>.nil
 |_::as=>.cons rfl (CZ as)
section
variable {X:Cx} {Ξ:Wd->bq->Prop}
theorem DL (hc:X.calm=true):cF X (.type "list") (rC X.K Ξ ml):=by
 rintro pins s σ H xs us Q I r ⟨w,ds,rfl,S,au,h⟩
 unfold ml at h
 split at h
 ·rename_i j
  split at h
  ·rename_i ao hj
   split at h
   ·rename_i hl
    obtain⟨v,r',rfl,h1,h2⟩:=au
    cases h2
    obtain⟨a,e1,rfl⟩:=h1
    cases r with
    |cons r rs =>
    cases rs
    cases r
    obtain⟨as,q1,q2,q3⟩:=S.cell j a _ e1 hj
    have len:ao.length=as.length:=by have:=q2.length;simpa using this
    obtain⟨⟨hz,ob,es,ep,ho,hex,oS,vv⟩,_,_⟩:=I.aJ _ _ q1
    have ez:es.size=as.length:=by rw[<- Array.length_toList,vv];simp[len]
    refine kdl_call (Mw hz) (I.ok.hd hc) (⟨ob,ho,hex,oS⟩:ie s.heap a es ep) (by rw[ez,<- len];exact hl) λh' tk eR c' hk hD jD=>?_
    have hf:w.H s.heap.objs.size=none:=I.aJ.fresh (Nat.le_refl _)
    have ev:eR.toList=as.map Value.ref:=by
     apply List.ext_getElem?
     intro i
     rw[Array.getElem?_toList]
     by_cases hi:i<as.length
     ·have zy:i<eR.size:=by rw[jD.1,ez];exact hi
      have h3:eR[i]?=some eR[i]:=Array.getElem?_eq_getElem zy
      obtain⟨e,he,ev⟩:=jD.2 i _ h3
      rw[h3,ev]
      rw[<- Array.getElem?_toList,vv] at he
      have R1:i<ao.length:=by omega
      simp only[List.getElem?_map,List.zip,List.getElem?_zipWith,List.getElem?_eq_getElem R1,List.getElem?_eq_getElem hi,Option.map_some] at he |-
      rw[<- Option.some.inj he]
     ·rw[Array.getElem?_eq_none (by rw[jD.1,ez];omega),List.getElem?_eq_none (by rw[List.length_map];omega)]
    refine⟨.ref s.heap.objs.size,upd w.H s.heap.objs.size (.lst (as.map V.ref)),I.laid (t':=tk) hk (Nat.le_refl _) ?_,rfl,?_⟩
    ·refine⟨by rw[List.length_map,<- len];exact hl,eR.toList,c',?_,by simpa using hD⟩
     rw[ev]
     exact CZ as
    ·exact h (w.grow _ (.lst (as.map V.ref))) (Fw.grow hf).le (S.grow hf) rfl (.ref s.heap.objs.size) ⟨_,_,rfl,⟨(show ¬ w.Z _ from og S hf),dU⟩,(Fw.grow hf).le.all q2⟩
   ·exact h.elim
  ·exact h.elim
 ·exact h.elim
end
end TK
namespace TK
open PySem PySem.W PyProof.Rows DI L2 HT
section
variable {s:Shared}
theorem Po {A:Around} {x y:D} {vx vy:Value} (kx:kd x=true) (ky:kd y=true) (hu:A.units+dep x<cLine) (hx:KA s.heap x vx) (hy:KA s.heap y vy):SeqAt.EqAt A s vx vy (beq x y):=by
 obtain⟨as,r1⟩:=KA.reads _ _ hx
 obtain⟨bs,r2⟩:=KA.reads _ _ hy
 obtain⟨p1,p2⟩:=iX _ (mj _ kx)
 obtain⟨q1,q2⟩:=iX _ (mj _ ky)
 have:=SeqAt.eqAt_reads _ _ A s vx vy as bs r1 r2 p1 q1 (by rw[p2];omega)
 rw[om _ _ (mj _ kx) (mj _ ky)] at this
 exact this
mutual
theorem Pp:∀(A:Around) (x y:D) (b:Bool) (vx vy:Value),gO x y=some b->kd x=true->kd y=true->A.units+5*dep x+5<cLine->KA s.heap x vx->KA s.heap y vy->yS A s vx vy b
 |A,.int i,y,b,vx,vy,h,_,_,_,hx,hy=>by
  cases y with
  |int j =>
   cases h
   obtain⟨t,rfl⟩:=hx
   obtain⟨t',rfl⟩:=hy
   exact λprog w E Q q=>CG A s i t j t' prog w E Q q
  |_=>cases h
 |A,.str i,y,b,vx,vy,h,_,_,_,hx,hy=>by
  cases y with
  |str j =>
   cases h
   obtain⟨t,rfl⟩:=hx
   obtain⟨t',rfl⟩:=hy
   exact λprog w E Q q=>(PyProof.Rows.lt_str q:wpAny (model prog w) A (compareOp .Lt (.str i t) (.str j t')) Q E s)
  |_=>cases h
 |A,.tup xs,y,b,vx,vy,h,kx,ky,hu,hx,hy=>by
  cases y with
  |tup ys =>
   simp only[gO] at h
   simp only[KA] at hx hy
   obtain⟨a,o,its,n,rfl,ho,hc,hd,r⟩:=hx
   obtain⟨a',o',its',n',rfl,dw,jK,fG,r'⟩:=hy
   simp only[dep] at hu
   simp only[kd] at kx ky
   exact λprog w E Q q=>DB ⟨o,ho,hc,n,hd⟩ ⟨o',dw,jK,n',fG⟩ (λA' hA=>xG A' xs ys b _ _ h kx ky (by omega) r r') (by omega) q
  |_=>cases h
 |_,.aB,_,_,_,_,_,k,_,_,_,_=>by cases k
 |_,.bl _,_,_,_,_,_,k,_,_,_,_=>by cases k
 |_,.lst _,_,_,_,_,_,k,_,_,_,_=>by cases k
 |_,.bC _,_,_,_,_,_,k,_,_,_,_=>by cases k
 |_,.aj _,_,_,_,_,_,k,_,_,_,_=>by cases k
 |_,.ty _,_,_,_,_,_,k,_,_,_,_=>by cases k
 |_,.bF _,_,_,_,_,_,k,_,_,_,_=>by cases k
theorem xG:∀(A:Around) (xs ys:List D) (b:Bool) (ps qs:List Value),ic xs ys=some b->cz xs=true->cz ys=true->A.units+5*cG xs+5<cLine->cA s.heap xs ps->cA s.heap ys qs->gW A s ps qs b
 |A,[],ys,b,ps,qs,h,_,_,_,hx,hy=>by
  cases hx
  cases ys with
  |nil=>cases h;cases hy;exact .nn
  |cons y ys=>cases h;obtain⟨v,r,rfl,_⟩:=hy;exact .nc _ _
 |A,x::xs,ys,b,ps,qs,h,kx,ky,hu,hx,hy=>by
  obtain⟨v,r,rfl,h1,h2⟩:=hx
  cases ys with
  |nil=>cases h;cases hy;exact .cn _ _
  |cons y ys =>
   obtain⟨u,r',rfl,g1,g2⟩:=hy
   simp only[cz,Bool.and_eq_true] at kx ky
   simp only[cG] at hu
   have m1:=Nat.le_max_left (dep x) (cG xs)
   have m2:=Nat.le_max_right (dep x) (cG xs)
   have he:=Po (A:=A) kx.1 ky.1 (by omega) h1 g1
   simp only[ic] at h
   split at h
   ·rename_i hb
    rw[hb] at he
    exact .eq he (xG A xs ys b _ _ h kx.2 ky.2 (by omega) h2 g2)
   ·rename_i hb
    rw[Bool.not_eq_true] at hb
    rw[hb] at he
    exact .lt he (Pp A x y b _ _ h kx.1 ky.1 (by omega) h1 g1)
end
end
section
variable {prog:Program} {w:World} {A:Around} {E:Value->Shared->Prop} {s:Shared}
theorem JO {t fin:Bool} {Q:Bool->Shared->Prop} {xs ys:List Value} {b:Bool} (h:gW A s xs ys b):∀(i:Nat),fin=decide (xs.length<ys.length)->Q b s->KatLex prog w A t fin Q (xs.zip ys) (i+1) s:=by
 induction h with
 |nn=>intro i hf q;rw[hf];exact q
 |nc y ys=>intro i hf q;rw[hf];exact q
 |cn x xs=>intro i hf q;rw[hf];exact q
 |eq he _ ih =>
  intro i hf q
  rw[List.zip_cons_cons]
  exact kat_cons (he prog w _ _ (kat_yes (ih (i+1) (by rw[hf];simp) q)))
 |lt he hr =>
  intro i hf q
  rw[List.zip_cons_cons]
  refine kat_cons (he prog w _ _ (kat_no ?_))
  rw[show (t&&(i+1==0))=false by simp]
  exact kat_one _ _ (hr prog w _ _ q)
theorem JP {fin:Bool} {Q:Bool->Shared->Prop} {x y:Str} {t u:Tok} {xs ys:List Value} {b:Bool} (hs:x=y->gW A s xs ys b) (hf:fin=decide (xs.length<ys.length)) (q:Q (if x=y then b else decide (x.cps.toList<y.cps.toList)) s) :
  KatLex prog w A true fin Q ((.str x t::xs).zip (.str y u::ys)) 0 s:=by
 rw[List.zip_cons_cons]
 refine kat_cons (wpAny_eqBool_str ?_)
 by_cases e:x=y
 ·rw[if_pos e] at q
  rw[decide_eq_true e]
  exact kat_yes (JO (hs e) 0 hf q)
 ·rw[if_neg e] at q
  rw[decide_eq_false e]
  exact kat_no (oneLt_str q)
end
inductive Pg where
 |made (m d:Int) (h l:List Int)
 |bN (m d k:Int)
noncomputable def ti (l:List Int):D:=.tup (l.map D.int)
noncomputable def Pg.d:Pg->D
 | .made m d h l=>.tup [.str "made",.int m,.int d,.tup [ti h,ti l]]
 | .bN m d k=>.tup [.str "mended",.int m,.int d,.int k]
theorem EN {a b:List Int} (h:ti a=ti b):a=b:=by
 injection h with h
 exact List.map_inj_right (λx y e=>by injection e) |>.mp h
theorem Pg.Pq {p q:Pg} (h:p.d=q.d):p=q:=by
 cases p<;>cases q<;>simp only[Pg.d,D.tup.injEq,List.cons.injEq,D.int.injEq,and_true,reduceCtorEq,and_false,false_and] at h
 ·obtain⟨_,h1,h2,h3,h4⟩:=h
  rw[h1,h2,EN h3,EN h4]
 ·obtain⟨_,h1,h2,h3⟩:=h
  rw[h1,h2,h3]
noncomputable def encL:List Int->List Int
 | []=>[0]
 |x::xs=>1::x::encL xs
noncomputable def Pg.enc:Pg->List Int
 | .made m d h l=>0::m::d::(encL h++encL l)
 | .bN m d k=>[1,m,d,k]
theorem wD:∀{a b u v:List Int},encL a++u=encL b++v->a=b/\u=v
 | [],[],u,v,h=>by simpa [encL] using h
 | [],y::b,u,v,h=>by simp[encL] at h
 |x::a,[],u,v,h=>by simp[encL] at h
 |x::a,y::b,u,v,h=>by
  simp only[encL,List.cons_append,List.cons.injEq,true_and] at h
  obtain⟨h1,h2⟩:=wD h.2
  exact⟨by rw[h.1,h1],h2⟩
theorem Pg.Mx {p q:Pg} (h:p.enc=q.enc):p=q:=by
 cases p<;>cases q<;>simp only[Pg.enc,List.cons.injEq,and_true,true_and,reduceCtorEq,false_and,Int.reduceEq] at h
 ·obtain⟨h1,h2,h3⟩:=h
  have h4:=wD (u:=encL _++[]) (v:=encL _++[]) (by simpa using h3)
  have h5:=wD h4.2
  rw[h1,h2,h4.1,h5.1]
 ·rw[h.1,h.2.1,h.2.2]
noncomputable def dR:ST.Ord Pg where
 lt p q:=lexLt p.enc q.enc
 zW p:=ST.xh _
 tr _ _ _ h g:=ST.NW _ _ _ h g
 rS _ _ h g:=Pg.Mx (ST.Mr _ _ h g)
theorem Ck:∀a b:List Int,gJ (a.map D.int) (b.map D.int)=decide (a=b)
 | [],[]=>rfl
 | [],_::_=>rfl
 |_::_,[]=>rfl
 |x::a,y::b=>by
  simp only[List.map_cons,gJ,beq,Ck a b]
  by_cases e:x=y<;>simp[e]
theorem Cm:∀a b:List Int,ic (a.map D.int) (b.map D.int)=some (lexLt a b)
 | [],[]=>rfl
 | [],_::_=>rfl
 |_::_,[]=>rfl
 |x::a,y::b=>by
  simp only[List.map_cons,ic,beq,gO,iy,Cm a b]
  by_cases e:x=y<;>simp[e]
theorem xi:∀a b u v:List Int,lexLt (encL a++u) (encL b++v)=if a=b then lexLt u v else lexLt a b
 | [],[],u,v=>by simp[encL,iy]
 | [],y::b,u,v=>by simp[encL,iy];rfl
 |x::a,[],u,v=>by simp[encL,iy];rfl
 |x::a,y::b,u,v=>by
  simp only[encL,List.cons_append,iy,if_true,xi a b u v,List.cons.injEq]
  by_cases e:x=y<;>simp[e]
theorem Fx (p q:Pg):gO p.d q.d=some (dR.lt p q):=by
 have n1:¬ ((Str.ofString "made")=Str.ofString "mended"):=by decide +kernel
 have n2:¬ ((Str.ofString "mended")=Str.ofString "made"):=by decide +kernel
 have s1:decide ((Str.ofString "made").cps.toList<(Str.ofString "mended").cps.toList)=true:=by decide +kernel
 have s2:decide ((Str.ofString "mended").cps.toList<(Str.ofString "made").cps.toList)=false:=by decide +kernel
 show _=some (lexLt p.enc q.enc)
 cases p with
 |made m d h l =>
  cases q with
  |made m' d' h' l' =>
   simp only[Pg.d,Pg.enc,gO,ic,beq,gJ,ti,iy,Ck,Cm,xi,beq_self_eq_true,if_true,Bool.and_true]
   have:=xi l l' [] []
   simp only[List.append_nil] at this
   rw[this]
   by_cases e1:m=m'<;>by_cases e2:d=d'<;>by_cases e3:h=h'<;>by_cases e4:l=l'<;>simp[e1,e2,e3,e4,ST.xh]
  |bN m' d' k'=>simp only[Pg.d,Pg.enc,gO,ic,beq,iy,beq_iff_eq,n1,s1,if_false];simp
 |bN m d k =>
  cases q with
  |made m' d' h' l'=>simp only[Pg.d,Pg.enc,gO,ic,beq,iy,beq_iff_eq,n2,s2,if_false];simp
  |bN m' d' k' =>
   simp only[Pg.d,Pg.enc,gO,ic,beq,iy,beq_self_eq_true,if_true]
   by_cases e1:m=m'<;>by_cases e2:d=d'<;>by_cases e3:k=k'<;>simp[e1,e2,e3,ST.xh]
theorem My (l:List Int):cz (l.map D.int)=true:=by
 induction l with
 |nil=>rfl
 |cons x l ih=>simpa only [List.map_cons,cz,kd,Bool.true_and] using ih
theorem La (l:List Int):cG (l.map D.int)=0:=by
 induction l with
 |nil=>rfl
 |cons x l ih=>simp only[List.map_cons,cG,dep,ih];rfl
theorem mK (p:Pg):kd p.d=true:=by
 have s1:PyData.strOk "made"=true:=by decide +kernel
 have s2:PyData.strOk "mended"=true:=by decide +kernel
 cases p<;>simp only[Pg.d,kd,cz,ti,My,s1,s2,Bool.and_self]
theorem xH (p:Pg):dep p.d<=3:=by
 cases p<;>simp only[Pg.d,dep,cG,ti,La]<;>decide
theorem C0 (p:Pg):∃(x:Str) (r:List D),p.d=.tup (.str x::r):=by
 cases p<;>exact⟨_,_,rfl⟩
theorem yb {h:Heap} {p:Pg} {v:Value} (q:KA h p.d v):∃(x:Str) (r:List D) (a:Addr) (o:Obj) (its:Array Value) (n:Nat) (t:Tok) (us:List Value),p.d=.tup (.str x::r)/\v=.ref a/\h.get? a=some o/\o.cls=.type "tuple"/\o.data=.seq its n/\its.toList=.str x t::us/\cA h r us/\cz r=true:=by
 obtain⟨x,r,e⟩:=C0 p
 have k:=mK p
 rw[e] at q k
 simp only[KA] at q
 obtain⟨a,o,its,n,e1,ho,hc,hd,u,us,e2,⟨t,e3⟩,r2⟩:=q
 simp only[kd,cz,Bool.and_eq_true] at k
 exact⟨x,r,a,o,its,n,t,us,e,e1,ho,hc,hd,by rw[e2,e3],r2,k.2⟩
section
variable {prog:Program} {w:World} {A:Around} {E:Value->Shared->Prop} {s:Shared}
theorem JQ:∀{ps:List Pg} {us:List Value},cA s.heap (ps.map Pg.d) us->∃fs,KatTups s.heap us fs/\(∀v∈fs,∃x t,v=Value.str x t)/\fs.length=us.length:=by
 intro ps
 induction ps with
 |nil=>intro us h;cases h;exact⟨[],KatTups.nil,λv (hv:v∈[])=>(List.not_mem_nil hv).elim,rfl⟩
 |cons p ps ih =>
  intro us h
  obtain⟨v,r,rfl,h1,h2⟩:=h
  obtain⟨fs,k1,k2,k3⟩:=ih h2
  obtain⟨x,_,a,o,its,n,t,vs,_,rfl,ho,hc,hd,hi,_⟩:=yb h1
  refine⟨.str x t::fs,.cons ho hc hd (by rw[<- Array.getElem?_toList,hi];rfl) k1,λv hv=>?_,by simp[k3]⟩
  rcases List.mem_cons.mp hv with rfl|hv
  ·exact⟨x,t,rfl⟩
  ·exact k2 v hv
theorem kas_get {h:Heap}:∀{ds:List D} {us:List Value},cA h ds us->∀i,i<us.length->KA h (ds.getD i .aB) (us.getD i Value.none):=by
 intro ds
 induction ds with
 |nil=>intro us h i hi;cases h;cases hi
 |cons d ds ih =>
  intro us h i hi
  obtain⟨v,r,rfl,h1,h2⟩:=h
  cases i with
  |zero=>exact h1
  |succ i=>exact ih h2 i (by simpa using hi)
theorem Mz {h:Heap}:∀{ds:List D} {us:List Value},cA h ds us->ds.length=us.length:=by
 intro ds
 induction ds with
 |nil=>intro us h;cases h;rfl
 |cons d ds ih=>intro us h;obtain⟨v,r,rfl,h1,h2⟩:=h;simp[ih h2]
theorem N7 {p q:Pg} {v u:Value} {C:Bool->Shared->Prop} (hu:A.units+100<cLine) (h1:KA s.heap p.d v) (h2:KA s.heap q.d u) (hC:C (dR.lt p q) s):wpAny (model prog w) A (keyLt' (tuples' true) v u) C E s:=by
 obtain⟨x,r,a,o,its,n,t,vs,e,rfl,ho,hc,hd,hi,kr,k⟩:=yb h1
 obtain⟨x',r',a',o',its',n',t',TM,e',rfl,dw,jK,fG,pA,R3,k'⟩:=yb h2
 have dl:=xH p
 rw[e] at dl
 simp only[dep,cG] at dl
 have lt:=Fx p q
 rw[e,e'] at lt
 simp only[gO,ic] at lt
 have be:beq (.str x) (.str x')=true↔x=x':=by simp[beq]
 refine kat_lt ho hd dw fG ?_
 rw[hi,pA]
 refine JP (b:=dR.lt p q) (λex=>?_) ?_ ?_
 ·rw[if_pos (be.mpr ex)] at lt
  exact xG A r r' _ _ _ lt k k' (by have:=Nat.le_max_right (0:Nat) (cG r);omega) kr R3
 ·simp[<- Array.length_toList,hi,pA]
 ·by_cases ex:x=x'
  ·rw[if_pos ex];exact hC
  ·rw[if_neg λz=>ex (be.mp z)] at lt
   rw[if_neg ex,Option.some.inj lt]
   exact hC
theorem Lb {us:List Value} {ps:List Pg} (t:cA s.heap (ps.map Pg.d) us) (h2:2<=us.length) (hu:A.units+100<cLine) (d:Pg):ST.uT prog w A dR (λi=>ps.getD i d) us s:=by
 obtain⟨fs,k1,k2,k3⟩:=JQ t
 have hl:=Mz t
 rw[List.length_map] at hl
 have at_:∀i,i<us.length->KA s.heap (ps.getD i d).d (us.getD i Value.none):=λi hi=>by
  have:=kas_get t i hi
  rwa [show (ps.map Pg.d).getD i .aB=(ps.getD i d).d by simp[List.getD,List.getElem?_map,List.getElem?_eq_getElem (show i<ps.length by omega)]] at this
 unfold ST.uT
 refine kat_kind (T:=.type "str") k1 (by omega) (λv hv=>?_) (by decide) ⟨rfl,λi j C hi hj hC=>?_⟩
 ·obtain⟨x,tk,rfl⟩:=k2 v hv
  exact .of_pure rfl
 ·exact N7 hu (at_ i hi) (at_ j hj) hC
end
end TK
namespace TK
open PySem PySem.W PyProof.Rows DI L2
open Classical in
noncomputable def uk (xs:List D):Option D:=if h:∃ps:List Pg,xs=ps.map Pg.d then some (.lst ((ST.iC dR (Classical.choose h)).map Pg.d)) else none
theorem IT:∀{a b:List Pg},a.map Pg.d=b.map Pg.d->a=b:=λh=>List.map_inj_right (λ_ _ e=>Pg.Pq e) |>.mp h
theorem C1 (ps:List Pg):uk (ps.map Pg.d)=some (.lst ((ST.iC dR ps).map Pg.d)):=by
 unfold uk
 have h:∃qs:List Pg,ps.map Pg.d=qs.map Pg.d:=⟨ps,rfl⟩
 rw[dif_pos h]
 have:=IT (Classical.choose_spec h)
 rw[<- this]
noncomputable def mm (ds:List D) (s:ae):Res D:=match ds with
 | [d]=>match res d s with
  | .lst xs=>if xs.length<64 then bG (uk xs) s else none
  |_=>none
 |_=>none
section
variable {X:Cx} {Ξ:Wd->bq->Prop}
theorem MA (ps:List Pg):cz (ps.map Pg.d)=true:=by
 induction ps with
 |nil=>rfl
 |cons p ps ih=>simp only[List.map_cons,cz,mK,ih,Bool.and_self]
theorem DM {k:Nat} (hr:cN k X.A):cF X (.builtin "sorted") (rC X.K Ξ mm):=by
 rintro pins s σ H xs us Q I r ⟨w,ds,rfl,S,au,h⟩
 unfold mm at h
 split at h
 ·obtain⟨v,rfl,dv⟩:=oo au
  split at h
  ·rename_i es e1
   obtain⟨a,xs,rfl,ha,au⟩:=iS S dv e1
   split at h
   ·rename_i hz
    obtain⟨d',e2,h⟩:=eJ h
    obtain⟨u,rfl,ru⟩:=vals1 r
    cases ru
    obtain⟨its,r1,pl,hx⟩:=I.list (bL.of ha)
    have hl:its.length=es.length:=r1.length.symm.trans au.length.symm
    have e3:=e2
    unfold uk at e3
    split at e3
    ·rename_i hp
     obtain⟨ps,en⟩:=hp
     clear e3
     subst en
     rw[C1] at e2
     cases e2
     have zx:ps.length=its.length:=by rw[hl,List.length_map]
     refine ST.JE (O:=dR) (x:=λi=>ps.getD i (.bN 0 0 0)) pl.isList (by omega) (λh2 h1 ho=>Lb (cA.keep (λb o hb _ _=>ho b o hb) _ _ (xF I _ _ _ (MA ps) au r1)) h2 (by have:=hr.un;show X.A.units+1+1+100<cLine;have:cLine=9900:=rfl;omega) _) λq h' b e hp hu ho hb hn=>?_
     have hm:∀i∈q.toList,i<(ps.map Pg.d).length:=λi hi=>by rw[<- hl];exact List.mem_range.mp (hp.2.mem_iff.mp hi)
     rw[<- zx] at hp hu
     have kF:=I.aJ.fresh hb
     refine⟨.ref b,_,I.laid (o:=.lst (q.toList.map λi=>xs.getD i .aB)) (t':=s.toks) ho hb ⟨?_,_,e,JK r1 (by rw[hl];exact hm),hn⟩,rfl,?_⟩
     ·rw[List.length_map,Array.length_toList,hp.1,zx,r1.length.symm];exact hx
     ·refine uM S ?_ h b kF
      rw[<- K3 hp hu]
      exact K2 au hm
    ·cases e3
   ·exact h.elim
  ·exact h.elim
 ·exact h.elim
noncomputable def cR {α:Type} (c:Nat) (xs:List α):List α:=(List.range (Builtin.Slice.slicePlaces 0 (xs.length:Int) c)).filterMap λm=>xs[m*c]?
theorem JR {α:Type} {c:Nat} {xs:List α} {x:α} (h:x∈cR c xs):x∈xs:=by
 obtain⟨m,_,e⟩:=List.mem_filterMap.mp h
 exact List.mem_of_getElem? e
end
section
variable {prog:Program} {w:World} {A:Around} {E:Value->Shared->Prop} {s:Shared}
theorem JS {t sl:Addr} {items:Array Value} {tk:Tok} {c:Nat} {Q:Value->Shared->Prop} (hc:2<=c) (ht:IsTup s.heap t items) (hs:s.heap.IsSliceOf sl .none .none (.int c tk))
  (h:Q (.ref s.heap.objs.size) { s with heap:=s.heap.push { cls:=.type "tuple",data:=.seq (cR c items.toList).toArray } })
  (hsz:(cR c items.toList).length<=sizeLine):wpAny (model prog w) A (getItem (.ref t) (.ref sl)) Q E s:=by
 have hz:sizeOk (.seq (cR c items.toList).toArray):=by
  show (cR c items.toList).toArray.size<=sizeLine
  rw[List.size_toArray]
  exact hsz
 obtain⟨os,iL,gp,iM⟩:=id hs
 have rl:s.TypeIs (.ref sl) "slice":=⟨os,iL,gp⟩
 unfold getItem
 try with_reducible refine wpAny_holding ?_
 first|refine wpAny_bind (wpAny_pure ?_)|skip
 refine wpAny_bind (wpAny_sequenceKey ht.typeIs (by decide) (wpAny_bind (wpAny_callSpecial?_slot (name:=Str.ofString "__getitem__") ht.typeIs PyProof.Rows.slot_tuple_getitem (wpAny_call_entry PyProof.Rows.slot_tuple_getitem ht.typeIs entry_tuple_getitem ?_ (args_tuple_getitem _ _)))))
 show wpAny _ _ (Builtin.Tuple.tupleItemsOf (.ref t) >>= _) _ _ s
 refine wpAny_bind (tupleItemsOf_ ht (wpAny_bind (wpAny_typeOf rl ?_)))
 rw[if_pos (by decide)]
 refine wpAny_bind ?_
 unfold Builtin.Slice.sliceApplied Builtin.Slice.sliceFields
 refine wpAny_bind (wpAny_bind (wpAny_field iL iM (x:=.none) rfl (wpAny_bind (wpAny_field iL iM (x:=.none) rfl (wpAny_bind (wpAny_field iL iM (x:=.int c tk) rfl (wpAny_pure ?_)))))))
 refine wpAny_bind (slicePart_int ?_)
 refine(show wpAny _ _ (if ((c:Int)==0)=true then _ else _) _ _ s from ?_)
 rw[if_neg (by simp;omega)]
 refine wpAny_bind (slicePart_none (wpAny_bind (slicePart_none (wpAny_bind (wpAny_pure ?_)))))
 have ea:Builtin.Slice.sliceAdjust none none (c:Int) (items.size:Int)=(0,(items.size:Int)):=by
  unfold Builtin.Slice.sliceAdjust
  simp
  omega
 show wpAny _ _ (match Builtin.Slice.sliceAdjust none none (c:Int) (items.size:Int) with | (lo,hi)=>pure (lo,(c:Int),Builtin.Slice.slicePlaces lo hi c)) _ _ s
 rw[ea]
 refine wpAny_pure ?_
 show wpAny _ _ (if ((0:Int)==0&&(c:Int)==1&&Builtin.Slice.slicePlaces 0 (items.size:Int) c==items.size)=true then _ else _) _ _ s
 rw[if_neg (by simp;omega)]
 have ep:((List.range (Builtin.Slice.slicePlaces 0 (items.size:Int) c)).filterMap λ(m:Nat)=>items[((0:Int)+(m:Int)*(c:Int)).toNat]?).toArray=(cR c items.toList).toArray:=by
  unfold cR
  rw[Array.length_toList]
  congr 2
  funext m
  rw[show ((0:Int)+(m:Int)*(c:Int)).toNat=m*c by rw[Int.zero_add,<- Int.natCast_mul];rfl,Array.getElem?_toList]
 rw[ep]
 first
  |exact wpAny_bind (m:=Builtin.Tuple.tupleExact _) (wpAny_newObj_type (wpAny_pure ⟨_,rfl,wpAny_pure h⟩) hz)
  |exact wpAny_bind (m:=Builtin.Tuple.tupleExact _) (wpAny_newObj_type (wpAny_bind (wpAny_pure (wpAny_pure ⟨_,rfl,wpAny_pure h⟩))) hz)
  |exact wpAny_bind (wpAny_bind (m:=Builtin.Tuple.tupleExact _) (wpAny_newObj_type (wpAny_pure (wpAny_pure ⟨_,rfl,wpAny_pure h⟩)) hz))
end
theorem tG {xs:List V} {us:List Value} (h:Vals xs us) (c:Nat):∀ks:List Nat,Vals (ks.filterMap λm=>xs[m*c]?) (ks.filterMap λm=>us[m*c]?)
 | []=>.nil
 |m::ks=>by
  rw[List.filterMap_cons,List.filterMap_cons]
  cases e:xs[m*c]? with
  |none =>
   have:us[m*c]?=none:=by rw[List.getElem?_eq_none_iff] at e |-;rw[<- h.length];exact e
   rw[this]
   exact tG h c ks
  |some x =>
   obtain⟨u,e',r⟩:=h.get e
   rw[e']
   exact .cons r (tG h c ks)
theorem xI {K:Frag} {w:Wd} {ds:List D} {xs:List V} (h:DI.aq K w ds xs) (c:Nat):∀ks:List Nat,DI.aq K w (ks.filterMap λm=>ds[m*c]?) (ks.filterMap λm=>xs[m*c]?)
 | []=>rfl
 |m::ks=>by
  rw[List.filterMap_cons,List.filterMap_cons]
  cases e:xs[m*c]? with
  |none =>
   have:ds[m*c]?=none:=by rw[List.getElem?_eq_none_iff] at e |-;rw[h.length];exact e
   rw[this]
   exact xI h c ks
  |some x =>
   obtain⟨d,e',r⟩:=h.get _ _ e
   rw[e']
   exact⟨x,_,rfl,r,xI h c ks⟩
theorem v8 {α:Type} (c:Nat) (xs:List α) (hc:1<=c):(cR c xs).length<=xs.length:=by
 have h2:(cR c xs).length<=Builtin.Slice.slicePlaces 0 (xs.length:Int) c:=by
  unfold cR
  exact Nat.le_trans (List.length_filterMap_le _ _) (by rw[List.length_range];exact Nat.le_refl _)
 refine Nat.le_trans h2 ?_
 unfold Builtin.Slice.slicePlaces
 have h1:((c:Int) > 0):=by omega
 simp only[h1,if_true]
 split
 ·rename_i h
  have:((xs.length:Int)-0-1) / (c:Int)<=(xs.length:Int)-0-1:=Int.ediv_le_self _ (by omega)
  omega
 ·exact Nat.zero_le _
section
variable {X:Cx} {Ξ:Wd->bq->Prop} {e:Expr} {te:TE} {pos p2 p4:Pos} {f:DI.Env->ae->Res D}
theorem MB {c:Nat} (hc:2<=c) (he:PE X e te):PE X (.Subscript e (.Slice none none (some (.Constant (.int (c:Int)) 0 p4)) p2) pos) (fun σ H Q=>te σ H λx H1=>∃a xs,x=.ref a/\aR X.K H1 a xs/\ku X.K H1 (cR c xs) Q):=by
 intro pins s σ H Q I h
 refine Subscript_ (aK (he pins s σ H _ I h) λv s1 ⟨x,H1,I1,r1,q1⟩=>?_)
 obtain⟨a,xs,rfl,hx,q⟩:=q1
 cases r1
 refine wpAny_Slice ?_
 rw[evalPart_none]
 refine wpAny_pure (wpAny_pure ?_)
 rw[evalPart_some]
 refine aK ((Ed:PE X (.Constant (.int (c:Int)) 0 p4) (tC (.int c))) pins s1 σ H1 (λy H2=>y=.int c/\H2=H1) I1 ⟨rfl,rfl⟩) λu s2 ⟨y,H2,I2,r2,e1,e2⟩=>?_
 subst e1 e2
 obtain⟨tk,rfl⟩:=r2
 have I4:Inv X pins σ H2 { s2 with heap:=s2.heap.push { cls:=.type "slice",data:=.fields #[.none,.none,.int c tk] } }:=I2.kept (t':=s2.toks) λb ob q=>Heap.get?_push_of_some _ q
 obtain⟨its,r,ht,hz⟩:=I4.tuple hx
 have hlen:its.length=xs.length:=r.length.symm
 have pl:(cR c its).length=(cR c xs).length:=by
  unfold cR
  rw[hlen]
  exact(tG r c _).length.symm
 have nB:Heap.IsSliceOf (s2.heap.push { cls:=.type "slice",data:=.fields #[.none,.none,.int c tk] }) s2.heap.objs.size .none .none (.int c tk):=Heap.IsSliceOf.new ..
 refine tail_any (ops:=[.ref a,.ref s2.heap.objs.size]) ht.typeIs PyProof.Rows.slot_tuple_getitem.lookup (JS hc ht nB ?_ ?_) (by with_unfolding_all rfl)
 ·refine⟨.ref _,_,I4.laid (t':=s2.toks) (o:=.tup (cR c xs)) (λb ob q=>Heap.get?_push_of_some _ q) (Nat.le_refl _) ?_,rfl,q.new (I4.aJ.fresh (Nat.le_refl _))⟩
  refine⟨Nat.le_trans (v8 c xs (by omega)) hz,cR c its,?_,IsTup.new _ _⟩
  unfold cR
  rw[hlen]
  exact tG r c _
 ·have:=v8 c its (by omega)
  simp only
  omega
noncomputable def uq (c:Nat) (d:D) (s:ae):Res D:=match d with
 | .tup ds=>ok (.tup (cR c ds)) s
 |_=>none
theorem N8 {c:Nat} (hc:2<=c) (he:PE X e (tE X.K Ξ f)):PE X (.Subscript e (.Slice none none (some (.Constant (.int (c:Int)) 0 p4)) p2) pos) (tE X.K Ξ (e1 (uq c) f)):=cP (MB hc he) fun σ H Q aC=>by
 obtain⟨w,env,eH,S,eo,h⟩:=aC
 subst eH
 refine⟨w,env,rfl,S,eo,(Out.ar h).mono λw1 d l1 S1 h1 v dv=>?_⟩
 unfold uq at h1
 split at h1
 ·simp only[DI.DV] at dv
  obtain⟨a,xs,rfl,ha,au⟩:=dv
  refine⟨a,xs,rfl,ha,oM S1 ?_ h1⟩
  unfold cR
  rw[au.length]
  exact xI au c _
 ·exact h1.elim
end
end TK
namespace TK
open PySem PySem.W PyProof.Rows DI L2
noncomputable def yc (f:DI.Env->ae->Res D):DI.Env->ae->Res D:=λenv s=>ar (f env s) λx s=>ar (truth x s) λb s=>ok (.bl (!b)) s
theorem N9 {X:Cx} {Ξ:Wd->bq->Prop} {a:Expr} {pos:Pos} {f:DI.Env->ae->Res D} (ha:PE X a (tE X.K Ξ f)):PE X (.UnaryOp .Not a pos) (tE X.K Ξ (yc f)):=by
 rintro pins s σ H Q I ⟨w,env,rfl,S,eo,h⟩
 refine UnaryOp_ (aK (ha pins s σ w.H (λv H'=>∃b,mM X.K v H' b/\Q (.bl (!b)) H') I ⟨w,env,rfl,S,eo,(Out.ar h).mono λw1 x l1 S1 h1 v dv=>?_⟩) λv s1 ⟨x,H1,I1,r1,b,q1,q2⟩=>?_)
 ·obtain⟨b,t,h2⟩:=mM.of S1 dv (Out.ar h1)
  exact⟨b,t,aG S1 h2 _ rfl⟩
 ·refine not_of (wpAny_mono (Eh pins s1 σ H1 x v (λc H2=>Q (.bl (!c)) H2) I1 r1 ⟨b,q1,q2⟩) (λc s2 ⟨H2,I2,q⟩=>⟨.bl (!c),H2,I2,rfl,q⟩) λ_ _ z=>z)
end TK
namespace ST
open PySem PySem.Spec PyProof.Rows
section
variable {prog:Program} {w:World} {A:Around} {E:Value->Shared->Prop} {s:Shared}
end
end ST
namespace DI
open PySem L2
section
variable {X:Cx} {Ξ:Wd->bq->Prop}
end
end DI
namespace DI
open PySem L2
section
variable {X:Cx} {Ξ:Wd->bq->Prop} {e o i:Expr} {pos fW:Pos} {f fo fi:Env->ae->Res D}
end
end DI
namespace L2
open PySem PySem.Spec PyProof.Rows
section
variable {X:Cx}
end
end L2
namespace DI
open PySem L2
section
variable {X:Cx} {Ξ:Wd->bq->Prop}
end
end DI
namespace L2
open PySem PySem.Spec PyProof.Rows
section
variable {X:Cx}
end
end L2
namespace DI
open PySem L2
section
variable {X:Cx} {Ξ:Wd->bq->Prop} {a:Expr} {pos:Pos} {f:Env->ae->Res D}
end
end DI
namespace L2
open PySem PySem.Spec PyProof.Rows
section
variable {X:Cx}
end
end L2
namespace DI
open PySem L2
section
variable {X:Cx} {Ξ:Wd->bq->Prop} {pos:Pos}
end
end DI
namespace L2
open PySem PySem.Spec PyProof.Rows
end L2
namespace DI
open PySem L2
section
variable {X:Cx} {Ξ:Wd->bq->Prop}
end
end DI
namespace L2
open PySem PySem.Spec PyProof.Rows
open AutoSeq1 (wpAny_loadPart')
section
variable {prog:Program} {w:World} {A:Around} {E:Value->Shared->Prop} {s:Shared}
end
end L2
namespace L2
open PySem PySem.Spec PyProof.Rows
section
variable {X:Cx}
end
end L2
namespace DI
open PySem L2
section
variable {X:Cx} {Ξ:Wd->bq->Prop} {a:Expr} {p pos:Pos} {fa:Env->ae->Res (List D)}
end
end DI
namespace L2
open PySem PySem.Spec PyProof.Rows
section
variable {X:Cx} {pos:Pos}
noncomputable def Pr (i j k:Nat) (ta:TA):TS:=λD σ H=>ta σ H λvs H1=>∃v w u,vs=[v,w,u]/\D.nx (((σ.set i (some v)).set j (some w)).set k (some u)) H1
theorem vals3 {v w u:V} {us:List Value} (r:Vals [v,w,u] us):∃a b c,us=[a,b,c]/\RelV v a/\RelV w b/\RelV u c:=by
 cases r with
 |cons p q =>
  obtain⟨b,c,rfl,h1,h2⟩:=vals2 q
  exact⟨_,b,c,rfl,p,h1,h2⟩
theorem MC {i j k:Nat} {x y z:Str} {a b c:Expr} {ta:TA} {px py pz pt:Pos} {kt k2 gm} (hc:X.calm=true) (hN:X.N.Nodup) (hi:X.N[i]?=some x) (hj:X.N[j]?=some y) (hk:X.N[k]?=some z) (dA:i≠j) (ng:i≠k) (Ad:j≠k)
  (hx:X.env.scope.names.lookup x=some .local) (hy:X.env.scope.names.lookup y=some .local) (hz:X.env.scope.names.lookup z=some .local) (ha:PA X [a,b,c] ta)
  (hw:swappedStores [.Tuple [.Name x px,.Name y py,.Name z pz] kt pt] (.Tuple [a,b,c] k2 gm) X.env=pure (some [x,y,z]))
  (hs:swapsWithSole [.Tuple [.Name x px,.Name y py,.Name z pz] kt pt] (.Tuple [a,b,c] k2 gm) pos.line X.env=pure false) :
  PS X (.Assign [.Tuple [.Name x px,.Name y py,.Name z pz] kt pt] (.Tuple [a,b,c] k2 gm) pos) (Pr i j k ta):=by
 intro pins s σ H D I h
 rw[exec_Assign_arm]
 refine wpAny_bind (wpAny_standAt ?_)
 rw[hs]
 refine wpAny_bind (wpAny_pure ?_)
 rw[if_neg (by decide)]
 refine wpAny_bind (Tuple_ (aK (ha _ pins s σ H _ I h) λus s1 aC=>?_))
 obtain⟨vs,H1,I1,r1,v,w,u,e1,q1⟩:=aC
 subst e1
 obtain⟨u1,u2,u3,rfl,rv,mY,ru⟩:=vals3 r1
 refine wpAny_newObj_type ?_ (by show 3<=sizeLine;decide)
 have I2:Inv X pins σ H1 { s1 with heap:=s1.heap.push { cls:=.type "tuple",data:=.seq [u1,u2,u3].toArray } }:=I1.kept (t':=s1.toks) λb o e=>Heap.get?_push_of_some _ e
 rw[hw]
 refine wpAny_bind (wpAny_pure ?_)
 show wpAny (model X.prog X.w) X.A (do rule "assign.swapped-stores";let items <- unpackItems (.ref s1.heap.objs.size) 3 none;assignInOrder [λv=>bindName X.env z v,λv=>bindName X.env y v,λv=>bindName X.env x v] items.reverse;pure Flow.next) _ _ _
 refine wpAny_bind (wpAny_rule (wpAny_bind (unpackItems_tuple (items:=#[u1,u2,u3]) (I.ok.hd hc) (IsTup.new s1.heap _) λh' yZ=>?_)))
 have I3:=I2.kept (h':=h') (t':=s1.toks) λb o e=>yZ b o (Nat.ne_of_lt (Heap.lt_size e)) e
 show wpAny _ _ (assignInOrder [λv=>bindName X.env z v,λv=>bindName X.env y v,λv=>bindName X.env x v] [u3,u2,u1] >>= λ_=>pure Flow.next) _ _ _
 refine wpAny_bind (assignInOrder_cons (wpAny_bindName (kP I3 hN hk (.inl hz) ru (λs2 I4=>?_) (.inr hz))))
 refine assignInOrder_cons (wpAny_bindName (kP I4 hN hj (.inl hy) mY (λs3 I5=>?_) (.inr hy)))
 refine assignInOrder_cons (wpAny_bindName (kP I5 hN hi (.inl hx) rv (λs4 I6=>assignInOrder_nil (wpAny_pure ?_)) (.inr hx)))
 rw[List.set_comm _ _ (Ne.symm Ad),List.set_comm _ _ (Ne.symm ng),List.set_comm _ _ (Ne.symm dA)] at I6
 exact⟨_,H1,I6,q1⟩
end
end L2
namespace DI
open PySem L2
section
variable {X:Cx} {Ξ:Wd->bq->Prop} {a b c:Expr} {pos:Pos} {fa:Env->ae->Res (List D)}
noncomputable def qN (i j k:Nat) (fa:Env->ae->Res (List D)):Env->ae->Res Fl:=λenv s=>ar (fa env s) λds s=>match ds with
 | [x,y,z]=>ok (.nx (((env.set i (some x)).set j (some y)).set k (some z))) s
 |_=>none
theorem EO (i j k:Nat) {x y z:Str} {px py pz pt:Pos} {kt k2 gm} (hc:X.calm=true) (hN:X.N.Nodup) (ha:PA X [a,b,c] (tA X.K Ξ fa)) (hi:X.N[i]?=some x:=by rfl) (hj:X.N[j]?=some y:=by rfl) (hk:X.N[k]?=some z:=by rfl) (dA:i≠j:=by decide) (ng:i≠k:=by decide) (Ad:j≠k:=by decide)
  (hx:X.env.scope.names.lookup x=some .local:=by rfl) (hy:X.env.scope.names.lookup y=some .local:=by rfl) (hz:X.env.scope.names.lookup z=some .local:=by rfl)
  (hw:swappedStores [.Tuple [.Name x px,.Name y py,.Name z pz] kt pt] (.Tuple [a,b,c] k2 gm) X.env=pure (some [x,y,z]):=by rfl)
  (hs:swapsWithSole [.Tuple [.Name x px,.Name y py,.Name z pz] kt pt] (.Tuple [a,b,c] k2 gm) pos.line X.env=pure false:=by rfl) :
  PS X (.Assign [.Tuple [.Name x px,.Name y py,.Name z pz] kt pt] (.Tuple [a,b,c] k2 gm) pos) (tS X.K Ξ (qN i j k fa)):=iV (MC hc hN hi hj hk dA ng Ad hx hy hz ha hw hs) λD0 σ H aC=>by
 obtain⟨w,env,eH,S,eo,h⟩:=aC
 subst eH
 refine⟨w,env,rfl,S,eo,(Out.ar h).mono λw1 ds l1 S1 h1 vs au=>?_⟩
 split at h1
 ·obtain⟨v,r,rfl,dv,dr⟩:=au
  obtain⟨u,t,rfl,du,dt⟩:=qe dr
  exact⟨v,u,t,rfl,aG S1 h1 _ ((((eo.le l1).set dv i).set du j).set dt k)⟩
 ·exact h1.elim
end
end DI
namespace DI
open PySem L2
noncomputable def nZ:List D->ae->Res D:=aZ 2 6 (ay (qN 2 3 4 (af (e2 aT (ax bu (af (aa 0) (af (eC (.int 3)) ai))) (eC (.int 0))) (af (eNew ai) (af (e2 cM (eC (.int 2)) (ax bu (af (aa 0) (af (eC (.int 9)) ai)))) ai)))) (ay (cw (bE (af (eC (.int 31)) ai)) (gN 5) (ay (aO (cv (iq (aa 2) (e2 aT (ax bu (af (aa 0) (af (aa 4) ai))) (eC (.int 0)))) (e2 cL (aa 5) (aa 1))) (gN 2)) (bX (dP (aa 2)) (eG (gL (aa 3) (aa 5))) cu))) (aQ (jF (aa 3)))))
noncomputable def tH (W:World):List D->ae->Res D:=aZ 1 12 (ay (aO (bZ (af TK.qA (af (e2 cM (eC (.int 1)) (ax bu (af (aa 0) (af (eC (.int 3)) ai)))) (af (e2 cM (eC (.int 1)) (ax bu (af (aa 0) (af (eC (.int 3)) ai)))) ai)))) (gT [(gN 1),(gN 2),(gN 3)])) (ay (cw (bE (af (aa 2) ai)) (gN 4) (ay (aO (bZ (af (ba 1 [] (bE (af (eC (.int 8)) ai)) (gN 0) cx (eNew ai)) (af (eNew ai) ai))) (gT [(gN 5),(gN 6)])) (ay (cw (bE (af (ax bu (af (aa 0) (af (eC (.int 4)) ai))) ai)) (gN 7) (ay (aO (bZ (af (ax bu (af (aa 0) (af (eC (.int 8)) ai))) (af (ax bu (af (aa 0) (af (eC (.int 31)) ai))) ai))) (gT [(gN 8),(gN 9)])) (ay (eG (gL (e2 aw (aa 5) (aa 8)) (aa 9))) (TK.gZ W (eC (.bl true)) (aa 1) (bZ (af (eC (.str "mended")) (af (aa 4) (af (aa 9) (af (aa 8) ai))))))))) (ay (cw (bE (af (eC (.int 8)) ai)) (gN 8) (eG (gL (aa 6) (ax nZ (af (aa 0) (af (e2 aw (aa 5) (aa 8)) ai)))))) (cw (bE (af (ax bu (af (aa 0) (af (eC (.int 5)) ai))) ai)) (gN 7) (ay (aO (ax bu (af (aa 0) (af (eC (.int 31)) ai))) (gN 9)) (ay (aO (ba 1 [0,3] (bE (af (eC (.int 8)) ai)) (gN 0) (aH (e2 aT (ax bu (af (aa 1) (af (aa 2) ai))) (eC (.int 0)))) (aa 0)) (gN 10)) (ay (aO (eB df (af (ba 1 [9,6] (aW (aa 10)) (gN 0) (aH (e2 bM (aa 1) (e2 aw (aa 2) (aa 0)))) (aa 0)) ai)) (gN 11)) (TK.gZ W (eC (.bl true)) (aa 1) (bZ (af (eC (.str "made")) (af (aa 4) (af (aa 9) (af (bZ (af (aa 11) (af (eB df (af (ba 1 [9,6] (aW (aa 10)) (gN 0) (aH (e2 cL (aa 1) (e2 aw (aa 2) (aa 0)))) (aa 0)) ai)) ai))) ai)))))))))))))) (aQ (eB df (af (eB TK.mm (af (eB TK.ml (af (aa 1) ai)) ai)) ai)))))
noncomputable def pZ (W:World):List D->ae->Res D:=aZ 1 10 (ay (aO TK.qA (gN 1)) (ay (qN 2 3 4 (af (e2 cM (eC (.int 1)) (ax bu (af (aa 0) (af (eC (.int 2)) ai)))) (af (e2 aw (fy (af (eC (.int 3)) (af (eC (.int 8)) (af (eC (.int 31)) ai)))) (ax bu (af (aa 0) (af (eC (.int 3)) ai)))) (af (e2 cM (eC (.int 1)) (ax bu (af (aa 0) (af (eC (.int 4)) ai)))) ai)))) (ay (cw (bE (af (ax bu (af (aa 0) (af (eC (.int 25)) ai))) ai)) (gN 5) (ay (qK 6 7 (af (ax bu (af (aa 0) (af (aa 2) ai))) (af (ax bu (af (aa 0) (af (aa 3) ai))) ai))) (bX (aH (e2 aT (ax bu (af (aa 0) (af (eC (.int 4)) ai))) (eC (.int 0)))) (TK.gZ W (eC (.bl true)) (aa 1) (bZ (af (eC (.str "mended")) (af (aa 6) (af (aa 7) (af (ax bu (af (aa 0) (af (aa 4) ai))) ai)))))) (ay (aO (ax kR (af (aa 0) (af (aa 4) ai))) (gN 8)) (ay (aO (eB df (af (ba 1 [8] (aW (ax kR (af (aa 0) (af (aa 4) ai)))) (gN 0) (aH (e2 cL (aa 0) (aa 1))) (aa 0)) ai)) (gN 9)) (TK.gZ W (eC (.bl true)) (aa 1) (bZ (af (eC (.str "made")) (af (aa 6) (af (aa 7) (af (bZ (af (aa 8) (af (aa 9) ai))) ai))))))))))) (aQ (eB df (af (eB TK.mm (af (eB TK.ml (af (aa 1) ai)) ai)) ai))))))
noncomputable def su:List D->ae->Res D:=aZ 2 2 (aQ (lu (eB mQ (af (ba 1 [1] (aW (aa 0)) (gN 0) cx (e2 bM (aa 0) (aa 1))) ai))))
noncomputable def sG:List D->ae->Res D:=aZ 1 3 (ay (bX (ik (fT (dP (eB gM (af (aa 0) (af (eC (.ty "tuple")) ai))))) (aH (e2 gK (eB fB (af (aa 0) ai)) (eC (.int 2))))) (aQ (eC (.bl false))) cu) (ay (aO (aa 0) (gT [(gN 1),(gN 2)])) (aQ (cv (ax nO (af (aa 1) ai)) (cv (ax nO (af (aa 2) ai)) (ax su (af (aa 1) (af (aa 2) ai))))))))
noncomputable def pJ:List D->ae->Res D:=aZ 1 1 (aQ (ax nS (af (aa 0) (af (eC (.int (4))) ai))))
noncomputable def sU:List D->ae->Res D:=aZ 1 1 (aQ (ax nS (af (aa 0) (af (eC (.int (31))) ai))))
noncomputable def sL:List D->ae->Res D:=aZ 1 5 (ay (bX (ik (fT (dP (eB gM (af (aa 0) (af (eC (.ty "tuple")) ai))))) (aH (e2 gK (eB fB (af (aa 0) ai)) (eC (.int 4))))) (aQ (eC (.bl false))) cu) (ay (aO (aa 0) (gT [(gN 1),(gN 2),(gN 3),(gN 4)])) (ay (bX (ik (fT (dP (ax pJ (af (aa 2) ai)))) (fT (dP (ax sU (af (aa 3) ai))))) (aQ (eC (.bl false))) cu) (ay (bX (aH (e2 aT (aa 1) (eC (.str "made")))) (aQ (ax sG (af (aa 4) ai))) cu) (aQ (cv (e2 aT (aa 1) (eC (.str "mended"))) (ax pM (af (aa 4) ai))))))))
noncomputable def pK:List D->ae->Res D:=aZ 1 1 (aQ (cv (eB gM (af (aa 0) (af (eC (.ty "tuple")) ai))) (cv (e2 qJ (eB fB (af (aa 0) ai)) (eC (.int (24)))) (cv (eB jG (af (ba 1 [] (aW (aa 0)) (gN 0) cx (ax sL (af (aa 0) ai))) ai)) (ax l6 (af (aa 0) ai))))))
noncomputable def ix:List D->ae->Res D:=aZ 4 4 (aQ (ba 1 [1,2,3] (aW (aa 0)) (gN 0) (cq (aH (e2 aT (e2 aw (aa 0) (eC (.int 0))) (eC (.str "made")))) (cq (aH (e2 aT (e2 aw (aa 0) (eC (.int 1))) (aa 1))) (aH (e2 bM (aa 2) (e2 aw (e2 aw (aa 0) (eC (.int 3))) (aa 3)))))) (e2 aw (aa 0) (eC (.int 2)))))
noncomputable def lW:List D->ae->Res D:=aZ 3 3 (aQ (ba 1 [1,2] (aW (aa 0)) (gN 0) (cq (aH (e2 aT (e2 aw (aa 0) (eC (.int 0))) (eC (.str "mended")))) (cq (aH (e2 aT (e2 aw (aa 0) (eC (.int 1))) (aa 1))) (aH (e2 aT (e2 aw (aa 0) (eC (.int 3))) (aa 2))))) (e2 aw (aa 0) (eC (.int 2)))))
noncomputable def rY:List D->ae->Res D:=aZ 3 3 (aQ (eB mQ (af (ba 1 [1,2] (aW (aa 0)) (gN 0) cx (rH jI qJ (aa 1) (aa 0) (aa 2))) ai)))
noncomputable def pN:List D->ae->Res D:=aZ 3 5 (ay (aO (ax ix (af (aa 0) (af (aa 1) (af (aa 2) (af (eC (.int (1))) ai))))) (gN 3)) (ay (aO (ax lW (af (aa 0) (af (aa 1) (af (aa 2) ai)))) (gN 4)) (aQ (ED 2 [3,4] (aW (e1 nW (ax ix (af (aa 0) (af (aa 1) (af (aa 2) (af (eC (.int (0))) ai))))))) (gN 0) cx (rK (af (aa 0) (af (eC (.int (31))) ai))) (gN 1) (cq (ik (aH (e2 bM (aa 1) (aa 2))) (cq (aH (e2 aT (aa 1) (aa 0))) (aH (e2 bM (aa 0) (aa 3))))) (fT (dP (ax rY (af (aa 3) (af (aa 0) (af (aa 1) ai))))))) (bZ (af (aa 0) (af (aa 1) ai)))))))
noncomputable def pH:List D->ae->Res D:=aZ 1 1 (aQ (EE 4 [0] (bE (af (eC (.int (4))) ai)) (gN 0) cx (bE (af (eC (.int (8))) ai)) (gN 1) cx (aW (ax pN (af (aa 4) (af (aa 0) (af (aa 1) ai))))) (gT [gN 2,gN 3]) cx (bZ (af (aa 0) (af (aa 1) (af (aa 2) (af (aa 3) ai)))))))
noncomputable def nU:List D->ae->Res D:=aZ 1 1 (aQ (cv (ax pK (af (aa 0) ai)) (TK.yc (ax pH (af (aa 0) ai)))))
noncomputable def wF:List D->ae->Res D:=aZ 3 3 (aQ (iq (e2 bM (eC (.bl true)) (aa 0)) (cv (e2 bM (eC (.bl false)) (aa 0)) (iq (lu (aa 1)) (aa 2)))))
noncomputable def xj:List D->ae->Res D:=aZ 3 3 (aQ (cv (lu (aa 1)) (iq (e2 bM (eC (.bl false)) (aa 0)) (cv (aa 2) (e2 gK (aa 0) (fy ai))))))
noncomputable def mq:List D->ae->Res D:=aZ 3 9 (ay (aO (qd 1 [] (bE (af (eC (.int 31)) ai)) (gN 0) cx (fy (af (eC (.bl false)) (af (eC (.bl true)) ai)))) (gN 3)) (ay (aO (qd 1 [] (bE (af (eC (.int 32)) ai)) (gN 0) cx (eC (.bl false))) (gN 4)) (ay (cw (aW (aa 0)) (gN 5) (ay (bX (cq (aH (e2 aT (e2 aw (aa 5) (eC (.int 0))) (eC (.str "mended")))) (cq (aH (e2 aT (e2 aw (aa 5) (eC (.int 1))) (aa 1))) (aH (e2 aT (e2 aw (aa 5) (eC (.int 3))) (aa 2))))) (ay (fV (ba 1 [] (aW (e2 aw (aa 3) (e2 aw (aa 5) (eC (.int 2))))) (gN 0) (fT (dP (aa 0))) (aa 0)) (aa 3) (e2 aw (aa 5) (eC (.int 2)))) (fV (eC (.bl true)) (aa 4) (e2 aw (aa 5) (eC (.int 2))))) cu) (bX (cq (aH (e2 aT (e2 aw (aa 5) (eC (.int 0))) (eC (.str "made")))) (cq (aH (e2 aT (e2 aw (aa 5) (eC (.int 1))) (aa 1))) (aH (e2 bM (aa 2) (e2 cM (e2 aw (e2 aw (aa 5) (eC (.int 3))) (eC (.int 0))) (e2 aw (e2 aw (aa 5) (eC (.int 3))) (eC (.int 1)))))))) (fV (ba 1 [2,5] (aW (e2 aw (aa 3) (e2 aw (aa 5) (eC (.int 2))))) (gN 0) (aH (e2 aT (aa 0) (e2 bM (aa 1) (e2 aw (e2 aw (aa 2) (eC (.int 3))) (eC (.int 0)))))) (aa 0)) (aa 3) (e2 aw (aa 5) (eC (.int 2)))) cu))) (ay (cw (rK (af (eC (.int 1)) (af (eC (.int 31)) ai))) (gN 6) (ay (aO (bZ (af (e2 aw (aa 3) (e2 qr (aa 6) (eC (.int 1)))) (af (e2 aw (aa 4) (aa 6)) ai))) (gT [(gN 7),(gN 8)])) (fV (ba 1 [7,8] (aW (e2 aw (aa 3) (aa 6))) (gN 0) (ik (cq (dP (aa 0)) (aH (e2 gK (aa 1) (fy ai)))) (dP (ax xj (af (aa 1) (af (aa 0) (af (aa 2) ai)))))) (aa 0)) (aa 3) (aa 6)))) (ay (cw (Ac (af (eC (.int 29)) (af (e1 qv (eC (.int 1))) (af (e1 qv (eC (.int 1))) ai)))) (gN 6) (fV (ba 1 [3,4,6] (aW (e2 aw (aa 3) (aa 6))) (gN 0) (dP (ax wF (af (e2 aw (aa 1) (e2 cM (aa 3) (eC (.int 1)))) (af (aa 0) (af (e2 aw (aa 2) (e2 cM (aa 3) (eC (.int 1)))) ai))))) (aa 0)) (aa 3) (aa 6))) (aQ (ba 1 [] (aW (jF (aa 3))) (gN 0) cx (eB df (af (aa 0) ai)))))))))
noncomputable def nP:List D->ae->Res D:=aZ 1 1 (bX (fT (dP (ax nU (af (aa 0) ai)))) vd cu)
noncomputable def nL:List D->ae->Res D:=aZ 1 1 (bX (fT (dP (ax pJ (af (aa 0) ai)))) vd cu)
noncomputable def r6:List D->ae->Res D:=aZ 3 8 (ay (aO (ax ix (af (aa 0) (af (aa 1) (af (aa 2) (af (eC (.int (0))) ai))))) (gN 3)) (ay (aO (ax lW (af (aa 0) (af (aa 1) (af (aa 2) ai)))) (gN 4)) (ay (aO (eNew ai) (gN 5)) (ay (aO (eC (.bl false)) (gN 6)) (ay (cw (bE (af (eC (.int (31))) ai)) (gN 7) (ay (aO (iq (e2 bM (aa 7) (aa 3)) (cv (aa 6) (e2 cL (aa 7) (aa 4)))) (gN 6)) (bX (dP (aa 6)) (eG (gL (aa 5) (aa 7))) cu))) (aQ (jF (aa 5))))))))
noncomputable def sg:List D->ae->Res D:=aZ 3 8 (ay (aO (ax ix (af (aa 0) (af (aa 1) (af (aa 2) (af (eC (.int (1))) ai))))) (gN 3)) (ay (aO (ax lW (af (aa 0) (af (aa 1) (af (aa 2) ai)))) (gN 4)) (ay (aO (eNew ai) (gN 5)) (ay (aO (eC (.bl false)) (gN 6)) (ay (cw (zX (af (eC (.int (31))) ai)) (gN 7) (ay (bX (ik (dP (aa 6)) (ik (aH (e2 bM (aa 7) (aa 3))) (aH (e2 bM (aa 7) (aa 4))))) (eG (gL (aa 5) (aa 7))) cu) (aO (cv (iq (aa 6) (e2 bM (aa 7) (aa 3))) (e2 cL (aa 7) (aa 4))) (gN 6)))) (aQ (jF (aa 5))))))))
noncomputable def pL:List D->ae->Res D:=aZ 2 2 (aQ (eB df (af (ba 1 [1,0] (bE (af (eC (.int (8))) ai)) (gN 0) (aH (e2 bM (aa 1) (e2 aw (aa 2) (aa 0)))) (aa 0)) ai)))
noncomputable def nK:List D->ae->Res D:=aZ 2 4 (ay (aO (ba 1 [0,1] (bE (af (eC (.int (8))) ai)) (gN 0) cx (ax r6 (af (aa 1) (af (aa 2) (af (aa 0) ai))))) (gN 2)) (ay (aO (ba 1 [0,1] (bE (af (eC (.int (8))) ai)) (gN 0) cx (ax sg (af (aa 1) (af (aa 2) (af (aa 0) ai))))) (gN 3)) (aQ (ba 1 [2,3] (bE (af (eC (.int (31))) ai)) (gN 0) cx (bZ (af (ax pL (af (aa 1) (af (aa 0) ai))) (af (ax pL (af (aa 2) (af (aa 0) ai))) ai)))))))
end DI
namespace DI
open PySem L2
noncomputable def nM:List D->ae->Res D:=aZ 2 2 (ay (eG (ax nP (af (aa 0) ai))) (ay (eG (ax nL (af (aa 1) ai))) (aQ (eB df (af (ba 2 [] (aW (ax nK (af (aa 0) (af (aa 1) ai)))) (gT [gN 0,gN 1]) cx (aa 0)) ai)))))
noncomputable def nQ:List D->ae->Res D:=aZ 2 2 (ay (eG (ax nP (af (aa 0) ai))) (ay (eG (ax nL (af (aa 1) ai))) (aQ (eB df (af (ba 2 [] (aW (ax nK (af (aa 0) (af (aa 1) ai)))) (gT [gN 0,gN 1]) cx (eB df (af (ba 1 [1] (bE (af (eC (.int (8))) ai)) (gN 0) (aH (e2 cL (aa 0) (aa 1))) (aa 0)) ai))) ai)))))
noncomputable def pR:List D->ae->Res D:=aZ 1 1 (ay (bX (fT (dP (ax pK (af (aa 0) ai)))) vd cu) (aQ (ax pH (af (aa 0) ai))))
noncomputable def sv:List D->ae->Res D:=aZ 4 7 (ay (aO (ax lW (af (aa 0) (af (aa 1) (af (aa 2) ai)))) (gN 4)) (ay (aO (ax ix (af (aa 0) (af (aa 1) (af (aa 2) (af (eC (.int (1))) ai))))) (gN 5)) (ay (aO (ax ix (af (aa 0) (af (aa 1) (af (aa 2) (af (eC (.int (0))) ai))))) (gN 6)) (aQ (cv (eB jG (af (ba 1 [3] (aW (aa 6)) (gN 0) cx (e2 bM (aa 0) (aa 1))) ai)) (cv (lu (eB mQ (af (ba 1 [5,4] (aW (aa 3)) (gN 0) cx (iq (e2 bM (aa 0) (aa 1)) (e2 bM (aa 0) (aa 2)))) ai))) (eB jG (af (ba 1 [3,4] (aW (aa 3)) (gN 0) cx (iq (e2 bM (e2 cM (aa 0) (eC (.int 1))) (aa 1)) (iq (e2 bM (e2 cM (aa 0) (eC (.int 1))) (aa 2)) (e2 aT (e2 cM (aa 0) (eC (.int 1))) (eC (.int (31))))))) ai))))))))
noncomputable def sx:List D->ae->Res D:=aZ 2 2 (aQ (ba 1 [1,0] (bE (af (eC (.int (31))) ai)) (gN 0) (aH (e2 bM (aa 1) (e2 aw (aa 2) (aa 0)))) (aa 0)))
noncomputable def pO:List D->ae->Res D:=aZ 3 3 (ay (eG (ax nP (af (aa 0) ai))) (ay (eG (ax nL (af (aa 1) ai))) (ay (bX (ik (fT (dP (eB gM (af (aa 2) (af (eC (.ty "tuple")) ai))))) (aH (e2 gK (eB fB (af (aa 2) ai)) (eC (.int (31)))))) (aQ (eC (.bl false))) cu) (aQ (cv (eB jG (af (ba 1 [] (aW (aa 2)) (gN 0) cx (ax nO (af (aa 0) ai))) ai)) (eB jG (af (ba 1 [0,1,2] (bE (af (eC (.int (8))) ai)) (gN 0) cx (ax sv (af (aa 1) (af (aa 2) (af (aa 0) (af (ax sx (af (aa 3) (af (aa 0) ai))) ai)))))) ai)))))))
noncomputable def uu (W:World):List D->ae->Res D:=aZ 1 8 (ay (cw (bE (af (eB mC (af (eC (.int 1)) (af (eB qx (af (eB fB (af (aa 0) ai)) (af (eC (.int 3)) ai))) ai))) ai)) (gN 1) (ay (aO (ax sS (af (aa 0) (af (aa 1) ai))) (gN 2)) (cw (aW (fy (af (ax (pZ W) (af (aa 2) ai)) (af (e1 (TK.uq 2) (ax (pZ W) (af (aa 2) ai))) (af (nr (ax (tH W) (af (aa 2) ai)) nq (mR (eC (.int 24)))) ai))))) (gN 3) (ay (aO (eC (.bl true)) (gN 4)) (ay (cw (bE (af (eC (.int 4)) ai)) (gN 5) (cw (bE (af (eC (.int 8)) ai)) (gN 6) (aO (cv (aa 4) (e2 cL (bZ ai) (ax mq (af (aa 3) (af (aa 5) (af (aa 6) ai)))))) (gN 4)))) (ay (bX (aH (e2 gK (fy (af (ax nU (af (aa 3) ai)) (af (e2 aT (ax pR (af (aa 3) ai)) (fy ai)) ai))) (fy (af (aa 4) (af (aa 4) ai))))) (aQ (eC (.bl false))) cu) (bX (dP (aa 4)) (ay (aO (ax bu (af (aa 2) (af (eC (.int 4)) ai))) (gN 5)) (cw (aW (fy (af (ax nM (af (aa 3) (af (aa 5) ai))) (af (ax nQ (af (aa 3) (af (aa 5) ai))) ai)))) (gN 7) (bX (aH (e2 qh (ax pO (af (aa 3) (af (aa 5) (af (aa 7) ai)))) (eC (.bl true)))) (aQ (eC (.bl false))) cu))) cu))))))) (aQ (eC (.bl true))))
end DI
namespace DI.iQ
open PySem L2 DI
noncomputable def top (i:Nat):Stmt:=PySem.Challenge.pw_twinmoulds_k03_whole_lives_where_no_faul.main.body.getD i (.Pass ⟨0,0,0,0⟩)
structure bI (K:Frag) (mg:Str->Option Value):Prop where
 mr:mg "all"=none
 xJ:mg "any"=none
 MD:mg "bool"=none
 Oa:mg "int"=none
 lX:mg "isinstance"=none
 oq:mg "len"=none
 DN:mg "list"=none
 ER:mg "max"=none
 Ob:mg "min"=none
 cD:mg "range"=none
 Ie:mg "reversed"=none
 Oc:mg "set"=none
 v9:mg "sorted"=none
 fP:mg "tuple"=none
 Od:mg "zip"=none
 j8:∃t,mg "MARKS"=some (.int (8) t)
 sM:∃t,mg "MOULDS"=some (.int (4) t)
 ju:∃t,mg "DAYS"=some (.int (31) t)
 wG:∃t,mg "PAGES"=some (.int (24) t)
 qi:∃t,mg "HAS"=some (.int (0) t)
 pS:∃t,mg "LACKS"=some (.int (1) t)
 Ig:∃f fd,Gd K mg "_law_cell_at" (top 43) ["_law_script","_law_k"] f fd
 JT:∃f fd,Gd K mg "_law_state" (top 44) ["_law_script","_law_k"] f fd
 pT:∃f fd,Gd K mg "_law_take" (top 45) ["_law_state_here","_law_many"] f fd
 JU:∃f fd,Gd K mg "_law_marks" (top 46) ["_law_state_here","_law_most"] f fd
 Lc:∃f fd,Gd K mg "_law_near" (top 48) ["_law_state_here"] f fd
 JV:∃f fd,Gd K mg "_law_lived" (top 49) ["_law_state_here","_law_mended"] f fd
 Ld:∃f fd,Gd K mg "_law_book" (top 50) ["_law_state_here"] f fd
 A8:∃f fd,Gd K mg "is_rising" (top 13) ["things"] f fd
 HJ:∃f fd,Gd K mg "is_number" (top 8) ["thing"] f fd
 vL:∃f fd,Gd K mg "is_below" (top 9) ["thing","many"] f fd
 BK:∃f fd,Gd K mg "is_mark" (top 10) ["thing"] f fd
 A9:∃f fd,Gd K mg "are_marks" (top 19) ["thing"] f fd
 HK:∃f fd,Gd K mg "are_apart" (top 21) ["marks","others"] f fd
 Ih:∃f fd,Gd K mg "is_sheet" (top 20) ["thing"] f fd
 Bs:∃f fd,Gd K mg "is_mould" (top 11) ["thing"] f fd
 JW:∃f fd,Gd K mg "is_day" (top 12) ["thing"] f fd
 IU:∃f fd,Gd K mg "is_page" (top 22) ["thing"] f fd
 Bt:∃f fd,Gd K mg "are_laid" (top 23) ["thing"] f fd
 sm:∃f fd,Gd K mg "days_seen" (top 29) ["pages","mould","mark","half"] f fd
 r9:∃f fd,Gd K mg "days_mended" (top 30) ["pages","mould","mark"] f fd
 Ha:∃f fd,Gd K mg "is_any_behind" (top 28) ["days","day","later"] f fd
 IV:∃f fd,Gd K mg "clashes" (top 27) ["pages","mould","mark"] f fd
 Ba:∃f fd,Gd K mg "faults_of" (top 26) ["pages"] f fd
 BL:∃f fd,Gd K mg "is_book" (top 25) ["thing"] f fd
 vE:∃f fd,Gd K mg "need_book" (top 31) ["thing"] f fd
 vB:∃f fd,Gd K mg "need_mould" (top 14) ["thing"] f fd
 Hd:∃f fd,Gd K mg "days_present" (top 38) ["book","mould","mark"] f fd
 Hk:∃f fd,Gd K mg "days_absent" (top 39) ["book","mould","mark"] f fd
 Ii:∃f fd,Gd K mg "marks_on" (top 37) ["days_by_mark","day"] f fd
 AU:∃f fd,Gd K mg "sure_sheets" (top 36) ["book","mould"] f fd
 Hv:∃f fd,Gd K mg "least_life" (top 34) ["book","mould"] f fd
 HL:∃f fd,Gd K mg "most_life" (top 35) ["book","mould"] f fd
 JX:∃f fd,Gd K mg "faults" (top 24) ["laid"] f fd
 HM:∃f fd,Gd K mg "goes_with" (top 41) ["book","mould","mark","days"] f fd
 HN:∃f fd,Gd K mg "days_with" (top 40) ["life","mark"] f fd
 IW:∃f fd,Gd K mg "is_life" (top 33) ["book","mould","thing"] f fd
 JY:∃f fd,Gd K mg "_law_leads" (top 53) ["_law_later","_law_one","_law_free"] f fd
 Lf:∃f fd,Gd K mg "_law_gone" (top 52) ["_law_ahead","_law_one","_law_free"] f fd
 ME:∃f fd,Gd K mg "_law_may" (top 51) ["_law_laid","_law_mould","_law_mark"] f fd
section
variable {P:Program} {w:World} {K:Frag} {mg:Str->Option Value} {base:Heap}
theorem Bu:bt ["_law_script","_law_k"] ["_law_script","_law_k"] (aV (top 43)):=⟨rfl,rfl,rfl,by decide +kernel,rfl,by decide +kernel,by decide +kernel⟩
theorem Ij (F:bI K mg) {f:Addr} {fd:FuncData} (G:Gd K mg "_law_cell_at" (top 43) ["_law_script","_law_k"] f fd):aS P w K mg base aY 1 f fd ["_law_script","_law_k"] (bA K pI):=by
 have az:=Bu.nd
 exact bH (k:=0) G.fn Bu λaX A outer s H E hr=>(aL (eT (bQ (uR hr) (ag 1) (cE oE rfl F.oq oF (ah (ag 0) ak)) (bT _)) (aM (bc (bb (ag 0) (ag 1)))) fb) (aM (bc aA)))
theorem Cn:bt ["_law_script","_law_k","_law_cell"] ["_law_script","_law_k"] (aV (top 44)):=⟨rfl,rfl,rfl,by decide +kernel,rfl,by decide +kernel,by decide +kernel⟩
theorem JZ (F:bI K mg) {f:Addr} {fd:FuncData} (G:Gd K mg "_law_state" (top 44) ["_law_script","_law_k"] f fd):aS P w K mg base aY 2 f fd ["_law_script","_law_k"] (bA K sS):=by
 obtain⟨_,_,sH⟩:=F.Ig
 have az:=Cn.nd
 exact bH (k:=1) G.fn Cn λaX A outer s H E hr=>(aL (bU 2 az (aF (Ij F sH) (hr.mono (by decide)) rfl sH.mg sH.fn.kp sH.b (ah (ag 0) (ah (ag 1) ak)))) (aM (bc (oy (ah (cE (Ew rfl) rfl F.ER Fn (ah aA (ah (bV Fd (ag 2) (bV O8 aA aA)) ak))) (ah (bV oB (ag 2) aA) ak))))))
theorem C2:bt ["_law_state_here","_law_many","_law_found","_law_stirred"] ["_law_state_here","_law_many"] (aV (top 45)):=⟨rfl,rfl,rfl,by decide +kernel,rfl,by decide +kernel,by decide +kernel⟩
theorem dM (F:bI K mg) {f:Addr} {fd:FuncData} (G:Gd K mg "_law_take" (top 45) ["_law_state_here","_law_many"] f fd):aS P w K mg base aY 1 f fd ["_law_state_here","_law_many"] (bA K bu):=by
 have az:=C2.nd
 exact bH (k:=0) G.fn C2 λaX A outer s H E hr=>(aL (eT (bQ Qy (bb (ag 0) aA) aA (bT _)) (aL (bU 2 az (bV oB (bb (ag 0) aA) (ag 1))) (aL (mF (bV Fe (bb (ag 0) aA) (ag 1)) (ag 0) aA) (aM (bc (ag 2))))) fb) (aL (mF (bV oB (bV fm (bV qw (bb (ag 0) aA) aA) aA) aA) (ag 0) aA) (aL (bU 3 az (bV oB (bV fm (bV fm (bV qw (bb (ag 0) aA) (bb (ag 0) aA)) (bV qw aA (bb (ag 0) aA))) aA) aA)) (aL (bU 3 az (bV oB (bV fm (bV qw (ag 3) (ag 3)) (bV qw aA (ag 3))) aA)) (aM (bc (bV oB (bV Fe (ag 3) aA) (ag 1))))))))
theorem Co:bt ["_law_state_here","_law_most","_law_way"] ["_law_state_here","_law_most"] (aV (top 46)):=⟨rfl,rfl,rfl,by decide +kernel,rfl,by decide +kernel,by decide +kernel⟩
theorem Cp (F:bI K mg) {f:Addr} {fd:FuncData} (G:Gd K mg "_law_marks" (top 46) ["_law_state_here","_law_most"] f fd):aS P w K mg base aY 2 f fd ["_law_state_here","_law_most"] (bA K kR):=by
 obtain⟨_,_,aE⟩:=F.pT
 have bp:(["_law_mark","_law_state_here","_law_way"]:List Str).Nodup:=by decide +kernel
 have az:=Co.nd
 exact bH (k:=1) G.fn Co λaX A outer s H E hr=>(aL (bU 2 az (bV fm aA (aF (dM F aE) (hr.mono (by decide)) rfl aE.mg aE.fn.kp aE.b (ah (ag 0) (ah aA ak))))) (aM (bc (gS iT rfl F.fP fQ (ah (ck (N:=["_law_mark","_law_state_here","_law_way"]) (nt:=1) (cap:=[0,2]) rfl (bW (by kernel_rfl)) (bS 0) (de rfl F.cD (ah (ag 1) ak)) (λcl C s H ex pn=>⟨(bB (i:=0) bp rfl (Or.inl rfl)),(gb (bQ (dY hr) (aF (dM F aE) (hr.mono (by decide)) rfl aE.mg aE.fn.kp aE.b (ah (ag 1) (ah (bV fm (ag 2) aA) ak))) aA (bT _))),(ag 0)⟩)) ak)))))
theorem C3:bt ["_law_state_here","_law_found","_law_moulds","_law_last","_law_most","_law_turn","_law_mould","_law_day","_law_has","_law_lacks"] ["_law_state_here"] (aV (top 48)):=⟨rfl,rfl,rfl,by decide +kernel,rfl,by decide +kernel,by decide +kernel⟩
theorem C4 (F:bI K mg) {f:Addr} {fd:FuncData} (G:Gd K mg "_law_near" (top 48) ["_law_state_here"] f fd):aS P w K mg base aY 3 f fd ["_law_state_here"] (bA K (pZ w)):=by
 obtain⟨_,_,aE⟩:=F.pT
 obtain⟨_,_,kS⟩:=F.JU
 have bp:(["_law_mark","_law_has"]:List Str).Nodup:=by decide +kernel
 have az:=C3.nd
 exact bH (k:=2) G.fn C3 λaX A outer s H E hr=>(aL (bU 1 az TK.EM) (aL (EO 2 3 4 rfl az (ah (bV fm aA (aF (dM F aE) (hr.mono (by decide)) rfl aE.mg aE.fn.kp aE.b (ah (ag 0) (ah aA ak)))) (ah (bb (kj (ah aA (ah aA (ah aA ak)))) (aF (dM F aE) (hr.mono (by decide)) rfl aE.mg aE.fn.kp aE.b (ah (ag 0) (ah aA ak)))) (ah (bV fm aA (aF (dM F aE) (hr.mono (by decide)) rfl aE.mg aE.fn.kp aE.b (ah (ag 0) (ah aA ak)))) ak)))) (aL (fR PassesOwn.never rfl (de rfl F.cD (ah (aF (dM F aE) (hr.mono (by decide)) rfl aE.mg aE.fn.kp aE.b (ah (ag 0) (ah aA ak))) ak)) (cg 5 az) (aL (NT 6 7 rfl az (ah (aF (dM F aE) (hr.mono (by decide)) rfl aE.mg aE.fn.kp aE.b (ah (ag 0) (ah (ag 2) ak))) (ah (aF (dM F aE) (hr.mono (by decide)) rfl aE.mg aE.fn.kp aE.b (ah (ag 0) (ah (ag 3) ak))) ak))) (aM (eT (bQ (dY hr) (aF (dM F aE) (hr.mono (by decide)) rfl aE.mg aE.fn.kp aE.b (ah (ag 0) (ah aA ak))) aA (bT _)) (aM (TK.tY rfl hr dQ (ag 1) (gF (ah jy (ah (ag 6) (ah (ag 7) (ah (aF (dM F aE) (hr.mono (by decide)) rfl aE.mg aE.fn.kp aE.b (ah (ag 0) (ah (ag 4) ak))) ak))))))) (aL (bU 8 az (aF (Cp F kS) (hr.mono (by decide)) rfl kS.mg kS.fn.kp kS.b (ah (ag 0) (ah (ag 4) ak)))) (aL (bU 9 az (gS iT rfl F.fP fQ (ah (ck (N:=["_law_mark","_law_has"]) (nt:=1) (cap:=[8]) rfl (bW (by kernel_rfl)) (bS 0) (cU (aF (Cp F kS) (hr.mono (by decide)) rfl kS.mg kS.fn.kp kS.b (ah (ag 0) (ah (ag 4) ak)))) (λcl C s H ex pn=>⟨(bB (i:=0) bp rfl (Or.inl rfl)),(gb (bQ (ma hr) (ag 0) (ag 1) rfl)),(ag 0)⟩)) ak))) (aM (TK.tY rfl hr dQ (ag 1) (gF (ah jy (ah (ag 6) (ah (ag 7) (ah (gF (ah (ag 8) (ah (ag 9) ak))) ak))))))))))))) (aM (bc (gS iT rfl F.fP fQ (ah (cE (TK.DM hr) rfl F.v9 wz (ah (gS (TK.DL rfl) rfl F.DN EC (ah (ag 1) ak)) ak)) ak)))))))
theorem Cq:bt ["_law_state_here","_law_mended","_law_there","_law_found","_law_way","_law_day"] ["_law_state_here","_law_mended"] (aV (top 49)):=⟨rfl,rfl,rfl,by decide +kernel,rfl,by decide +kernel,by decide +kernel⟩
theorem J0 (F:bI K mg) {f:Addr} {fd:FuncData} (G:Gd K mg "_law_lived" (top 49) ["_law_state_here","_law_mended"] f fd):aS P w K mg base aY 2 f fd ["_law_state_here","_law_mended"] (bA K nZ):=by
 obtain⟨_,_,aE⟩:=F.pT
 have az:=Cq.nd
 exact bH (k:=1) G.fn Cq λaX A outer s H E hr=>(aL (EO 2 3 4 rfl az (ah (cQ (dY hr) (aF (dM F aE) (hr.mono (by decide)) rfl aE.mg aE.fn.kp aE.b (ah (ag 0) (ah aA ak))) aA (bT _)) (ah (oy ak) (ah (bV fm aA (aF (dM F aE) (hr.mono (by decide)) rfl aE.mg aE.fn.kp aE.b (ah (ag 0) (ah aA ak)))) ak)))) (aL (fR PassesOwn.never rfl (de rfl F.cD (ah aA ak)) (cg 5 az) (aL (bU 2 az (dO (kz (ag 2) (dg (cQ (dY hr) (aF (dM F aE) (hr.mono (by decide)) rfl aE.mg aE.fn.kp aE.b (ah (ag 0) (ah (ag 4) ak))) aA (bT _)))) (dg (cQ (ma hr) (ag 5) (ag 1) rfl)))) (aM (eT (fj (ag 2)) (aM (iW (qy (ag 3) (ag 5)))) fb)))) (aM (bc (uh (ag 3))))))
theorem C5:bt ["_law_state_here","_law_found","_law_moulds","_law_often","_law_mould","_law_mended","_law_lives","_law_turn","_law_mark","_law_day","_law_seen","_law_has"] ["_law_state_here"] (aV (top 50)):=⟨rfl,rfl,rfl,by decide +kernel,rfl,by decide +kernel,by decide +kernel⟩
theorem Lg (F:bI K mg) {f:Addr} {fd:FuncData} (G:Gd K mg "_law_book" (top 50) ["_law_state_here"] f fd):aS P w K mg base aY 3 f fd ["_law_state_here"] (bA K (tH w)):=by
 obtain⟨_,_,aE⟩:=F.pT
 obtain⟨_,_,sV⟩:=F.JV
 have bp:(["_law_mark"]:List Str).Nodup:=by decide +kernel
 have jn:(["_law_mark","_law_state_here","_law_often"]:List Str).Nodup:=by decide +kernel
 have nD:(["_law_mark","_law_day","_law_lives"]:List Str).Nodup:=by decide +kernel
 have Ae:(["_law_mark","_law_day","_law_lives"]:List Str).Nodup:=by decide +kernel
 have az:=C5.nd
 exact bH (k:=2) G.fn C5 λaX A outer s H E hr=>(aL (oA (gF (ah TK.EM (ah (bV fm aA (aF (dM F aE) (hr.mono (by decide)) rfl aE.mg aE.fn.kp aE.b (ah (ag 0) (ah aA ak)))) (ah (bV fm aA (aF (dM F aE) (hr.mono (by decide)) rfl aE.mg aE.fn.kp aE.b (ah (ag 0) (ah aA ak)))) ak)))) (oz rfl (f9 (cg 1 az) (f9 (cg 2 az) (f9 (cg 3 az) oh))))) (aL (fR PassesOwn.never rfl (de rfl F.cD (ah (ag 2) ak)) (cg 4 az) (aL (oA (gF (ah (ck (N:=["_law_mark"]) (nt:=1) (cap:=[]) rfl (bW (by kernel_rfl)) (bS 0) (de rfl F.cD (ah aA ak)) (λcl C s H ex pn=>⟨(bB (i:=0) bp rfl (Or.inl rfl)),dD,(oy ak)⟩)) (ah (oy ak) ak))) (oz rfl (f9 (cg 5 az) (f9 (cg 6 az) oh)))) (aL (fR PassesOwn.never rfl (de rfl F.cD (ah (aF (dM F aE) (hr.mono (by decide)) rfl aE.mg aE.fn.kp aE.b (ah (ag 0) (ah aA ak))) ak)) (cg 7 az) (aL (oA (gF (ah (aF (dM F aE) (hr.mono (by decide)) rfl aE.mg aE.fn.kp aE.b (ah (ag 0) (ah aA ak))) (ah (aF (dM F aE) (hr.mono (by decide)) rfl aE.mg aE.fn.kp aE.b (ah (ag 0) (ah aA ak))) ak))) (oz rfl (f9 (cg 8 az) (f9 (cg 9 az) oh)))) (aL (iW (qy (bb (ag 5) (ag 8)) (ag 9))) (aM (TK.tY rfl hr dQ (ag 1) (gF (ah jy (ah (ag 4) (ah (ag 9) (ah (ag 8) ak)))))))))) (aL (fR PassesOwn.never rfl (de rfl F.cD (ah aA ak)) (cg 8 az) (aM (iW (qy (ag 6) (aF (J0 F sV) (hr.mono (by decide)) rfl sV.mg sV.fn.kp sV.b (ah (ag 0) (ah (bb (ag 5) (ag 8)) ak))))))) (aM (fR PassesOwn.never rfl (de rfl F.cD (ah (aF (dM F aE) (hr.mono (by decide)) rfl aE.mg aE.fn.kp aE.b (ah (ag 0) (ah aA ak))) ak)) (cg 7 az) (aL (bU 9 az (aF (dM F aE) (hr.mono (by decide)) rfl aE.mg aE.fn.kp aE.b (ah (ag 0) (ah aA ak)))) (aL (Ms 10 (N:=["_law_mark","_law_state_here","_law_often"]) (nt:=1) (cap:=[0,3]) az rfl (bW (by kernel_rfl)) (bS 0) (de rfl F.cD (ah aA ak)) (λcl C s H ex pn=>⟨(bB (i:=0) jn rfl (Or.inl rfl)),(gb (bQ (dY hr) (aF (dM F aE) (hr.mono (by decide)) rfl aE.mg aE.fn.kp aE.b (ah (ag 1) (ah (ag 2) ak))) aA (bT _))),(ag 0)⟩)) (aL (bU 11 az (gS iT rfl F.fP fQ (ah (ck (N:=["_law_mark","_law_day","_law_lives"]) (nt:=1) (cap:=[9,6]) rfl (bW (by kernel_rfl)) (bS 0) (cU (ag 10)) (λcl C s H ex pn=>⟨(bB (i:=0) nD rfl (Or.inl rfl)),(gb (bQ (dZ hr) (ag 1) (bb (ag 2) (ag 0)) rfl)),(ag 0)⟩)) ak))) (aM (TK.tY rfl hr dQ (ag 1) (gF (ah jy (ah (ag 4) (ah (ag 9) (ah (gF (ah (ag 11) (ah (gS iT rfl F.fP fQ (ah (ck (N:=["_law_mark","_law_day","_law_lives"]) (nt:=1) (cap:=[9,6]) rfl (bW (by kernel_rfl)) (bS 0) (cU (ag 10)) (λcl C s H ex pn=>⟨(bB (i:=0) Ae rfl (Or.inl rfl)),(gb (bQ (ma hr) (ag 1) (bb (ag 2) (ag 0)) rfl)),(ag 0)⟩)) ak)) ak))) ak)))))))))))))))) (aM (bc (gS iT rfl F.fP fQ (ah (cE (TK.DM hr) rfl F.v9 wz (ah (gS (TK.DL rfl) rfl F.DN EC (ah (ag 1) ak)) ak)) ak))))))
theorem Bb:bt ["things"] ["things"] (aV (top 13)):=⟨rfl,rfl,rfl,by decide +kernel,rfl,by decide +kernel,by decide +kernel⟩
theorem Bc (F:bI K mg) {f:Addr} {fd:FuncData} (G:Gd K mg "is_rising" (top 13) ["things"] f fd):aS P w K mg base aY 1 f fd ["things"] (bA K l6):=by
 have bp:(["ahead","behind"]:List Str).Nodup:=by decide +kernel
 have az:=Bb.nd
 exact bH (k:=0) G.fn Bb λaX A outer s H E hr=>(aM (bc (cE (mB rfl) rfl F.mr mI (ah (ck (N:=["ahead","behind"]) (nt:=2) (cap:=[]) rfl (bW (by kernel_rfl)) (tW (kQ 0 (kQ 1 tB))) (O7 rfl F.Od (ah (ag 0) (ah (F1 (ag 0) (Fg aA) F0) ak))) (λcl C s H ex pn=>⟨(k9 rfl (j6 (bB (i:=0) bp rfl (Or.inl rfl)) (j6 (bB (i:=1) bp rfl (Or.inl rfl)) pW))),dD,(cQ (uR hr) (ag 0) (ag 1) (bT _))⟩)) ak))))
theorem Bd:bt ["thing"] ["thing"] (aV (top 8)):=⟨rfl,rfl,rfl,by decide +kernel,rfl,by decide +kernel,by decide +kernel⟩
theorem HP (F:bI K mg) {f:Addr} {fd:FuncData} (G:Gd K mg "is_number" (top 8) ["thing"] f fd):aS P w K mg base aY 1 f fd ["thing"] (bA K vK):=by
 have az:=Bd.nd
 exact bH (k:=0) G.fn Bd λaX A outer s H E hr=>(aM (bc (dO (cE mG rfl F.lX lY (ah (ag 0) (ah (mS Pa rfl F.Oa) ak))) (dO (qq (cE mG rfl F.lX lY (ah (ag 0) (ah (mS NU rfl F.MD) ak)))) (dg (cQ Qz (ag 0) aA (bT _)))))))
theorem Bv:bt ["thing","many"] ["thing","many"] (aV (top 9)):=⟨rfl,rfl,rfl,by decide +kernel,rfl,by decide +kernel,by decide +kernel⟩
theorem vM (F:bI K mg) {f:Addr} {fd:FuncData} (G:Gd K mg "is_below" (top 9) ["thing","many"] f fd):aS P w K mg base aY 2 f fd ["thing","many"] (bA K nS):=by
 obtain⟨_,_,sy⟩:=F.HJ
 have az:=Bv.nd
 exact bH (k:=1) G.fn Bv λaX A outer s H E hr=>(aM (bc (dO (aF (HP F sy) (hr.mono (by decide)) rfl sy.mg sy.fn.kp sy.b (ah (ag 0) ak)) (dg (cQ (uR hr) (ag 0) (ag 1) (bT _))))))
theorem BM:bt ["thing"] ["thing"] (aV (top 10)):=⟨rfl,rfl,rfl,by decide +kernel,rfl,by decide +kernel,by decide +kernel⟩
theorem BN (F:bI K mg) {f:Addr} {fd:FuncData} (G:Gd K mg "is_mark" (top 10) ["thing"] f fd):aS P w K mg base aY 3 f fd ["thing"] (bA K pM):=by
 obtain⟨_,_,gA⟩:=F.vL
 have az:=BM.nd
 exact bH (k:=2) G.fn BM λaX A outer s H E hr=>(aM (bc (aF (vM F gA) (hr.mono (by decide)) rfl gA.mg gA.fn.kp gA.b (ah (ag 0) (ah (dq F.j8 rfl) ak)))))
theorem Be:bt ["thing"] ["thing"] (aV (top 19)):=⟨rfl,rfl,rfl,by decide +kernel,rfl,by decide +kernel,by decide +kernel⟩
theorem vF (F:bI K mg) {f:Addr} {fd:FuncData} (G:Gd K mg "are_marks" (top 19) ["thing"] f fd):aS P w K mg base aY 4 f fd ["thing"] (bA K nO):=by
 obtain⟨_,_,j4⟩:=F.BK
 obtain⟨_,_,jY⟩:=F.A8
 have bp:(["mark"]:List Str).Nodup:=by decide +kernel
 have az:=Be.nd
 exact bH (k:=3) G.fn Be λaX A outer s H E hr=>(aM (bc (dO (cE mG rfl F.lX lY (ah (ag 0) (ah (mS fQ rfl F.fP) ak))) (dO (cE (mB rfl) rfl F.mr mI (ah (ck (N:=["mark"]) (nt:=1) (cap:=[]) rfl (bW (by kernel_rfl)) (bS 0) (cU (ag 0)) (λcl C s H ex pn=>⟨(bB (i:=0) bp rfl (Or.inl rfl)),dD,(aF (BN F j4) (hr.mono (by decide)) rfl j4.mg j4.fn.kp j4.b (ah (ag 0) ak))⟩)) ak)) (dg (aF (Bc F jY) (hr.mono (by decide)) rfl jY.mg jY.fn.kp jY.b (ah (ag 0) ak)))))))
theorem Bf:bt ["marks","others"] ["marks","others"] (aV (top 21)):=⟨rfl,rfl,rfl,by decide +kernel,rfl,by decide +kernel,by decide +kernel⟩
theorem HQ (F:bI K mg) {f:Addr} {fd:FuncData} (G:Gd K mg "are_apart" (top 21) ["marks","others"] f fd):aS P w K mg base aY 1 f fd ["marks","others"] (bA K su):=by
 have bp:(["mark","others"]:List Str).Nodup:=by decide +kernel
 have az:=Bf.nd
 exact bH (k:=0) G.fn Bf λaX A outer s H E hr=>(aM (bc (qq (cE (xZ rfl) rfl F.xJ x9 (ah (ck (N:=["mark","others"]) (nt:=1) (cap:=[1]) rfl (bW (by kernel_rfl)) (bS 0) (cU (ag 0)) (λcl C s H ex pn=>⟨(bB (i:=0) bp rfl (Or.inl rfl)),dD,(cQ (dZ hr) (ag 0) (ag 1) rfl)⟩)) ak)))))
theorem Bw:bt ["thing","has","lacks"] ["thing"] (aV (top 20)):=⟨rfl,rfl,rfl,by decide +kernel,rfl,by decide +kernel,by decide +kernel⟩
theorem Ik (F:bI K mg) {f:Addr} {fd:FuncData} (G:Gd K mg "is_sheet" (top 20) ["thing"] f fd):aS P w K mg base aY 5 f fd ["thing"] (bA K sG):=by
 obtain⟨_,_,gR⟩:=F.A9
 obtain⟨_,_,sA⟩:=F.HK
 have az:=Bw.nd
 exact bH (k:=4) G.fn Bw λaX A outer s H E hr=>(aL (eT (PW.pt (w_or (jz (fj (cE mG rfl F.lX lY (ah (ag 0) (ah (mS fQ rfl F.fP) ak))))) (mz (bQ (oP hr) (cE oE rfl F.oq oF (ah (ag 0) ak)) aA (bT _))))) (aM (bc dQ)) fb) (aL (oA (ag 0) (oz rfl (f9 (cg 1 az) (f9 (cg 2 az) oh)))) (aM (bc (dO (aF (vF F gR) (hr.mono (by decide)) rfl gR.mg gR.fn.kp gR.b (ah (ag 1) ak)) (dO (aF (vF F gR) (hr.mono (by decide)) rfl gR.mg gR.fn.kp gR.b (ah (ag 2) ak)) (dg (aF (HQ F sA) (hr.mono (by decide)) rfl sA.mg sA.fn.kp sA.b (ah (ag 1) (ah (ag 2) ak))))))))))
theorem Bx:bt ["thing"] ["thing"] (aV (top 11)):=⟨rfl,rfl,rfl,by decide +kernel,rfl,by decide +kernel,by decide +kernel⟩
theorem By (F:bI K mg) {f:Addr} {fd:FuncData} (G:Gd K mg "is_mould" (top 11) ["thing"] f fd):aS P w K mg base aY 3 f fd ["thing"] (bA K pJ):=by
 obtain⟨_,_,gA⟩:=F.vL
 have az:=Bx.nd
 exact bH (k:=2) G.fn Bx λaX A outer s H E hr=>(aM (bc (aF (vM F gA) (hr.mono (by decide)) rfl gA.mg gA.fn.kp gA.b (ah (ag 0) (ah (dq F.sM rfl) ak)))))
theorem Cr:bt ["thing"] ["thing"] (aV (top 12)):=⟨rfl,rfl,rfl,by decide +kernel,rfl,by decide +kernel,by decide +kernel⟩
theorem J1 (F:bI K mg) {f:Addr} {fd:FuncData} (G:Gd K mg "is_day" (top 12) ["thing"] f fd):aS P w K mg base aY 3 f fd ["thing"] (bA K sU):=by
 obtain⟨_,_,gA⟩:=F.vL
 have az:=Cr.nd
 exact bH (k:=2) G.fn Cr λaX A outer s H E hr=>(aM (bc (aF (vM F gA) (hr.mono (by decide)) rfl gA.mg gA.fn.kp gA.b (ah (ag 0) (ah (dq F.ju rfl) ak)))))
theorem BO:bt ["thing","word","mould","day","what"] ["thing"] (aV (top 22)):=⟨rfl,rfl,rfl,by decide +kernel,rfl,by decide +kernel,by decide +kernel⟩
theorem IY (F:bI K mg) {f:Addr} {fd:FuncData} (G:Gd K mg "is_page" (top 22) ["thing"] f fd):aS P w K mg base aY 6 f fd ["thing"] (bA K sL):=by
 obtain⟨_,_,j0⟩:=F.Bs
 obtain⟨_,_,sW⟩:=F.JW
 obtain⟨_,_,sI⟩:=F.Ih
 obtain⟨_,_,j4⟩:=F.BK
 have az:=BO.nd
 exact bH (k:=5) G.fn BO λaX A outer s H E hr=>(aL (eT (PW.pt (w_or (jz (fj (cE mG rfl F.lX lY (ah (ag 0) (ah (mS fQ rfl F.fP) ak))))) (mz (bQ (oP hr) (cE oE rfl F.oq oF (ah (ag 0) ak)) aA (bT _))))) (aM (bc dQ)) fb) (aL (oA (ag 0) (oz rfl (f9 (cg 1 az) (f9 (cg 2 az) (f9 (cg 3 az) (f9 (cg 4 az) oh)))))) (aL (eT (PW.pt (w_or (jz (fj (aF (By F j0) (hr.mono (by decide)) rfl j0.mg j0.fn.kp j0.b (ah (ag 2) ak)))) (mz (jz (fj (aF (J1 F sW) (hr.mono (by decide)) rfl sW.mg sW.fn.kp sW.b (ah (ag 3) ak))))))) (aM (bc dQ)) fb) (aL (eT (bQ (dY hr) (ag 1) jy (bT _)) (aM (bc (aF (Ik F sI) (hr.mono (by decide)) rfl sI.mg sI.fn.kp sI.b (ah (ag 4) ak)))) fb) (aM (bc (dO (cQ (dY hr) (ag 1) jy (bT _)) (dg (aF (BN F j4) (hr.mono (by decide)) rfl j4.mg j4.fn.kp j4.b (ah (ag 4) ak))))))))))
theorem Bz:bt ["thing"] ["thing"] (aV (top 23)):=⟨rfl,rfl,rfl,by decide +kernel,rfl,by decide +kernel,by decide +kernel⟩
theorem BA (F:bI K mg) {f:Addr} {fd:FuncData} (G:Gd K mg "are_laid" (top 23) ["thing"] f fd):aS P w K mg base aY 7 f fd ["thing"] (bA K pK):=by
 obtain⟨_,_,sO⟩:=F.IU
 obtain⟨_,_,jY⟩:=F.A8
 have bp:(["page"]:List Str).Nodup:=by decide +kernel
 have az:=Bz.nd
 exact bH (k:=6) G.fn Bz λaX A outer s H E hr=>(aM (bc (dO (cE mG rfl F.lX lY (ah (ag 0) (ah (mS fQ rfl F.fP) ak))) (dO (cQ FZ (cE oE rfl F.oq oF (ah (ag 0) ak)) (dq F.wG rfl) (bT _)) (dO (cE (mB rfl) rfl F.mr mI (ah (ck (N:=["page"]) (nt:=1) (cap:=[]) rfl (bW (by kernel_rfl)) (bS 0) (cU (ag 0)) (λcl C s H ex pn=>⟨(bB (i:=0) bp rfl (Or.inl rfl)),dD,(aF (IY F sO) (hr.mono (by decide)) rfl sO.mg sO.fn.kp sO.b (ah (ag 0) ak))⟩)) ak)) (dg (aF (Bc F jY) (hr.mono (by decide)) rfl jY.mg jY.fn.kp jY.b (ah (ag 0) ak))))))))
theorem Bg:bt ["pages","mould","mark","half"] ["pages","mould","mark","half"] (aV (top 29)):=⟨rfl,rfl,rfl,by decide +kernel,rfl,by decide +kernel,by decide +kernel⟩
theorem nN (F:bI K mg) {f:Addr} {fd:FuncData} (G:Gd K mg "days_seen" (top 29) ["pages","mould","mark","half"] f fd):aS P w K mg base aY 1 f fd ["pages","mould","mark","half"] (bA K ix):=by
 have bp:(["page","mould","mark","half"]:List Str).Nodup:=by decide +kernel
 have az:=Bg.nd
 exact bH (k:=0) G.fn Bg λaX A outer s H E hr=>(aM (bc (ck (N:=["page","mould","mark","half"]) (nt:=1) (cap:=[1,2,3]) rfl (bW (by kernel_rfl)) (bS 0) (cU (ag 0)) (λcl C s H ex pn=>⟨(bB (i:=0) bp rfl (Or.inl rfl)),(gb (PW.pt (w_and (bQ (dY hr) (bb (ag 0) aA) jy (bT _)) (w_and (bQ (dY hr) (bb (ag 0) aA) (ag 1) (bT _)) (mf (bQ (dZ hr) (ag 2) (bb (bb (ag 0) aA) (ag 3)) rfl)))))),(bb (ag 0) aA)⟩))))
theorem AV:bt ["pages","mould","mark"] ["pages","mould","mark"] (aV (top 30)):=⟨rfl,rfl,rfl,by decide +kernel,rfl,by decide +kernel,by decide +kernel⟩
theorem sd (F:bI K mg) {f:Addr} {fd:FuncData} (G:Gd K mg "days_mended" (top 30) ["pages","mould","mark"] f fd):aS P w K mg base aY 1 f fd ["pages","mould","mark"] (bA K lW):=by
 have bp:(["page","mould","mark"]:List Str).Nodup:=by decide +kernel
 have az:=AV.nd
 exact bH (k:=0) G.fn AV λaX A outer s H E hr=>(aM (bc (ck (N:=["page","mould","mark"]) (nt:=1) (cap:=[1,2]) rfl (bW (by kernel_rfl)) (bS 0) (cU (ag 0)) (λcl C s H ex pn=>⟨(bB (i:=0) bp rfl (Or.inl rfl)),(gb (PW.pt (w_and (bQ (dY hr) (bb (ag 0) aA) jy (bT _)) (w_and (bQ (dY hr) (bb (ag 0) aA) (ag 1) (bT _)) (mf (bQ (dY hr) (bb (ag 0) aA) (ag 2) (bT _))))))),(bb (ag 0) aA)⟩))))
theorem AR:bt ["days","day","later"] ["days","day","later"] (aV (top 28)):=⟨rfl,rfl,rfl,by decide +kernel,rfl,by decide +kernel,by decide +kernel⟩
theorem Hb (F:bI K mg) {f:Addr} {fd:FuncData} (G:Gd K mg "is_any_behind" (top 28) ["days","day","later"] f fd):aS P w K mg base aY 1 f fd ["days","day","later"] (bA K rY):=by
 have bp:(["other","day","later"]:List Str).Nodup:=by decide +kernel
 have az:=AR.nd
 exact bH (k:=0) G.fn AR λaX A outer s H E hr=>(aM (bc (cE (xZ rfl) rfl F.xJ x9 (ah (ck (N:=["other","day","later"]) (nt:=1) (cap:=[1,2]) rfl (bW (by kernel_rfl)) (bS 0) (cU (ag 0)) (λcl C s H ex pn=>⟨(bB (i:=0) bp rfl (Or.inl rfl)),dD,(Mi (uR hr) FZ (ag 1) (ag 0) (ag 2))⟩)) ak))))
theorem BP:bt ["pages","mould","mark","lacked","mended"] ["pages","mould","mark"] (aV (top 27)):=⟨rfl,rfl,rfl,by decide +kernel,rfl,by decide +kernel,by decide +kernel⟩
theorem IZ (F:bI K mg) {f:Addr} {fd:FuncData} (G:Gd K mg "clashes" (top 27) ["pages","mould","mark"] f fd):aS P w K mg base aY 2 f fd ["pages","mould","mark"] (bA K pN):=by
 obtain⟨_,_,cK⟩:=F.sm
 obtain⟨_,_,eI⟩:=F.r9
 obtain⟨_,_,rZ⟩:=F.Ha
 have bp:(["day","later","lacked","mended"]:List Str).Nodup:=by decide +kernel
 have az:=BP.nd
 exact bH (k:=1) G.fn BP λaX A outer s H E hr=>(aL (bU 3 az (aF (nN F cK) (hr.mono (by decide)) rfl cK.mg cK.fn.kp cK.b (ah (ag 0) (ah (ag 1) (ah (ag 2) (ah (dq F.pS rfl) ak)))))) (aL (bU 4 az (aF (sd F eI) (hr.mono (by decide)) rfl eI.mg eI.fn.kp eI.b (ah (ag 0) (ah (ag 1) (ah (ag 2) ak))))) (aM (bc (Mo (N:=["day","later","lacked","mended"]) (nt:=2) (cap:=[3,4]) rfl (E8 (by kernel_rfl)) (bS 0) (tD 0) (bS 1) (tD 1) (cU (IM (aF (nN F cK) (hr.mono (by decide)) rfl cK.mg cK.fn.kp cK.b (ah (ag 0) (ah (ag 1) (ah (ag 2) (ah (dq F.qi rfl) ak))))) rfl rfl F.v9 wz rfl F.Oc Pb)) (λcl C s H ex pn=>⟨(bB (i:=0) bp rfl (Or.inl rfl)),dD,(Eu rfl F.cD (ah (ag 0) (ah (dq F.ju rfl) ak))),(bB (i:=1) bp rfl (Or.inl rfl)),(gb (PW.pt (w_and (PW.pt (w_or (bQ (dZ hr) (ag 1) (ag 2) rfl) (mz (PW.pt (w_and (bQ (dY hr) (ag 1) (ag 0) (bT _)) (mf (bQ (dZ hr) (ag 0) (ag 3) rfl))))))) (mf (jz (fj (aF (Hb F rZ) (hr.mono (by decide)) rfl rZ.mg rZ.fn.kp rZ.b (ah (ag 3) (ah (ag 0) (ah (ag 1) ak)))))))))),(gF (ah (ag 0) (ah (ag 1) ak)))⟩))))))
theorem Bh:bt ["pages"] ["pages"] (aV (top 26)):=⟨rfl,rfl,rfl,by decide +kernel,rfl,by decide +kernel,by decide +kernel⟩
theorem Bi (F:bI K mg) {f:Addr} {fd:FuncData} (G:Gd K mg "faults_of" (top 26) ["pages"] f fd):aS P w K mg base aY 3 f fd ["pages"] (bA K pH):=by
 obtain⟨_,_,sP⟩:=F.IV
 have bp:(["mould","mark","day","later","pages"]:List Str).Nodup:=by decide +kernel
 have az:=Bh.nd
 exact bH (k:=2) G.fn Bh λaX A outer s H E hr=>(aM (bc (Mp (N:=["mould","mark","day","later","pages"]) (nt:=4) (cap:=[0]) rfl (E8 (by kernel_rfl)) (bS 0) (tD 0) (bS 1) (tD 1) (tW (kQ 2 (kQ 3 tB))) (xu [2,3]) (de rfl F.cD (ah (dq F.sM rfl) ak)) (λcl C s H ex pn=>⟨(bB (i:=0) bp rfl (Or.inl rfl)),dD,(de rfl F.cD (ah (dq F.j8 rfl) ak)),(bB (i:=1) bp rfl (Or.inl rfl)),dD,(cU (aF (IZ F sP) (hr.mono (by decide)) rfl sP.mg sP.fn.kp sP.b (ah (ag 4) (ah (ag 0) (ah (ag 1) ak))))),(k9 rfl (j6 (bB (i:=2) bp rfl (Or.inl rfl)) (j6 (bB (i:=3) bp rfl (Or.inl rfl)) pW))),dD,(gF (ah (ag 0) (ah (ag 1) (ah (ag 2) (ah (ag 3) ak)))))⟩))))
theorem BQ:bt ["thing"] ["thing"] (aV (top 25)):=⟨rfl,rfl,rfl,by decide +kernel,rfl,by decide +kernel,by decide +kernel⟩
theorem BR (F:bI K mg) {f:Addr} {fd:FuncData} (G:Gd K mg "is_book" (top 25) ["thing"] f fd):aS P w K mg base aY 8 f fd ["thing"] (bA K nU):=by
 obtain⟨_,_,j3⟩:=F.Bt
 obtain⟨_,_,jZ⟩:=F.Ba
 have az:=BQ.nd
 exact bH (k:=7) G.fn BQ λaX A outer s H E hr=>(aM (bc (dO (aF (BA F j3) (hr.mono (by decide)) rfl j3.mg j3.fn.kp j3.b (ah (ag 0) ak)) (dg (TK.N9 (aF (Bi F jZ) (hr.mono (by decide)) rfl jZ.mg jZ.fn.kp jZ.b (ah (ag 0) ak)))))))
theorem Bj:bt ["thing"] ["thing"] (aV (top 31)):=⟨rfl,rfl,rfl,by decide +kernel,rfl,by decide +kernel,by decide +kernel⟩
theorem vG (F:bI K mg) {f:Addr} {fd:FuncData} (G:Gd K mg "need_book" (top 31) ["thing"] f fd):aS P w K mg base aY 9 f fd ["thing"] (bA K nP):=by
 obtain⟨_,_,j5⟩:=F.BL
 have az:=Bj.nd
 exact bH (k:=8) G.fn Bj λaX A outer s H E hr=>(aM (eT (jz (fj (aF (BR F j5) (hr.mono (by decide)) rfl j5.mg j5.fn.kp j5.b (ah (ag 0) ak)))) wj fb))
theorem A1:bt ["thing"] ["thing"] (aV (top 14)):=⟨rfl,rfl,rfl,by decide +kernel,rfl,by decide +kernel,by decide +kernel⟩
theorem vC (F:bI K mg) {f:Addr} {fd:FuncData} (G:Gd K mg "need_mould" (top 14) ["thing"] f fd):aS P w K mg base aY 4 f fd ["thing"] (bA K nL):=by
 obtain⟨_,_,j0⟩:=F.Bs
 have az:=A1.nd
 exact bH (k:=3) G.fn A1 λaX A outer s H E hr=>(aM (eT (jz (fj (aF (By F j0) (hr.mono (by decide)) rfl j0.mg j0.fn.kp j0.b (ah (ag 0) ak)))) wj fb))
theorem AS:bt ["book","mould","mark","shown","mended","present","stays","day"] ["book","mould","mark"] (aV (top 38)):=⟨rfl,rfl,rfl,by decide +kernel,rfl,by decide +kernel,by decide +kernel⟩
theorem He (F:bI K mg) {f:Addr} {fd:FuncData} (G:Gd K mg "days_present" (top 38) ["book","mould","mark"] f fd):aS P w K mg base aY 2 f fd ["book","mould","mark"] (bA K r6):=by
 obtain⟨_,_,cK⟩:=F.sm
 obtain⟨_,_,eI⟩:=F.r9
 have az:=AS.nd
 exact bH (k:=1) G.fn AS λaX A outer s H E hr=>(aL (bU 3 az (aF (nN F cK) (hr.mono (by decide)) rfl cK.mg cK.fn.kp cK.b (ah (ag 0) (ah (ag 1) (ah (ag 2) (ah (dq F.qi rfl) ak)))))) (aL (bU 4 az (aF (sd F eI) (hr.mono (by decide)) rfl eI.mg eI.fn.kp eI.b (ah (ag 0) (ah (ag 1) (ah (ag 2) ak))))) (aL (bU 5 az (oy ak)) (aL (bU 6 az dQ) (aL (fR PassesOwn.never rfl (de rfl F.cD (ah (dq F.ju rfl) ak)) (cg 7 az) (aL (bU 6 az (kz (cQ (dZ hr) (ag 7) (ag 3) rfl) (dg (dO (ag 6) (dg (cQ (ma hr) (ag 7) (ag 4) rfl)))))) (aM (eT (fj (ag 6)) (aM (iW (qy (ag 5) (ag 7)))) fb)))) (aM (bc (uh (ag 5)))))))))
theorem AW:bt ["book","mould","mark","lacked","mended","absent","barred","day"] ["book","mould","mark"] (aV (top 39)):=⟨rfl,rfl,rfl,by decide +kernel,rfl,by decide +kernel,by decide +kernel⟩
theorem Hl (F:bI K mg) {f:Addr} {fd:FuncData} (G:Gd K mg "days_absent" (top 39) ["book","mould","mark"] f fd):aS P w K mg base aY 2 f fd ["book","mould","mark"] (bA K sg):=by
 obtain⟨_,_,cK⟩:=F.sm
 obtain⟨_,_,eI⟩:=F.r9
 have az:=AW.nd
 exact bH (k:=1) G.fn AW λaX A outer s H E hr=>(aL (bU 3 az (aF (nN F cK) (hr.mono (by decide)) rfl cK.mg cK.fn.kp cK.b (ah (ag 0) (ah (ag 1) (ah (ag 2) (ah (dq F.pS rfl) ak)))))) (aL (bU 4 az (aF (sd F eI) (hr.mono (by decide)) rfl eI.mg eI.fn.kp eI.b (ah (ag 0) (ah (ag 1) (ah (ag 2) ak))))) (aL (bU 5 az (oy ak)) (aL (bU 6 az dQ) (aL (fR PassesOwn.never rfl (Pe rfl F.Ie rfl F.cD (ah (dq F.ju rfl) ak)) (cg 7 az) (aL (eT (PW.pt (w_or (fj (ag 6)) (w_or (bQ (dZ hr) (ag 7) (ag 3) rfl) (mz (bQ (dZ hr) (ag 7) (ag 4) rfl))))) (aM (iW (qy (ag 5) (ag 7)))) fb) (aM (bU 6 az (dO (kz (ag 6) (dg (cQ (dZ hr) (ag 7) (ag 3) rfl))) (dg (cQ (ma hr) (ag 7) (ag 4) rfl))))))) (aM (bc (uh (ag 5)))))))))
theorem BB:bt ["days_by_mark","day"] ["days_by_mark","day"] (aV (top 37)):=⟨rfl,rfl,rfl,by decide +kernel,rfl,by decide +kernel,by decide +kernel⟩
theorem BC (F:bI K mg) {f:Addr} {fd:FuncData} (G:Gd K mg "marks_on" (top 37) ["days_by_mark","day"] f fd):aS P w K mg base aY 1 f fd ["days_by_mark","day"] (bA K pL):=by
 have bp:(["mark","day","days_by_mark"]:List Str).Nodup:=by decide +kernel
 have az:=BB.nd
 exact bH (k:=0) G.fn BB λaX A outer s H E hr=>(aM (bc (gS iT rfl F.fP fQ (ah (ck (N:=["mark","day","days_by_mark"]) (nt:=1) (cap:=[1,0]) rfl (bW (by kernel_rfl)) (bS 0) (de rfl F.cD (ah (dq F.j8 rfl) ak)) (λcl C s H ex pn=>⟨(bB (i:=0) bp rfl (Or.inl rfl)),(gb (bQ (dZ hr) (ag 1) (bb (ag 2) (ag 0)) rfl)),(ag 0)⟩)) ak))))
theorem AX:bt ["book","mould","present","absent"] ["book","mould"] (aV (top 36)):=⟨rfl,rfl,rfl,by decide +kernel,rfl,by decide +kernel,by decide +kernel⟩
theorem AY (F:bI K mg) {f:Addr} {fd:FuncData} (G:Gd K mg "sure_sheets" (top 36) ["book","mould"] f fd):aS P w K mg base aY 3 f fd ["book","mould"] (bA K nK):=by
 obtain⟨_,_,se⟩:=F.Hd
 obtain⟨_,_,si⟩:=F.Hk
 obtain⟨_,_,kO⟩:=F.Ii
 have bp:(["mark","book","mould"]:List Str).Nodup:=by decide +kernel
 have jn:(["mark","book","mould"]:List Str).Nodup:=by decide +kernel
 have nD:(["day","present","absent"]:List Str).Nodup:=by decide +kernel
 have az:=AX.nd
 exact bH (k:=2) G.fn AX λaX A outer s H E hr=>(aL (bU 2 az (ck (N:=["mark","book","mould"]) (nt:=1) (cap:=[0,1]) rfl (bW (by kernel_rfl)) (bS 0) (de rfl F.cD (ah (dq F.j8 rfl) ak)) (λcl C s H ex pn=>⟨(bB (i:=0) bp rfl (Or.inl rfl)),dD,(aF (He F se) (hr.mono (by decide)) rfl se.mg se.fn.kp se.b (ah (ag 1) (ah (ag 2) (ah (ag 0) ak))))⟩))) (aL (bU 3 az (ck (N:=["mark","book","mould"]) (nt:=1) (cap:=[0,1]) rfl (bW (by kernel_rfl)) (bS 0) (de rfl F.cD (ah (dq F.j8 rfl) ak)) (λcl C s H ex pn=>⟨(bB (i:=0) jn rfl (Or.inl rfl)),dD,(aF (Hl F si) (hr.mono (by decide)) rfl si.mg si.fn.kp si.b (ah (ag 1) (ah (ag 2) (ah (ag 0) ak))))⟩))) (aM (bc (ck (N:=["day","present","absent"]) (nt:=1) (cap:=[2,3]) rfl (bW (by kernel_rfl)) (bS 0) (de rfl F.cD (ah (dq F.ju rfl) ak)) (λcl C s H ex pn=>⟨(bB (i:=0) nD rfl (Or.inl rfl)),dD,(gF (ah (aF (BC F kO) (hr.mono (by decide)) rfl kO.mg kO.fn.kp kO.b (ah (ag 1) (ah (ag 0) ak))) (ah (aF (BC F kO) (hr.mono (by decide)) rfl kO.mg kO.fn.kp kO.b (ah (ag 2) (ah (ag 0) ak))) ak)))⟩))))))
theorem A2:bt ["book","mould"] ["book","mould"] (aV (top 34)):=⟨rfl,rfl,rfl,by decide +kernel,rfl,by decide +kernel,by decide +kernel⟩
theorem Hw (F:bI K mg) {f:Addr} {fd:FuncData} (G:Gd K mg "least_life" (top 34) ["book","mould"] f fd):aS P w K mg base aY 10 f fd ["book","mould"] (bA K nM):=by
 obtain⟨_,_,gy⟩:=F.vE
 obtain⟨_,_,gw⟩:=F.vB
 obtain⟨_,_,jX⟩:=F.AU
 have bp:(["has","lacks"]:List Str).Nodup:=by decide +kernel
 have az:=A2.nd
 exact bH (k:=9) G.fn A2 λaX A outer s H E hr=>(aL (iW (aF (vG F gy) (hr.mono (by decide)) rfl gy.mg gy.fn.kp gy.b (ah (ag 0) ak))) (aL (iW (aF (vC F gw) (hr.mono (by decide)) rfl gw.mg gw.fn.kp gw.b (ah (ag 1) ak))) (aM (bc (gS iT rfl F.fP fQ (ah (ck (N:=["has","lacks"]) (nt:=2) (cap:=[]) rfl (bW (by kernel_rfl)) (tW (kQ 0 (kQ 1 tB))) (cU (aF (AY F jX) (hr.mono (by decide)) rfl jX.mg jX.fn.kp jX.b (ah (ag 0) (ah (ag 1) ak)))) (λcl C s H ex pn=>⟨(k9 rfl (j6 (bB (i:=0) bp rfl (Or.inl rfl)) (j6 (bB (i:=1) bp rfl (Or.inl rfl)) pW))),dD,(ag 0)⟩)) ak))))))
theorem Bk:bt ["book","mould"] ["book","mould"] (aV (top 35)):=⟨rfl,rfl,rfl,by decide +kernel,rfl,by decide +kernel,by decide +kernel⟩
theorem HR (F:bI K mg) {f:Addr} {fd:FuncData} (G:Gd K mg "most_life" (top 35) ["book","mould"] f fd):aS P w K mg base aY 10 f fd ["book","mould"] (bA K nQ):=by
 obtain⟨_,_,gy⟩:=F.vE
 obtain⟨_,_,gw⟩:=F.vB
 obtain⟨_,_,jX⟩:=F.AU
 have bp:(["has","lacks"]:List Str).Nodup:=by decide +kernel
 have jn:(["mark","lacks"]:List Str).Nodup:=by decide +kernel
 have az:=Bk.nd
 exact bH (k:=9) G.fn Bk λaX A outer s H E hr=>(aL (iW (aF (vG F gy) (hr.mono (by decide)) rfl gy.mg gy.fn.kp gy.b (ah (ag 0) ak))) (aL (iW (aF (vC F gw) (hr.mono (by decide)) rfl gw.mg gw.fn.kp gw.b (ah (ag 1) ak))) (aM (bc (gS iT rfl F.fP fQ (ah (ck (N:=["has","lacks"]) (nt:=2) (cap:=[]) rfl (bW (by kernel_rfl)) (tW (kQ 0 (kQ 1 tB))) (cU (aF (AY F jX) (hr.mono (by decide)) rfl jX.mg jX.fn.kp jX.b (ah (ag 0) (ah (ag 1) ak)))) (λcl C s H ex pn=>⟨(k9 rfl (j6 (bB (i:=0) bp rfl (Or.inl rfl)) (j6 (bB (i:=1) bp rfl (Or.inr rfl)) pW))),dD,(gS iT rfl F.fP fQ (ah (ck (N:=["mark","lacks"]) (nt:=1) (cap:=[1]) rfl (bW (by kernel_rfl)) (bS 0) (de rfl F.cD (ah (dq F.j8 rfl) ak)) (λcl C s H ex pn=>⟨(bB (i:=0) jn rfl (Or.inl rfl)),(gb (bQ (ma hr) (ag 0) (ag 1) rfl)),(ag 0)⟩)) ak))⟩)) ak))))))
theorem Cs:bt ["laid"] ["laid"] (aV (top 24)):=⟨rfl,rfl,rfl,by decide +kernel,rfl,by decide +kernel,by decide +kernel⟩
theorem J2 (F:bI K mg) {f:Addr} {fd:FuncData} (G:Gd K mg "faults" (top 24) ["laid"] f fd):aS P w K mg base aY 8 f fd ["laid"] (bA K pR):=by
 obtain⟨_,_,j3⟩:=F.Bt
 obtain⟨_,_,jZ⟩:=F.Ba
 have az:=Cs.nd
 exact bH (k:=7) G.fn Cs λaX A outer s H E hr=>(aL (eT (jz (fj (aF (BA F j3) (hr.mono (by decide)) rfl j3.mg j3.fn.kp j3.b (ah (ag 0) ak)))) wj fb) (aM (bc (aF (Bi F jZ) (hr.mono (by decide)) rfl jZ.mg jZ.fn.kp jZ.b (ah (ag 0) ak)))))
theorem Bl:bt ["book","mould","mark","days","mended","lacked","shown"] ["book","mould","mark","days"] (aV (top 41)):=⟨rfl,rfl,rfl,by decide +kernel,rfl,by decide +kernel,by decide +kernel⟩
theorem HS (F:bI K mg) {f:Addr} {fd:FuncData} (G:Gd K mg "goes_with" (top 41) ["book","mould","mark","days"] f fd):aS P w K mg base aY 2 f fd ["book","mould","mark","days"] (bA K sv):=by
 obtain⟨_,_,eI⟩:=F.r9
 obtain⟨_,_,cK⟩:=F.sm
 have bp:(["day","days"]:List Str).Nodup:=by decide +kernel
 have jn:(["day","lacked","mended"]:List Str).Nodup:=by decide +kernel
 have nD:(["day","days","mended"]:List Str).Nodup:=by decide +kernel
 have az:=Bl.nd
 exact bH (k:=1) G.fn Bl λaX A outer s H E hr=>(aL (bU 4 az (aF (sd F eI) (hr.mono (by decide)) rfl eI.mg eI.fn.kp eI.b (ah (ag 0) (ah (ag 1) (ah (ag 2) ak))))) (aL (bU 5 az (aF (nN F cK) (hr.mono (by decide)) rfl cK.mg cK.fn.kp cK.b (ah (ag 0) (ah (ag 1) (ah (ag 2) (ah (dq F.pS rfl) ak)))))) (aL (bU 6 az (aF (nN F cK) (hr.mono (by decide)) rfl cK.mg cK.fn.kp cK.b (ah (ag 0) (ah (ag 1) (ah (ag 2) (ah (dq F.qi rfl) ak)))))) (aM (bc (dO (cE (mB rfl) rfl F.mr mI (ah (ck (N:=["day","days"]) (nt:=1) (cap:=[3]) rfl (bW (by kernel_rfl)) (bS 0) (cU (ag 6)) (λcl C s H ex pn=>⟨(bB (i:=0) bp rfl (Or.inl rfl)),dD,(cQ (dZ hr) (ag 0) (ag 1) rfl)⟩)) ak)) (dO (qq (cE (xZ rfl) rfl F.xJ x9 (ah (ck (N:=["day","lacked","mended"]) (nt:=1) (cap:=[5,4]) rfl (bW (by kernel_rfl)) (bS 0) (cU (ag 3)) (λcl C s H ex pn=>⟨(bB (i:=0) jn rfl (Or.inl rfl)),dD,(kz (cQ (dZ hr) (ag 0) (ag 1) rfl) (dg (cQ (dZ hr) (ag 0) (ag 2) rfl)))⟩)) ak))) (dg (cE (mB rfl) rfl F.mr mI (ah (ck (N:=["day","days","mended"]) (nt:=1) (cap:=[3,4]) rfl (bW (by kernel_rfl)) (bS 0) (cU (ag 3)) (λcl C s H ex pn=>⟨(bB (i:=0) nD rfl (Or.inl rfl)),dD,(kz (cQ (dZ hr) (bV fm (ag 0) aA) (ag 1) rfl) (kz (cQ (dZ hr) (bV fm (ag 0) aA) (ag 2) rfl) (dg (cQ (dY hr) (bV fm (ag 0) aA) (dq F.ju rfl) (bT _)))))⟩)) ak))))))))))
theorem Bm:bt ["life","mark"] ["life","mark"] (aV (top 40)):=⟨rfl,rfl,rfl,by decide +kernel,rfl,by decide +kernel,by decide +kernel⟩
theorem HU (F:bI K mg) {f:Addr} {fd:FuncData} (G:Gd K mg "days_with" (top 40) ["life","mark"] f fd):aS P w K mg base aY 1 f fd ["life","mark"] (bA K sx):=by
 have bp:(["day","mark","life"]:List Str).Nodup:=by decide +kernel
 have az:=Bm.nd
 exact bH (k:=0) G.fn Bm λaX A outer s H E hr=>(aM (bc (ck (N:=["day","mark","life"]) (nt:=1) (cap:=[1,0]) rfl (bW (by kernel_rfl)) (bS 0) (de rfl F.cD (ah (dq F.ju rfl) ak)) (λcl C s H ex pn=>⟨(bB (i:=0) bp rfl (Or.inl rfl)),(gb (bQ (dZ hr) (ag 1) (bb (ag 2) (ag 0)) rfl)),(ag 0)⟩))))
theorem BS:bt ["book","mould","thing"] ["book","mould","thing"] (aV (top 33)):=⟨rfl,rfl,rfl,by decide +kernel,rfl,by decide +kernel,by decide +kernel⟩
theorem I0 (F:bI K mg) {f:Addr} {fd:FuncData} (G:Gd K mg "is_life" (top 33) ["book","mould","thing"] f fd):aS P w K mg base aY 10 f fd ["book","mould","thing"] (bA K pO):=by
 obtain⟨_,_,gy⟩:=F.vE
 obtain⟨_,_,gw⟩:=F.vB
 obtain⟨_,_,gR⟩:=F.A9
 obtain⟨_,_,sC⟩:=F.HN
 obtain⟨_,_,sD⟩:=F.HM
 have bp:(["marks"]:List Str).Nodup:=by decide +kernel
 have jn:(["mark","book","mould","thing"]:List Str).Nodup:=by decide +kernel
 have az:=BS.nd
 exact bH (k:=9) G.fn BS λaX A outer s H E hr=>(aL (iW (aF (vG F gy) (hr.mono (by decide)) rfl gy.mg gy.fn.kp gy.b (ah (ag 0) ak))) (aL (iW (aF (vC F gw) (hr.mono (by decide)) rfl gw.mg gw.fn.kp gw.b (ah (ag 1) ak))) (aL (eT (PW.pt (w_or (jz (fj (cE mG rfl F.lX lY (ah (ag 2) (ah (mS fQ rfl F.fP) ak))))) (mz (bQ (oP hr) (cE oE rfl F.oq oF (ah (ag 2) ak)) (dq F.ju rfl) (bT _))))) (aM (bc dQ)) fb) (aM (bc (dO (cE (mB rfl) rfl F.mr mI (ah (ck (N:=["marks"]) (nt:=1) (cap:=[]) rfl (bW (by kernel_rfl)) (bS 0) (cU (ag 2)) (λcl C s H ex pn=>⟨(bB (i:=0) bp rfl (Or.inl rfl)),dD,(aF (vF F gR) (hr.mono (by decide)) rfl gR.mg gR.fn.kp gR.b (ah (ag 0) ak))⟩)) ak)) (dg (cE (mB rfl) rfl F.mr mI (ah (ck (N:=["mark","book","mould","thing"]) (nt:=1) (cap:=[0,1,2]) rfl (bW (by kernel_rfl)) (bS 0) (de rfl F.cD (ah (dq F.j8 rfl) ak)) (λcl C s H ex pn=>⟨(bB (i:=0) jn rfl (Or.inl rfl)),dD,(aF (HS F sD) (hr.mono (by decide)) rfl sD.mg sD.fn.kp sD.b (ah (ag 1) (ah (ag 2) (ah (ag 0) (ah (aF (HU F sC) (hr.mono (by decide)) rfl sC.mg sC.fn.kp sC.b (ah (ag 3) (ah (ag 0) ak))) ak)))))⟩)) ak)))))))))
theorem Ct:bt ["_law_later","_law_one","_law_free"] ["_law_later","_law_one","_law_free"] (aV (top 53)):=⟨rfl,rfl,rfl,by decide +kernel,rfl,by decide +kernel,by decide +kernel⟩
theorem J3 (F:bI K mg) {f:Addr} {fd:FuncData} (G:Gd K mg "_law_leads" (top 53) ["_law_later","_law_one","_law_free"] f fd):aS P w K mg base aY 1 f fd ["_law_later","_law_one","_law_free"] (bA K wF):=by
 have az:=Ct.nd
 exact bH (k:=0) G.fn Ct λaX A outer s H E hr=>(aM (bc (kz (cQ (dZ hr) dQ (ag 0) rfl) (dg (dO (cQ (dZ hr) dQ (ag 0) rfl) (dg (kz (qq (ag 1)) (dg (ag 2)))))))))
theorem C6:bt ["_law_ahead","_law_one","_law_free"] ["_law_ahead","_law_one","_law_free"] (aV (top 52)):=⟨rfl,rfl,rfl,by decide +kernel,rfl,by decide +kernel,by decide +kernel⟩
theorem Lh (F:bI K mg) {f:Addr} {fd:FuncData} (G:Gd K mg "_law_gone" (top 52) ["_law_ahead","_law_one","_law_free"] f fd):aS P w K mg base aY 1 f fd ["_law_ahead","_law_one","_law_free"] (bA K xj):=by
 have az:=C6.nd
 exact bH (k:=0) G.fn C6 λaX A outer s H E hr=>(aM (bc (dO (qq (ag 1)) (dg (kz (cQ (dZ hr) dQ (ag 0) rfl) (dg (dO (ag 2) (dg (cQ (oP hr) (ag 0) (kj ak) (bT _))))))))))
theorem DO:bt ["_law_laid","_law_mould","_law_mark","_law_rows","_law_free","_law_page","_law_day","_law_ahead","_law_off"] ["_law_laid","_law_mould","_law_mark"] (aV (top 51)):=⟨rfl,rfl,rfl,by decide +kernel,rfl,by decide +kernel,by decide +kernel⟩
theorem MF (F:bI K mg) {f:Addr} {fd:FuncData} (G:Gd K mg "_law_may" (top 51) ["_law_laid","_law_mould","_law_mark"] f fd):aS P w K mg base aY 2 f fd ["_law_laid","_law_mould","_law_mark"] (bA K mq):=by
 obtain⟨_,_,tI⟩:=F.Lf
 obtain⟨_,_,sX⟩:=F.JY
 have bp:(["_law_day"]:List Str).Nodup:=by decide +kernel
 have jn:(["_law_day"]:List Str).Nodup:=by decide +kernel
 have nD:(["_law_one"]:List Str).Nodup:=by decide +kernel
 have Ae:(["_law_one","_law_mark","_law_page"]:List Str).Nodup:=by decide +kernel
 have R4:(["_law_one","_law_ahead","_law_off"]:List Str).Nodup:=by decide +kernel
 have R5:(["_law_one","_law_rows","_law_free","_law_day"]:List Str).Nodup:=by decide +kernel
 have R6:(["_law_row"]:List Str).Nodup:=by decide +kernel
 have az:=DO.nd
 exact bH (k:=1) G.fn DO λaX A outer s H E hr=>(aL (bU 3 az (CV (N:=["_law_day"]) (nt:=1) (cap:=[]) rfl (bW (by kernel_rfl)) (bS 0) (de rfl F.cD (ah aA ak)) (λcl C s H ex pn=>⟨(bB (i:=0) bp rfl (Or.inl rfl)),dD,(kj (ah dQ (ah dQ ak)))⟩))) (aL (bU 4 az (CV (N:=["_law_day"]) (nt:=1) (cap:=[]) rfl (bW (by kernel_rfl)) (bS 0) (de rfl F.cD (ah aA ak)) (λcl C s H ex pn=>⟨(bB (i:=0) jn rfl (Or.inl rfl)),dD,dQ⟩))) (aL (fR PassesOwn.never rfl (cU (ag 0)) (cg 5 az) (aL (eT (PW.pt (w_and (bQ (dY hr) (bb (ag 5) aA) jy (bT _)) (w_and (bQ (dY hr) (bb (ag 5) aA) (ag 1) (bT _)) (mf (bQ (dY hr) (bb (ag 5) aA) (ag 2) (bT _)))))) (aL (mF (ck (N:=["_law_one"]) (nt:=1) (cap:=[]) rfl (bW (by kernel_rfl)) (bS 0) (cU (bb (ag 3) (bb (ag 5) aA))) (λcl C s H ex pn=>⟨(bB (i:=0) nD rfl (Or.inl rfl)),(gb (jz (fj (ag 0)))),(ag 0)⟩)) (ag 3) (bb (ag 5) aA)) (aM (mF dQ (ag 4) (bb (ag 5) aA)))) fb) (aM (eT (PW.pt (w_and (bQ (dY hr) (bb (ag 5) aA) jy (bT _)) (w_and (bQ (dY hr) (bb (ag 5) aA) (ag 1) (bT _)) (mf (bQ (dZ hr) (ag 2) (bV fm (bb (bb (ag 5) aA) aA) (bb (bb (ag 5) aA) aA)) rfl))))) (aM (mF (ck (N:=["_law_one","_law_mark","_law_page"]) (nt:=1) (cap:=[2,5]) rfl (bW (by kernel_rfl)) (bS 0) (cU (bb (ag 3) (bb (ag 5) aA))) (λcl C s H ex pn=>⟨(bB (i:=0) Ae rfl (Or.inl rfl)),(gb (bQ (dY hr) (ag 0) (cQ (dZ hr) (ag 1) (bb (bb (ag 2) aA) aA) rfl) (bT _))),(ag 0)⟩)) (ag 3) (bb (ag 5) aA))) fb)))) (aL (fR PassesOwn.never rfl (Eu rfl F.cD (ah aA (ah aA ak))) (cg 6 az) (aL (oA (gF (ah (bb (ag 3) (bV Fd (ag 6) aA)) (ah (bb (ag 4) (ag 6)) ak))) (oz rfl (f9 (cg 7 az) (f9 (cg 8 az) oh)))) (aM (mF (ck (N:=["_law_one","_law_ahead","_law_off"]) (nt:=1) (cap:=[7,8]) rfl (bW (by kernel_rfl)) (bS 0) (cU (bb (ag 3) (ag 6))) (λcl C s H ex pn=>⟨(bB (i:=0) R4 rfl (Or.inl rfl)),(gb (PW.pt (w_or (PW.pt (w_and (fj (ag 0)) (mf (bQ (oP hr) (ag 1) (kj ak) (bT _))))) (mz (fj (aF (Lh F tI) (hr.mono (by decide)) rfl tI.mg tI.fn.kp tI.b (ah (ag 1) (ah (ag 0) (ah (ag 2) ak))))))))),(ag 0)⟩)) (ag 3) (ag 6))))) (aL (fR PassesOwn.never rfl (N0 rfl F.cD (ah aA (ah (FW Ff aA) (ah (FW Ff aA) ak)))) (cg 6 az) (aM (mF (ck (N:=["_law_one","_law_rows","_law_free","_law_day"]) (nt:=1) (cap:=[3,4,6]) rfl (bW (by kernel_rfl)) (bS 0) (cU (bb (ag 3) (ag 6))) (λcl C s H ex pn=>⟨(bB (i:=0) R5 rfl (Or.inl rfl)),(gb (fj (aF (J3 F sX) (hr.mono (by decide)) rfl sX.mg sX.fn.kp sX.b (ah (bb (ag 1) (bV fm (ag 3) aA)) (ah (ag 0) (ah (bb (ag 2) (bV fm (ag 3) aA)) ak)))))),(ag 0)⟩)) (ag 3) (ag 6)))) (aM (bc (ck (N:=["_law_row"]) (nt:=1) (cap:=[]) rfl (bW (by kernel_rfl)) (bS 0) (cU (uh (ag 3))) (λcl C s H ex pn=>⟨(bB (i:=0) R6 rfl (Or.inl rfl)),dD,(gS iT rfl F.fP fQ (ah (ag 0) ak))⟩)))))))))
theorem ES:bt ["_law_script","_law_k","_law_state_here","_law_laid","_law_good","_law_mould","_law_mark","_law_life"] ["_law_script"] (aV (top 54)):=⟨rfl,rfl,rfl,by decide +kernel,rfl,by decide +kernel,by decide +kernel⟩
theorem Oe (F:bI K mg) {f:Addr} {fd:FuncData} (G:Gd K mg "law" (top 54) ["_law_script"] f fd):aS P w K mg base aY 11 f fd ["_law_script"] (bA K (uu w)):=by
 obtain⟨_,_,sY⟩:=F.JT
 obtain⟨_,_,kU⟩:=F.Lc
 obtain⟨_,_,tJ⟩:=F.Ld
 obtain⟨_,_,tZ⟩:=F.ME
 obtain⟨_,_,j5⟩:=F.BL
 obtain⟨_,_,sZ⟩:=F.JX
 obtain⟨_,_,aE⟩:=F.pT
 obtain⟨_,_,so⟩:=F.Hv
 obtain⟨_,_,sE⟩:=F.HL
 obtain⟨_,_,sQ⟩:=F.IW
 have az:=ES.nd
 exact bH (k:=10) G.fn ES λaX A outer s H E hr=>(aL (fR PassesOwn.never rfl (de rfl F.cD (ah (cE (Ew rfl) rfl F.ER Fn (ah aA (ah (cE (NP rfl) rfl F.Ob Pc (ah (cE oE rfl F.oq oF (ah (ag 0) ak)) (ah aA ak))) ak))) ak)) (cg 1 az) (aL (bU 2 az (aF (JZ F sY) (hr.mono (by decide)) rfl sY.mg sY.fn.kp sY.b (ah (ag 0) (ah (ag 1) ak)))) (aM (fR PassesOwn.never rfl (cU (kj (ah (aF (C4 F kU) (hr.mono (by decide)) rfl kU.mg kU.fn.kp kU.b (ah (ag 2) ak)) (ah (TK.N8 (c:=2) (by decide) (aF (C4 F kU) (hr.mono (by decide)) rfl kU.mg kU.fn.kp kU.b (ah (ag 2) ak))) (ah (F1 (aF (Lg F tJ) (hr.mono (by decide)) rfl tJ.mg tJ.fn.kp tJ.b (ah (ag 2) ak)) F0 (Fg aA)) ak))))) (cg 3 az) (aL (bU 4 az dQ) (aL (fR PassesOwn.never rfl (de rfl F.cD (ah aA ak)) (cg 5 az) (aM (fR PassesOwn.never rfl (de rfl F.cD (ah aA ak)) (cg 6 az) (aM (bU 4 az (dO (ag 4) (dg (cQ (ma hr) (gF ak) (aF (MF F tZ) (hr.mono (by decide)) rfl tZ.mg tZ.fn.kp tZ.b (ah (ag 3) (ah (ag 5) (ah (ag 6) ak)))) rfl)))))))) (aL (eT (bQ (oP hr) (kj (ah (aF (BR F j5) (hr.mono (by decide)) rfl j5.mg j5.fn.kp j5.b (ah (ag 3) ak)) (ah (cQ (dY hr) (aF (J2 F sZ) (hr.mono (by decide)) rfl sZ.mg sZ.fn.kp sZ.b (ah (ag 3) ak)) (kj ak) (bT _)) ak))) (kj (ah (ag 4) (ah (ag 4) ak))) (bT _)) (aM (bc dQ)) fb) (aM (eT (fj (ag 4)) (aL (bU 5 az (aF (dM F aE) (hr.mono (by decide)) rfl aE.mg aE.fn.kp aE.b (ah (ag 2) (ah aA ak)))) (aM (fR PassesOwn.never rfl (cU (kj (ah (aF (Hw F so) (hr.mono (by decide)) rfl so.mg so.fn.kp so.b (ah (ag 3) (ah (ag 5) ak))) (ah (aF (HR F sE) (hr.mono (by decide)) rfl sE.mg sE.fn.kp sE.b (ah (ag 3) (ah (ag 5) ak))) ak)))) (cg 7 az) (aM (eT (bQ NY (aF (I0 F sQ) (hr.mono (by decide)) rfl sQ.mg sQ.fn.kp sQ.b (ah (ag 3) (ah (ag 5) (ah (ag 7) ak)))) dQ (bT _)) (aM (bc dQ)) fb))))) fb))))))))) (aM (bc dQ)))
end
end DI.iQ
namespace DI
open PySem L2
def Wp {α:Type} (r:Res α) (Q:α->ae->Prop):Prop:=∃a s,r=some (.ok a,s)/\Q a s
section
variable {α β:Type} {r:Res α} {k:α->ae->Res β} {Q Q':α->ae->Prop} {R:β->ae->Prop} {env:Env} {s:ae}
theorem Wp.ok {a:α} (h:Q a s):Wp (DI.ok a s) Q:=⟨a,s,rfl,h⟩
theorem Wp.mono (h:Wp r Q) (i:∀a s,Q a s->Q' a s):Wp r Q':=by
 obtain⟨a,s,e,q⟩:=h
 exact⟨a,s,e,i a s q⟩
theorem Wp.ar (h:Wp r λa s=>Wp (k a s) R):Wp (DI.ar r k) R:=by
 obtain⟨a,s,e,b,s',e',q⟩:=h
 exact⟨b,s',by rw[e];exact e',q⟩
theorem Wp.ne (h:Wp r Q):Wp (DI.ne r) Q:=by
 obtain⟨a,s,e,q⟩:=h
 exact⟨a,s,by rw[e];rfl,q⟩
theorem Wp.of {a:α} (e:r=some (.ok a,s)) (h:Q a s):Wp r Q:=⟨a,s,e,h⟩
theorem Wp.seq {f g:Env->ae->Res Fl} {Q:Fl->ae->Prop} (h:Wp (f env s) λfl s=>match fl with
  | .nx env=>Wp (g env s) Q
  |fl=>Q fl s):Wp (ay f g env s) Q:=by
 obtain⟨fl,s',e,h⟩:=h
 unfold ay
 rw[e]
 cases fl with
 |nx env=>exact h
 |rt d=>exact⟨_,_,rfl,h⟩
 |bk e=>exact⟨_,_,rfl,h⟩
 |ct e=>exact⟨_,_,rfl,h⟩
theorem Wp.fX {g:D->Env->Option Env} {b:Env->ae->Res Fl} {Q:Fl->ae->Prop} (I:Nat->Env->ae->Prop) (all:List D) (h0:I 0 env s)
  (step:∀i d env s,all[i]?=some d->I i env s->∃aD,g d env=some aD/\Wp (b aD s) λfl s=>match fl with
   | .nx e=>I (i+1) e s
   | .ct e=>I (i+1) e s
   | .bk e=>Q (.nx e) s
   | .rt d=>Q (.rt d) s) (fin:∀env s,I all.length env s->Q (.nx env) s):Wp (jA g b all env s) Q:=by
 have key:∀(ds:List D) (i:Nat) (env:Env) (s:ae),all.drop i=ds->i<=all.length->I i env s->Wp (jA g b ds env s) Q:=by
  intro ds
  induction ds with
  |nil =>
   intro i env s hd hi h
   have e:i=all.length:=by
    have:=congrArg List.length hd
    simp at this
    omega
   subst e
   exact Wp.ok (fin _ _ h)
  |cons d ds ih =>
   intro i env s hd hi h
   have hx:all[i]?=some d:=by
    have:=congrArg (λl=>l[0]?) hd
    simpa using this
   have fG:all.drop (i+1)=ds:=by
    have:=congrArg (List.drop 1) hd
    simpa [List.drop_drop] using this
   obtain⟨aD,hg,hb⟩:=step i d env s hx h
   have bh:=(List.getElem?_eq_some_iff.mp hx).1
   unfold jA
   rw[hg]
   refine Wp.ar (hb.mono λfl s q=>?_)
   cases fl with
   |nx e=>exact ih (i+1) e s fG bh q
   |ct e=>exact ih (i+1) e s fG bh q
   |bk e=>exact Wp.ok q
   |rt d=>exact Wp.ok q
 exact key all 0 env s rfl (Nat.zero_le _) h0
theorem tK {nt:Nat} {caps:Env} {g:D->Env->Option Env} {t:Env->ae->Res Bool} {f:Env->ae->Res D} {Q:List D->ae->Prop} (I:Nat->List D->ae->Prop) (all:List D) (h0:I 0 [] s)
  (step:∀i d acc s,all[i]?=some d->I i acc s->∃env,g d (List.replicate nt none++caps)=some env/\Wp (t env s) λb s=>if b=true then Wp (f env s) λx s=>I (i+1) (acc++[x]) s else I (i+1) acc s)
  (fin:∀acc s,I all.length acc s->Q acc s):Wp (eO nt caps g t f all s) Q:=by
 have key:∀(ds:List D) (i:Nat) (acc:List D) (s:ae),all.drop i=ds->i<=all.length->I i acc s->Wp (eO nt caps g t f ds s) λxs s=>Q (acc++xs) s:=by
  intro ds
  induction ds with
  |nil =>
   intro i acc s hd hi h
   have e:i=all.length:=by
    have:=congrArg List.length hd
    simp at this
    omega
   subst e
   exact Wp.ok (by rw[List.append_nil];exact fin _ _ h)
  |cons d ds ih =>
   intro i acc s hd hi h
   have hx:all[i]?=some d:=by
    have:=congrArg (λl=>l[0]?) hd
    simpa using this
   have fG:all.drop (i+1)=ds:=by
    have:=congrArg (List.drop 1) hd
    simpa [List.drop_drop] using this
   obtain⟨aD,hg,hb⟩:=step i d acc s hx h
   have bh:=(List.getElem?_eq_some_iff.mp hx).1
   unfold eO
   rw[hg]
   refine Wp.ar (Wp.ne (hb.mono λb s q=>?_))
   cases b with
   |true =>
    rw[if_pos rfl] at q |-
    refine Wp.ar (Wp.ne (q.mono λx s q=>?_))
    refine Wp.ar ((ih (i+1) (acc++[x]) s fG bh q).mono λxs s q=>Wp.ok ?_)
    rw[List.append_assoc] at q
    exact q
   |false =>
    rw[if_neg Bool.false_ne_true] at q |-
    exact ih (i+1) acc s fG bh q
 have:=key all 0 [] s rfl (Nat.zero_le _) h0
 simpa using this
end
section
variable {α β:Type} {Q:D->ae->Prop} {QL:List D->ae->Prop} {QB:Bool->ae->Prop} {QF:Fl->ae->Prop} {QO:Option Int->ae->Prop} {env:Env} {s:ae} {f g h:Env->ae->Res D} {fa:Env->ae->Res (List D)} {c c':Env->ae->Res Bool} {st cX:Env->ae->Res Fl} {o o':D->D->ae->Res D} {u:D->ae->Res D} {bf:List D->ae->Res D}
theorem wp_ok {a:α} {Q:α->ae->Prop}:Wp (ok a s) Q=Q a s:=propext ⟨λ⟨b,s',e,q⟩=>by cases e;exact q,λq=>⟨a,s,rfl,q⟩⟩
theorem wp_ok' {a:α} {Q:α->ae->Prop}:Wp (some (Except.ok a,s)) Q=Q a s:=wp_ok
theorem bj {r:Res α} {k:α->ae->Res β} {R:β->ae->Prop}:Wp (ar r k) R=Wp r λa s=>Wp (k a s) R:=propext ⟨λ⟨b,s',e,q⟩=>by
 obtain⟨a,s,e1,e2⟩:=nX e
 exact⟨a,s,e1,b,s',e2,q⟩,λh=>Wp.ar h⟩
theorem wp_ne {r:Res α} {Q:α->ae->Prop}:Wp (ne r) Q=Wp r Q:=propext ⟨λ⟨b,s',e,q⟩=>⟨b,s',xg e,q⟩,λh=>h.ne⟩
theorem wp_loc0 {a:D} {r:Env}:Wp (aa 0 (some a::r) s) Q=Q a s:=by rw[show aa 0 (some a::r) s=ok a s from rfl,wp_ok]
theorem wp_locS {i:Nat} {a:Option D} {r:Env}:Wp (aa (i+1) (a::r) s) Q=Wp (aa i r s) Q:=by rw[show aa (i+1) (a::r) s=aa i r s from rfl]
theorem wp_C {d:D}:Wp (eC d env s) Q=Q d s:=by rw[show eC d env s=ok d s from rfl,wp_ok]
theorem wp_e1:Wp (e1 u f env s) Q=Wp (f env s) λx s=>Wp (u x s) Q:=by unfold e1;rw[bj]
theorem wp_e2:Wp (e2 o f g env s) Q=Wp (f env s) λx s=>Wp (g env s) λy s=>Wp (o x y s) Q:=by unfold e2;simp only[bj]
theorem wp_aNil:Wp (ai env s) QL=QL [] s:=by unfold ai;rw[wp_ok]
theorem wp_aCons:Wp (af f fa env s) QL=Wp (f env s) λx s=>Wp (fa env s) λxs s=>QL (x::xs) s:=by unfold af;simp only[bj,wp_ok]
theorem wp_eB:Wp (eB bf fa env s) Q=Wp (fa env s) λds s=>Wp (bf ds s) Q:=by unfold eB;rw[bj]
theorem wp_call {fn:List D->ae->Res D}:Wp (ax fn fa env s) Q=Wp (fa env s) λds s=>Wp (fn ds s) Q:=by unfold ax;simp only[bj,wp_ne]
theorem l8 {ds:List D} {r:Res α} {Q:α->ae->Prop}:Wp (gE ds r) Q=(ds.length<=sizeLine/\Wp r Q):=propext ⟨λ⟨b,s',e,q⟩=>by
 unfold gE at e
 split at e
 ·exact⟨by assumption,b,s',e,q⟩
 ·(cases e),λ⟨hl,b,s',e,q⟩=>⟨b,s',by unfold gE;rw[if_pos hl];exact e,q⟩⟩
theorem wp_tup:Wp (bZ fa env s) Q=Wp (fa env s) λds s=>ds.length<=sizeLine/\Q (.tup ds) s:=by unfold bZ;simp only[bj,l8,wp_ok]
theorem wp_lst:Wp (fy fa env s) Q=Wp (fa env s) λds s=>ds.length<=sizeLine/\Q (.lst ds) s:=by unfold fy;simp only[bj,l8,wp_ok]
theorem wp_new:Wp (eNew fa env s) Q=Wp (fa env s) λds s=>ds.length<=sizeLine/\Q (.aj s.length) (s++[.lst ds]):=by unfold eNew;simp only[bj,l8,wp_ok]
theorem wp_frz:Wp (jF f env s) Q=Wp (f env s) λd s=>Wp (cH d s) Q:=by unfold jF;rw[bj]
theorem wp_tBl:Wp (aH f env s) QB=Wp (f env s) λd s=>Wp (fc d s) QB:=by unfold aH;rw[bj]
theorem wp_isBl {b:Bool}:Wp (fc (.bl b) s) QB=QB b s:=by rw[show fc (.bl b) s=ok b s from rfl,wp_ok]
theorem wp_tru:Wp (dP f env s) QB=Wp (f env s) λd s=>Wp (truth d s) QB:=by unfold dP;rw[bj]
theorem wp_truB {b:Bool}:Wp (truth (.bl b) s) QB=QB b s:=by rw[show truth (.bl b) s=ok b s from rfl,wp_ok]
theorem wp_tAnd:Wp (cq c c' env s) QB=Wp (c env s) λb s=>if b=true then Wp (c' env s) QB else QB false s:=by
 unfold cq
 rw[bj]
 congr 1
 funext b s
 cases b<;>simp[wp_ok]
theorem wp_tOr:Wp (ik c c' env s) QB=Wp (c env s) λb s=>if b=true then QB true s else Wp (c' env s) QB:=by
 unfold ik
 rw[bj]
 congr 1
 funext b s
 cases b<;>simp[wp_ok]
theorem wp_tNot:Wp (fT c env s) QB=Wp (c env s) λb s=>QB (!b) s:=by unfold fT;simp only[bj,wp_ok]
theorem wp_eAnd:Wp (cv f g env s) Q=Wp (f env s) λx s=>Wp (fc x s) λb s=>if b=true then Wp (g env s) Q else Q (.bl false) s:=by
 unfold cv
 rw[bj]
 congr 1
 funext x s
 rw[bj]
 congr 1
 funext b s
 cases b<;>simp[wp_ok]
theorem wp_eOr:Wp (iq f g env s) Q=Wp (f env s) λx s=>Wp (fc x s) λb s=>if b=true then Q (.bl true) s else Wp (g env s) Q:=by
 unfold iq
 rw[bj]
 congr 1
 funext x s
 rw[bj]
 congr 1
 funext b s
 cases b<;>simp[wp_ok]
theorem wp_eNot:Wp (lu f env s) Q=Wp (f env s) λx s=>Wp (fc x s) λb s=>Q (.bl (!b)) s:=by unfold lu;simp only[bj,wp_ok]
theorem wp_eIf:Wp (GG c f g env s) Q=Wp (c env s) λb s=>if b=true then Wp (f env s) Q else Wp (g env s) Q:=by
 unfold GG
 rw[bj]
 congr 1
 funext b s
 cases b<;>simp
theorem wp_eCh:Wp (rH o o' f g h env s) Q=Wp (f env s) λx s=>Wp (g env s) λy s=>Wp (o x y s) λz s=>Wp (fc z s) λb s=>if b=true then Wp (h env s) λu s=>Wp (o' y u s) Q else Q (.bl false) s:=by
 unfold rH
 simp only[bj]
 congr 1
 funext x s
 congr 1
 funext y s
 congr 1
 funext z s
 congr 1
 funext b s
 cases b<;>simp[wp_ok,bj]
theorem wp_sNil:Wp (cu env s) QF=QF (.nx env) s:=by unfold cu;rw[wp_ok]
theorem wp_sRet:Wp (aQ f env s) QF=Wp (f env s) λd s=>QF (.rt d) s:=by unfold aQ;simp only[bj,wp_ok]
theorem wp_sExpr:Wp (eG f env s) QF=Wp (f env s) λ_ s=>QF (.nx env) s:=by unfold eG;simp only[bj,wp_ok]
theorem wp_sCont:Wp (Fc env s) QF=QF (.ct env) s:=by unfold Fc;rw[wp_ok]
noncomputable def nE (st:Env->ae->Res Fl) (Q:Fl->ae->Prop):Fl->ae->Prop:=λfl s=>match fl with
 | .nx env=>Wp (st env s) Q
 |fl=>Q fl s
theorem wp_sSeq:Wp (ay st cX env s) QF=Wp (st env s) (nE cX QF):=propext ⟨λh=>by
 unfold ay at h
 rw[bj] at h
 refine h.mono λfl s q=>?_
 cases fl with
 |nx e=>exact q
 |rt d=>have q:Wp (ok (Fl.rt d) s) QF:=q;rw[wp_ok] at q;exact q
 |bk d=>have q:Wp (ok (Fl.bk d) s) QF:=q;rw[wp_ok] at q;exact q
 |ct d=>have q:Wp (ok (Fl.ct d) s) QF:=q;rw[wp_ok] at q;exact q,λh=>Wp.seq (h.mono λfl s q=>by cases fl<;>exact q)⟩
theorem Wp.step (h:∀R,R=cX->Wp (st env s) (nE R QF)):Wp (ay st cX env s) QF:=by rw[wp_sSeq];exact h _ rfl
theorem aft_nx:nE st QF (.nx env) s=Wp (st env s) QF:=rfl
theorem aft_rt {d:D}:nE st QF (.rt d) s=QF (.rt d) s:=rfl
theorem aft_ct:nE st QF (.ct env) s=QF (.ct env) s:=rfl
theorem wp_sIf:Wp (bX c st cX env s) QF=Wp (c env s) λb s=>if b=true then Wp (st env s) QF else Wp (cX env s) QF:=by
 unfold bX
 rw[bj]
 congr 1
 funext b s
 cases b<;>simp
theorem wp_sAsg {gd:D->Env->Option Env}:Wp (aO f gd env s) QF=Wp (f env s) λd s=>∃e,gd d env=some e/\QF (.nx e) s:=by
 unfold aO
 rw[bj]
 congr 1
 funext d s
 cases h:gd d env with
 |none=>exact propext ⟨λ⟨_,_,e,_⟩=>(by cases e),λ⟨_,e,_⟩=>(by cases e)⟩
 |some e=>rw[wp_ok];exact propext ⟨λq=>⟨e,rfl,q⟩,λ⟨e',z,q⟩=>by cases z;exact q⟩
theorem asg_N {i:Nat} {d:D} {P:Env->Prop}:(∃e,gN i d env=some e/\P e)=P (env.set i (some d)):=propext ⟨λ⟨e,z,q⟩=>by cases z;exact q,λq=>⟨_,rfl,q⟩⟩
theorem asg_T {gs:List (D->Env->Option Env)} {ds:List D} {P:Env->Prop}:(∃e,gT gs (.tup ds) env=some e/\P e)=∃e,fU gs ds env=some e/\P e:=rfl
theorem asg_nil {P:Env->Prop}:(∃e,fU [] [] env=some e/\P e)=P env:=propext ⟨λ⟨e,z,q⟩=>by cases z;exact q,λq=>⟨_,rfl,q⟩⟩
theorem asg_cons {i:Nat} {gs:List (D->Env->Option Env)} {d:D} {ds:List D} {P:Env->Prop}:(∃e,fU (gN i::gs) (d::ds) env=some e/\P e)=∃e,fU gs ds (env.set i (some d))=some e/\P e:=rfl
theorem wp_par2 {i j:Nat}:Wp (qK i j fa env s) QF=Wp (fa env s) λds s=>∃x y,ds=[x,y]/\QF (.nx ((env.set i (some x)).set j (some y))) s:=by
 unfold qK
 rw[bj]
 congr 1
 funext ds s
 match ds with
 | [x,y] =>
  show Wp (ok (Fl.nx ((env.set i (some x)).set j (some y))) s) QF=_
  rw[wp_ok]
  exact propext ⟨λq=>⟨x,y,rfl,q⟩,λ⟨x',y',e,q⟩=>by cases e;exact q⟩
 | []=>exact propext ⟨λ⟨_,_,e,_⟩=>(by cases e),λ⟨_,_,e,_⟩=>(by cases e)⟩
 | [_]=>exact propext ⟨λ⟨_,_,e,_⟩=>(by cases e),λ⟨_,_,e,_⟩=>(by cases e)⟩
 |_::_::_::_=>exact propext ⟨λ⟨_,_,e,_⟩=>(by cases e),λ⟨_,_,e,_⟩=>(by cases e)⟩
theorem par_of {x y:D} {P:D->D->Prop}:(∃x' y',[x,y]=[x',y']/\P x' y')=P x y:=propext ⟨λ⟨_,_,e,q⟩=>by cases e;exact q,λq=>⟨x,y,rfl,q⟩⟩
theorem wp_sFor {it:Env->ae->Res (List D)} {gd:D->Env->Option Env}:Wp (cw it gd st env s) QF=Wp (it env s) λds s=>Wp (jA gd st ds env s) QF:=by unfold cw;rw[bj]
theorem wp_sSub {fo fi:Env->ae->Res D}:Wp (fV f fo fi env s) QF=Wp (f env s) λx s=>Wp (fo env s) λd s=>Wp (fi env s) λn s=>∃s',gg d n x s=some s'/\QF (.nx env) s':=by
 unfold fV
 simp only[bj]
 congr 1
 funext x s
 congr 1
 funext d s
 congr 1
 funext n s
 cases h:gg d n x s with
 |none=>exact propext ⟨λ⟨_,_,e,_⟩=>(by cases e),λ⟨_,e,_⟩=>(by cases e)⟩
 |some e=>simp only[wp_ok];exact propext ⟨λq=>⟨e,rfl,q⟩,λ⟨e',z,q⟩=>by cases z;exact q⟩
theorem wp_app:Wp (gL f g env s) Q=Wp (f env s) λd s=>hZ d s=true/\Wp (g env s) λx s=>Wp (iG d x s) Q:=by
 unfold gL
 rw[bj]
 congr 1
 funext d s
 cases h:hZ d s with
 |true=>rw[if_pos rfl,bj];simp
 |false=>rw[if_neg Bool.false_ne_true];exact propext ⟨λ⟨_,_,e,_⟩=>(by cases e),λ⟨e,_⟩=>(by cases e)⟩
noncomputable def qO (Q:D->ae->Prop):Fl->ae->Prop:=λfl s=>match fl with
 | .rt d=>Q d s
 | .nx _=>Q .aB s
 |_=>False
theorem wp_fn {np ns:Nat} {ds:List D}:Wp (aZ np ns st ds s) Q=(ds.length=np/\Wp (st (ds.map some++List.replicate (ns-np) none) s) (qO Q)):=by
 unfold aZ
 by_cases h:ds.length=np
 ·rw[if_pos h,bj]
  refine propext ⟨λq=>⟨h,q.mono λfl s q=>?_⟩,λ⟨_,q⟩=>q.mono λfl s q=>?_⟩
  ·cases fl with
   |rt d=>exact(show Wp (ok d s) Q from q) |> λz=>by rw[wp_ok] at z;exact z
   |nx e=>exact(show Wp (ok D.aB s) Q from q) |> λz=>by rw[wp_ok] at z;exact z
   |bk e=>obtain⟨_,_,e,_⟩:=q;cases e
   |ct e=>obtain⟨_,_,e,_⟩:=q;cases e
  ·cases fl with
   |rt d=>exact Wp.ok q
   |nx e=>exact Wp.ok q
   |bk e=>exact q.elim
   |ct e=>exact q.elim
 ·rw[if_neg h]
  exact propext ⟨λ⟨_,_,e,_⟩=>(by cases e),λ⟨e,_⟩=>absurd e h⟩
theorem fin_rt {d:D}:qO Q (.rt d) s=Q d s:=rfl
theorem fin_nx:qO Q (.nx env) s=Q .aB s:=rfl
theorem wp_comp {nt:Nat} {cap:List Nat} {it:Env->ae->Res (List D)} {gd:D->Env->Option Env}:Wp (ba nt cap it gd c f env s) Q=Wp (it env s) λds s=>ds.length<=sizeLine/\Wp (eO nt (fk cap env) gd c f ds s) λxs s=>Q (.lst xs) s:=by
 unfold ba;simp only[bj,l8,wp_ok]
theorem wp_sl {l' h':Env->ae->Res (Option Int)}:Wp (nr f l' h' env s) Q=Wp (f env s) λd s=>Wp (l' env s) λlo s=>Wp (h' env s) λhi s=>Wp (mi d lo hi s) Q:=by unfold nr;simp only[bj]
theorem wp_pNo:Wp (nq env s) QO=QO none s:=by unfold nq;rw[wp_ok]
theorem xk {i:Int} (hi:f env s=ok (.int i) s):Wp (mR f env s) QO=QO (some i) s:=by unfold mR;rw[hi,eM,wp_ok]
end
end DI
namespace DI
open PySem L2
def bo (s:ae) (k:Nat):Prop:=∃a b:Int,s[k]?=some (.lst [.int a,.int b])/\0<=a/\0<=b/\b<2147483647
structure Ex (k:Nat) (s s':ae):Prop where
 len:s.length<=s'.length
 val:∀j,j<s.length->j≠k->s'[j]?=s[j]?
theorem Ex.refl (k:Nat) (s:ae):Ex k s s:=⟨Nat.le_refl _,λ_ _ _=>rfl⟩
theorem Ex.trans {k:Nat} {a b c:ae} (h:Ex k a b) (g:Ex k b c):Ex k a c:=⟨Nat.le_trans h.len g.len,λj hj hk=>(g.val j (Nat.lt_of_lt_of_le hj h.len) hk).trans (h.val j hj hk)⟩
theorem Ex.set (k:Nat) (s:ae) (c:Cell):Ex k s (s.set k c):=⟨by simp,λj _ hj=>List.getElem?_set_ne (Ne.symm hj)⟩
theorem Ex.app (k:Nat) (s:ae) (c:List Cell):Ex k s (s++c):=⟨by simp,λj hj _=>List.getElem?_append_left hj⟩
theorem bo.lt {s:ae} {k:Nat} (h:bo s k):k<s.length:=by
 obtain⟨a,b,e,_⟩:=h
 exact(List.getElem?_eq_some_iff.mp e).1
theorem bo.app {s:ae} {k:Nat} (h:bo s k) (c:List Cell):bo (s++c) k:=by
 obtain⟨a,b,e,r⟩:=h
 exact⟨a,b,by rw[List.getElem?_append_left (List.getElem?_eq_some_iff.mp e).1];exact e,r⟩
theorem bo.set {s:ae} {k j:Nat} (h:bo s k) (hj:j≠k) (c:Cell):bo (s.set j c) k:=by
 obtain⟨a,b,e,r⟩:=h
 exact⟨a,b,by rw[List.getElem?_set_ne hj];exact e,r⟩
theorem Af (x y:D) (k:Nat) (s:ae) (h:s[k]?=some (.lst [x,y])):aw (.aj k) (.int 0) s=ok x s:=by
 simp[aw,iP,res,h,dG,fe,bG]
theorem Ag (x y:D) (k:Nat) (s:ae) (h:s[k]?=some (.lst [x,y])):aw (.aj k) (.int 1) s=ok y s:=by
 simp[aw,iP,res,h,dG,fe,bG]
theorem F5 (x y z:D) (k:Nat) (s:ae) (h:s[k]?=some (.lst [x,y])):gg (.aj k) (.int 0) z s=some (s.set k (.lst [z,y])):=by
 simp[gg,h,fe]
theorem F6 (x y z:D) (k:Nat) (s:ae) (h:s[k]?=some (.lst [x,y])):gg (.aj k) (.int 1) z s=some (s.set k (.lst [x,z])):=by
 simp[gg,h,fe]
@[simp] theorem ot {a:D} {r:Env} {s:ae}:aa 0 (some a::r) s=ok a s:=rfl
@[simp] theorem ou {i:Nat} {a:Option D} {r:Env} {s:ae}:aa (i+1) (a::r) s=aa i r s:=rfl
theorem ltI (i j:Int) (s:ae):jI (.int i) (.int j) s=ok (.bl (decide (i<j))) s:=rfl
theorem Ah (i j:Int) (s:ae):uN (.int i) (.int j) s=ok (.bl (decide (j<i))) s:=rfl
theorem R7 (i j:Int) (s:ae):uO (.int i) (.int j) s=ok (.bl (decide (j<=i))) s:=rfl
theorem R8 (i j:Int) (s:ae):qJ (.int i) (.int j) s=ok (.bl (decide (i<=j))) s:=rfl
theorem yT (i j:Int) (s:ae):cM (.int i) (.int j) s=ok (.int (i+j)) s:=rfl
theorem F7 (i j:Int) (s:ae):qr (.int i) (.int j) s=ok (.int (i-j)) s:=rfl
theorem GX (i j:Int) (s:ae):aT (.int i) (.int j) s=ok (.bl (i==j)) s:=rfl
theorem R9 (i j:Int) (s:ae):gK (.int i) (.int j) s=ok (.bl (!(i==j))) s:=rfl
theorem oT {i j:Int} (s:ae) (h:0<j):km (.int i) (.int j) s=ok (.int (i % j)) s:=by
 simp[km,yM,h,bG]
theorem F8 {i j:Int} (s:ae) (h:0<j) (h2:j<1073741824):qu (.int i) (.int j) s=ok (.int (i / j)) s:=by
 simp[qu,yN,h,h2,bG]
theorem qP {i j:Int} (s:ae) (h:qt i j=true):gY (.int i) (.int j) s=ok (.int (i*j)) s:=by
 simp[gY,yL,h,bG]
theorem mulOk_of {i j:Int} (h1:-(2 ^ 64)<i) (h2:i<2 ^ 64):qt i j=true:=by
 unfold qt
 rw[decide_eq_true h1,decide_eq_true h2]
 rfl
theorem dN {s:ae} {k:Nat} {m:Int} (h:bo s k) (h1:0<m) (h2:m<1073741824):Wp (bu [.aj k,.int m] s) λd s'=>∃r:Int,d=.int r/\0<=r/\r<m/\bo s' k/\Ex k s s':=by
 obtain⟨a,b,e,ha,hb,nC⟩:=h
 have hk:=(List.getElem?_eq_some_iff.mp e).1
 by_cases h0:0<a
 ·have es:(s.set k (.lst [.int (a / m),.int b]))[k]?=some (.lst [.int (a / m),.int b]):=List.getElem?_set_self hk
  refine⟨.int (a % m),s.set k (.lst [.int (a / m),.int b]),?_,a % m,rfl,Int.emod_nonneg _ (by omega),Int.emod_lt_of_pos _ h1,⟨a / m,b,es,Int.ediv_nonneg ha (by omega),hb,nC⟩,Ex.set _ _ _⟩
  simp only[bu,aZ,ay,bX,aH,e2,ot,ou,eC,eM,List.map_cons,List.map_nil,List.cons_append,List.nil_append,Af _ _ k s e,Ah,fc,List.length_cons,List.length_nil,decide_eq_true h0,if_true,aO,gN,oT s h1,fV,F8 s h1 h2,F5 _ _ _ k s e,aQ,List.set_cons_succ,List.set_cons_zero,List.replicate]
 ·have hn:decide (0<a)=false:=decide_eq_false h0
  have ex:0<=(b*48271+29) % 2147483647/\(b*48271+29) % 2147483647<2147483647:=⟨Int.emod_nonneg _ (by decide),Int.emod_lt_of_pos _ (by decide)⟩
  generalize hx:(b*48271+29) % 2147483647=x at ex
  have es:(s.set k (.lst [.int a,.int x]))[k]?=some (.lst [.int a,.int x]):=List.getElem?_set_self hk
  generalize hy:(x*x+39373*x+7) % 2147483629=y
  have ey:0<=y/\y<2147483629:=by rw[<- hy];exact⟨Int.emod_nonneg _ (by decide),Int.emod_lt_of_pos _ (by decide)⟩
  generalize hz:(y*y+16807*y) % 2147483587=z
  refine⟨.int (z / 8 % m),s.set k (.lst [.int a,.int x]),?_,_,rfl,Int.emod_nonneg _ (by omega),Int.emod_lt_of_pos _ h1,⟨a,x,es,ha,ex.1,ex.2⟩,Ex.set _ _ _⟩
  have m1:gY (.int b) (.int 48271) s=ok (.int (b*48271)) s:=qP s (mulOk_of (by omega) (by omega))
  have m2:∀s',gY (.int x) (.int x) s'=ok (.int (x*x)) s':=λs'=>qP s' (mulOk_of (by omega) (by omega))
  have m3:∀s',gY (.int 39373) (.int x) s'=ok (.int (39373*x)) s':=λs'=>qP s' (mulOk_of (by decide) (by decide))
  have m4:∀s',gY (.int y) (.int y) s'=ok (.int (y*y)) s':=λs'=>qP s' (mulOk_of (by omega) (by omega))
  have m5:∀s',gY (.int 16807) (.int y) s'=ok (.int (16807*y)) s':=λs'=>qP s' (mulOk_of (by decide) (by decide))
  simp only[bu,aZ,ay,bX,aH,e2,ot,ou,eC,eM,List.map_cons,List.map_nil,List.cons_append,List.nil_append,Af _ _ k s e,Ag _ _ k s e,Ah,fc,List.length_cons,List.length_nil,hn,Bool.false_eq_true,if_false,if_true,cu,fV,m1,yT,oT _ (show (0:Int)<2147483647 by decide),hx,F6 _ _ _ k s e,aO,gN,Ag _ _ k _ es,m2,m3,
   oT _ (show (0:Int)<2147483629 by decide),hy,List.set_cons_succ,List.set_cons_zero,List.replicate,m4,m5,oT _ (show (0:Int)<2147483587 by decide),hz,aQ,F8 _ (show (0:Int)<8 by decide) (by decide),oT _ h1]
theorem le_size {n:Nat} (h:n<=1000000):n<=sizeLine:=Nat.le_trans h (by decide)
theorem wH {j:Int} (h1:-1000000<=j) (h2:j<=1000000):iB j=true:=by
 unfold iB
 rw[decide_eq_true (show -(2 ^ 62)<=j by omega),decide_eq_true (show j<2 ^ 62 by omega)]
 rfl
theorem Li {α:Type} {ds:List D} {r:Res α} (h:ds.length<=1000000):gE ds r=r:=if_pos (le_size h)
theorem DP {α β:Type} (f:α->β) (xs:List α) (i:Int):dG (xs.map f) i=(dG xs i).map f:=by
 unfold dG
 rw[List.length_map]
 cases fe xs.length i with
 |none=>rfl
 |some j=>simp
theorem mv {α:Type} {xs:List α} {i:Int} (h0:0<=i) (h1:i<xs.length):∃x,dG xs i=some x/\xs[i.toNat]?=some x:=by
 have hj:i.toNat<xs.length:=by omega
 refine⟨xs[i.toNat],?_,List.getElem?_eq_getElem hj⟩
 unfold dG fe
 rw[if_pos h0,if_pos h1]
 exact List.getElem?_eq_getElem hj
theorem MG {ns:List Int} {i:Int} {s:ae} (h0:0<=i):∃c:Int,pI [.bF ns,.int i] s=ok (.int c) s:=by
 by_cases h:i<(ns.length:Int)
 ·obtain⟨x,h1,_⟩:=mv h0 h
  refine⟨x,?_⟩
  have hx:aw (.bF ns) (.int i) s=ok (.int x) s:=by simp[aw,iP,res,h1,bG]
  simp only[pI,aZ,ay,bX,aH,e2,eB,af,ai,fB,uP,res,bG,ot,ou,eC,eM,List.map_cons,List.map_nil,List.cons_append,List.nil_append,List.length_cons,List.length_nil,if_true,ltI,fc,decide_eq_true h,aQ,hx,List.replicate]
 ·refine⟨0,?_⟩
  simp only[pI,aZ,ay,bX,aH,e2,eB,af,ai,fB,uP,res,bG,ot,ou,eC,eM,List.map_cons,List.map_nil,List.cons_append,List.nil_append,List.length_cons,List.length_nil,if_true,ltI,fc,decide_eq_false h,Bool.false_eq_true,if_false,cu,aQ,List.replicate]
theorem Lj {ns:List Int} {i:Int} {s:ae} (h0:0<=i):Wp (sS [.bF ns,.int i] s) λd s'=>d=.aj s.length/\bo s' s.length/\∃c,s'=s++[c]:=by
 obtain⟨c,hc⟩:=MG (ns:=ns) (s:=s) h0
 have hp:∀s,ui (.int 10) (.int 18) s=ok (.int (10 ^ 18)) s:=λs=>by
  have e:yO (.int 10) (.int 18)=some (.int (10 ^ 18)):=by
   show (if (decide ((0:Int)<=18)&&decide ((18:Int)<=1000000)&&decide ((10:Int).natAbs<2 ^ 64))=true then some (D.int (10 ^ (18:Int).toNat)) else none)=_
   rw[if_pos (by decide)]
   rfl
  simp only[ui,e,bG]
 refine⟨.aj s.length,s++[.lst [.int (if c-10 ^ 18 > 0 then c-10 ^ 18 else 0),.int (c % 2147483647)]],?_,rfl,⟨_,_,by simp;exact⟨rfl,rfl⟩,?_,Int.emod_nonneg _ (by decide),Int.emod_lt_of_pos _ (by decide)⟩,_,rfl⟩
 ·simp only[sS,aZ,ay,aO,ax,af,ai,ot,ou,eC,eM,List.map_cons,List.map_nil,List.cons_append,List.nil_append,List.length_cons,List.length_nil,if_true,hc,lp,gN,List.set_cons_succ,List.set_cons_zero,List.replicate,aQ,eNew,eB,mC,e2,hp,F7,oT _ (show (0:Int)<2147483647 by decide)]
  rw[Li (by simp)]
  rfl
 ·split<;>omega
structure cJ (m:Nat) (ns:List Int):Prop where
 lo:∀x∈ns,0<=x/\x<m
 up:ns.Pairwise (· < ·)
noncomputable abbrev mD (ns:List Int):D:=.tup (ns.map D.int)
theorem cJ.len {m:Nat} {ns:List Int} (h:cJ m ns):ns.length<=m:=by
 have key:∀(l:List Int) (b:Int),l.Pairwise (· < ·)->(∀x∈l,b<=x/\x<m)->(l.length:Int)<=m-b\/l=[]:=by
  intro l
  induction l with
  |nil=>intro b _ _;exact .inr rfl
  |cons x l ih =>
   intro b hp hb
   obtain⟨h1,h2⟩:=List.pairwise_cons.mp hp
   have hx:=hb x List.mem_cons_self
   left
   rcases ih (x+1) h2 (λy hy=>⟨by have:=h1 y hy;omega,(hb y (List.mem_cons_of_mem _ hy)).2⟩) with h|h
   ·rw[List.length_cons];omega
   ·subst h
    simp
    omega
 rcases key ns 0 h.up h.lo with h'|h'
 ·omega
 ·subst h';simp
theorem J4 {s1:ae} {k n:Nat} {w:Int} (h1:bo s1 k) (w0:0<=w) (w1:w<4):Wp (eO 1 (fk [0,2] [some (.aj k),some (.int n),some (.int (1+w))]) (gN 0) (aH (e2 aT (ax bu (af (aa 1) (af (e2 cM (aa 2) (eC (.int 1))) ai))) (eC (.int 0)))) (aa 0) (bR 0 n) s1)
   λxs s'=>∃ns,xs=ns.map D.int/\cJ n ns/\bo s' k/\Ex k s1 s':=by
 refine tK (λi acc s'=>∃ns:List Int,acc=ns.map D.int/\cJ i ns/\bo s' k/\Ex k s1 s') (bR 0 n) ⟨[],rfl,⟨by simp,.nil⟩,h1,Ex.refl _ _⟩ (λi d acc s' hd hI=>?_) λacc s' hI=>?_
 ·obtain⟨ns,rfl,hm,h2,x2⟩:=hI
  rw[gB] at hd
  split at hd
  ·cases hd
   refine⟨[some (.int (0+i)),some (.aj k),some (.int (1+w))],rfl,?_⟩
   have ht:=dN h2 (m:=1+w+1) (by omega) (by omega)
   obtain⟨d,s3,e3,r,rfl,r0,r1,h3,x3⟩:=ht
   have hb:aH (e2 aT (ax bu (af (aa 1) (af (e2 cM (aa 2) (eC (.int 1))) ai))) (eC (.int 0))) [some (.int (0+(i:Int))),some (.aj k),some (.int (1+w))] s'=ok (r==0) s3:=by
    simp only[aH,e2,ax,af,ai,ot,ou,eC,eM,yT,e3,lp,GX,fc]
   refine Wp.of hb ?_
   split
   ·refine Wp.ok ⟨ns++[0+(i:Int)],by simp,⟨λx hx=>?_,?_⟩,h3,x2.trans x3⟩
    ·rcases List.mem_append.mp hx with hx|hx
     ·have:=hm.lo x hx;omega
     ·rw[List.mem_singleton.mp hx];omega
    ·refine List.pairwise_append.mpr ⟨hm.up,by simp,λx hx y hy=>?_⟩
     rw[List.mem_singleton.mp hy]
     have:=hm.lo x hx;omega
   ·exact⟨ns,rfl,⟨λx hx=>by have:=hm.lo x hx;omega,hm.up⟩,h3,x2.trans x3⟩
  ·cases hd
 ·rw[cZ] at hI
  exact hI
theorem ei {fa:Env->ae->Res (List D)} {env:Env} {s s1:ae} {n:Nat} (h:fa env s=ok [.int n] s1) (hn:n<=1000000):bE fa env s=ok (bR 0 n) s1:=by
 unfold bE
 rw[h,eM]
 show (if iB (n:Int)=true then ok (bR 0 (n:Int).toNat) s1 else none)=_
 rw[if_pos (wH (by omega) (by omega)),Int.toNat_natCast]
theorem tL {fa:Env->ae->Res (List D)} {env:Env} {s s1:ae} {n:Nat} {i:Int} (h:fa env s=ok [.int i] s1) (hi:i=n) (hn:n<=1000000):bE fa env s=ok (bR 0 n) s1:=by
 subst hi
 exact ei h hn
theorem ET {fa:Env->ae->Res (List D)} {env:Env} {s s1:ae} {i j:Int} (h:fa env s=ok [.int i,.int j] s1) (h1:-1000000<=i) (h2:i<=1000000) (h3:-1000000<=j) (h4:j<=1000000):rK fa env s=ok (bR i (j-i).toNat) s1:=by
 unfold rK
 rw[h,eM]
 show (if (iB i&&iB j)=true then ok (bR i (j-i).toNat) s1 else none)=_
 rw[if_pos (by rw[wH h1 h2,wH h3 h4];rfl)]
theorem wp_ltI {i j:Int} {s:ae} {Q:D->ae->Prop}:Wp (jI (.int i) (.int j) s) Q=Q (.bl (decide (i<j))) s:=by rw[ltI,wp_ok]
theorem wp_gtI {i j:Int} {s:ae} {Q:D->ae->Prop}:Wp (uN (.int i) (.int j) s) Q=Q (.bl (decide (j<i))) s:=by rw[Ah,wp_ok]
theorem wp_geI {i j:Int} {s:ae} {Q:D->ae->Prop}:Wp (uO (.int i) (.int j) s) Q=Q (.bl (decide (j<=i))) s:=by rw[R7,wp_ok]
theorem wp_leI {i j:Int} {s:ae} {Q:D->ae->Prop}:Wp (qJ (.int i) (.int j) s) Q=Q (.bl (decide (i<=j))) s:=by rw[R8,wp_ok]
theorem wp_addI {i j:Int} {s:ae} {Q:D->ae->Prop}:Wp (cM (.int i) (.int j) s) Q=Q (.int (i+j)) s:=by rw[yT,wp_ok]
theorem wp_subI {i j:Int} {s:ae} {Q:D->ae->Prop}:Wp (qr (.int i) (.int j) s) Q=Q (.int (i-j)) s:=by rw[F7,wp_ok]
theorem wp_eqI {i j:Int} {s:ae} {Q:D->ae->Prop}:Wp (aT (.int i) (.int j) s) Q=Q (.bl (i==j)) s:=by rw[GX,wp_ok]
theorem wp_neI {i j:Int} {s:ae} {Q:D->ae->Prop}:Wp (gK (.int i) (.int j) s) Q=Q (.bl (!(i==j))) s:=by rw[R9,wp_ok]
theorem C7 {s:ae} {k n:Nat} (h:bo s k) (hn:n<=8):Wp (kR [.aj k,.int n] s) λd s'=>∃ns,d=mD ns/\cJ n ns/\bo s' k/\Ex k s s':=by
 unfold kR
 simp only[wp_ok,wp_ok',wp_ne,wp_loc0,wp_locS,wp_C,wp_e1,wp_e2,wp_aNil,wp_aCons,wp_eB,wp_call,wp_tup,wp_lst,wp_new,wp_frz,wp_tBl,wp_isBl,wp_tru,wp_truB,wp_tAnd,wp_tOr,wp_tNot,wp_eAnd,wp_eOr,wp_eNot,wp_eIf,wp_eCh,wp_sNil,wp_sRet,wp_sExpr,wp_sCont,wp_sSeq,aft_nx,aft_rt,aft_ct,wp_sIf,wp_sAsg,asg_N,asg_T,asg_nil,asg_cons,wp_par2,par_of,wp_sFor,wp_sSub,wp_app,wp_fn,fin_rt,fin_nx,wp_comp,wp_sl,wp_pNo,List.map_cons,List.map_nil,List.cons_append,List.nil_append,List.length_cons,List.length_nil,List.set_cons_succ,List.set_cons_zero,List.replicate,true_and,Nat.reduceSub,Nat.reduceAdd,wp_ltI,wp_gtI,wp_geI,wp_leI,wp_addI,wp_subI,wp_eqI,wp_neI]
 refine(dN h (by decide) (by decide)).mono λd s1 hd=>?_
 obtain⟨w,rfl,w0,w1,h1,x1⟩:=hd
 simp only[wp_ok,wp_ok',wp_ne,wp_loc0,wp_locS,wp_C,wp_e1,wp_e2,wp_aNil,wp_aCons,wp_eB,wp_call,wp_tup,wp_lst,wp_new,wp_frz,wp_tBl,wp_isBl,wp_tru,wp_truB,wp_tAnd,wp_tOr,wp_tNot,wp_eAnd,wp_eOr,wp_eNot,wp_eIf,wp_eCh,wp_sNil,wp_sRet,wp_sExpr,wp_sCont,wp_sSeq,aft_nx,aft_rt,aft_ct,wp_sIf,wp_sAsg,asg_N,asg_T,asg_nil,asg_cons,wp_par2,par_of,wp_sFor,wp_sSub,wp_app,wp_fn,fin_rt,fin_nx,wp_comp,wp_sl,wp_pNo,List.map_cons,List.map_nil,List.cons_append,List.nil_append,List.length_cons,List.length_nil,List.set_cons_succ,List.set_cons_zero,List.replicate,true_and,Nat.reduceSub,Nat.reduceAdd,wp_ltI,wp_gtI,wp_geI,wp_leI,wp_addI,wp_subI,wp_eqI,wp_neI]
 refine Wp.of (ei rfl (by omega)) ⟨by rw[cZ];exact le_size (by omega),(J4 h1 w0 w1).mono λxs s2 hx=>?_⟩
 obtain⟨ns,rfl,hm,h2,x2⟩:=hx
 exact Wp.of rfl ⟨ns,rfl,hm,h2,x1.trans x2⟩
end DI
local macro_rules | `(tactic| simp only[VC])=>`(tactic| simp only[DI.wp_ok,DI.wp_ok',DI.wp_ne,DI.wp_loc0,DI.wp_locS,DI.wp_C,DI.wp_e1,DI.wp_e2,DI.wp_aNil,DI.wp_aCons,DI.wp_eB,DI.wp_call,DI.wp_tup,DI.wp_lst,DI.wp_new,DI.wp_frz,DI.wp_tBl,DI.wp_isBl,DI.wp_tru,DI.wp_truB,DI.wp_tAnd,DI.wp_tOr,DI.wp_tNot,DI.wp_eAnd,DI.wp_eOr,DI.wp_eNot,DI.wp_eIf,DI.wp_eCh,DI.wp_sNil,DI.wp_sRet,DI.wp_sExpr,DI.wp_sCont,DI.wp_sSeq,DI.aft_nx,DI.aft_rt,DI.aft_ct,DI.wp_sIf,DI.wp_sAsg,DI.asg_N,DI.asg_T,DI.asg_nil,DI.asg_cons,DI.wp_par2,DI.par_of,DI.wp_sFor,DI.wp_sSub,DI.wp_app,DI.wp_fn,DI.fin_rt,DI.fin_nx,DI.wp_comp,DI.wp_sl,DI.wp_pNo,List.map_cons,List.map_nil,List.cons_append,List.nil_append,List.length_cons,List.length_nil,List.set_cons_succ,List.set_cons_zero,List.replicate,true_and,Nat.reduceSub,Nat.reduceAdd,DI.wp_ltI,DI.wp_gtI,DI.wp_geI,DI.wp_leI,DI.wp_addI,DI.wp_subI,DI.wp_eqI,DI.wp_neI])
local macro_rules | `(tactic| simp only[VC,$xs,*])=>`(tactic| simp only[DI.wp_ok,DI.wp_ok',DI.wp_ne,DI.wp_loc0,DI.wp_locS,DI.wp_C,DI.wp_e1,DI.wp_e2,DI.wp_aNil,DI.wp_aCons,DI.wp_eB,DI.wp_call,DI.wp_tup,DI.wp_lst,DI.wp_new,DI.wp_frz,DI.wp_tBl,DI.wp_isBl,DI.wp_tru,DI.wp_truB,DI.wp_tAnd,DI.wp_tOr,DI.wp_tNot,DI.wp_eAnd,DI.wp_eOr,DI.wp_eNot,DI.wp_eIf,DI.wp_eCh,DI.wp_sNil,DI.wp_sRet,DI.wp_sExpr,DI.wp_sCont,DI.wp_sSeq,DI.aft_nx,DI.aft_rt,DI.aft_ct,DI.wp_sIf,DI.wp_sAsg,DI.asg_N,DI.asg_T,DI.asg_nil,DI.asg_cons,DI.wp_par2,DI.par_of,DI.wp_sFor,DI.wp_sSub,DI.wp_app,DI.wp_fn,DI.fin_rt,DI.fin_nx,DI.wp_comp,DI.wp_sl,DI.wp_pNo,List.map_cons,List.map_nil,List.cons_append,List.nil_append,List.length_cons,List.length_nil,List.set_cons_succ,List.set_cons_zero,List.replicate,true_and,Nat.reduceSub,Nat.reduceAdd,DI.wp_ltI,DI.wp_gtI,DI.wp_geI,DI.wp_leI,DI.wp_addI,DI.wp_subI,DI.wp_eqI,DI.wp_neI,$xs,*])
namespace DI
open PySem L2
theorem Wp.eq {α:Type} {r:Res α} {d:α} {s:ae} (h:Wp r λa s'=>a=d/\s'=s):r=DI.ok d s:=by
 obtain⟨a,s',e,rfl,rfl⟩:=h
 exact e
theorem j9 {f:Env->ae->Res D} {env:Env} {s s1:ae} {ds:List D} (h:f env s=ok (.tup ds) s1):aW f env s=ok ds s1:=by
 unfold aW
 rw[h]
 rfl
theorem gU {f:Env->ae->Res D} {env:Env} {s s1:ae} {ds:List D} (h:f env s=ok (.lst ds) s1):aW f env s=ok ds s1:=by
 unfold aW
 rw[h]
 rfl
theorem wa:∀(ns:List Int),cV (ns.map D.int)=true
 | []=>rfl
 |n::ns=>by simp only[List.map_cons,cV,lay,wa ns,Bool.and_self]
theorem DQ (x:Int) (ns:List Int):((ns.map D.int).any λy=>beq y (.int x))=decide (x∈ns):=by
 induction ns with
 |nil=>simp
 |cons n ns ih =>
  simp only[List.map_cons,List.any_cons,ih,beq]
  by_cases h:n=x
  ·subst h;simp
  ·have h':¬ x=n:=λe=>h e.symm
   simp[h,h']
theorem md {x:Int} {ns:List Int} {s:ae}:bM (.int x) (mD ns) s=ok (.bl (decide (x∈ns))) s:=by
 have hl:mE 100 (.int x) (ns.map D.int)=true:=by simp only[mE,lay,wa,dep,Bool.and_self,Nat.zero_le,decide_true]
 have e:inD (.int x) (ns.map D.int)=some (decide (x∈ns)):=by unfold inD;rw[if_pos hl,DQ]
 unfold bM
 rw[show lq (mD ns) s=some (ns.map D.int) from rfl]
 simp only[e]
 rfl
theorem vU {x:Int} {ns:List Int} {s:ae}:cL (.int x) (mD ns) s=ok (.bl (!decide (x∈ns))) s:=by
 have hl:mE 100 (.int x) (ns.map D.int)=true:=by simp only[mE,lay,wa,dep,Bool.and_self,Nat.zero_le,decide_true]
 have e:inD (.int x) (ns.map D.int)=some (decide (x∈ns)):=by unfold inD;rw[if_pos hl,DQ]
 unfold cL
 rw[show lq (mD ns) s=some (ns.map D.int) from rfl]
 simp only[e]
 rfl
noncomputable def sub (a b:List Int):Bool:=a.all λx=>decide (x∈b)
theorem kW {α:Type} (p:α->Bool) (xs:List α) (s:ae):jG [.lst (xs.map λx=>D.bl (p x))] s=ok (.bl (xs.all p)) s:=by
 have e:gv (xs.map λx=>D.bl (p x))=some (xs.map p):=by
  have:=Mm (bs:=xs.map p)
  rw[List.map_map] at this
  exact this
 show bG ((gv (xs.map λx=>D.bl (p x))).map λ(bs:List Bool)=>D.bl (bs.all id)) s=_
 rw[e]
 show ok (D.bl ((xs.map p).all id)) s=_
 rw[List.all_map]
 rfl
theorem filter_tt {α:Type} (xs:List α):xs.filter (λ_=>true)=xs:=by simp
theorem fO {nt:Nat} {caps:Env} {g:D->Env->Option Env} {t:Env->ae->Res Bool} {f:Env->ae->Res D} {s:ae} (p:Int->Bool) (h:Int->D) (ns:List Int) (hh:∀n∈ns,∃env,g (.int n) (List.replicate nt none++caps)=some env/\t env s=ok (p n) s/\(p n=true->f env s=ok (h n) s)) :
  eO nt caps g t f (ns.map D.int) s=ok ((ns.filter p).map h) s:=by
 induction ns with
 |nil=>rfl
 |cons n ns ih =>
  obtain⟨env,h1,h2,h3⟩:=hh n List.mem_cons_self
  have ih:=ih λn' h'=>hh n' (List.mem_cons_of_mem _ h')
  rw[List.map_cons]
  unfold eO
  rw[h1]
  simp only[h2,lp,eM]
  cases hp:p n with
  |true=>simp only[if_true,h3 hp,lp,eM,ih,List.filter_cons,hp,List.map_cons]
  |false=>simp only[Bool.false_eq_true,if_false,ih,List.filter_cons,hp]
theorem comp_map {α:Type} (d:α->D) {nt:Nat} {caps:Env} {g:D->Env->Option Env} {t:Env->ae->Res Bool} {f:Env->ae->Res D} {s:ae} (p:α->Bool) (h:α->D) (xs:List α) (hh:∀x∈xs,∃env,g (d x) (List.replicate nt none++caps)=some env/\t env s=ok (p x) s/\(p x=true->f env s=ok (h x) s)) :
  eO nt caps g t f (xs.map d) s=ok ((xs.filter p).map h) s:=by
 induction xs with
 |nil=>rfl
 |cons n ns ih =>
  obtain⟨env,h1,h2,h3⟩:=hh n List.mem_cons_self
  have ih:=ih λn' h'=>hh n' (List.mem_cons_of_mem _ h')
  rw[List.map_cons]
  unfold eO
  rw[h1]
  simp only[h2,lp,eM]
  cases hp:p n with
  |true=>simp only[if_true,h3 hp,lp,eM,ih,List.filter_cons,hp,List.map_cons]
  |false=>simp only[Bool.false_eq_true,if_false,ih,List.filter_cons,hp]
end DI
namespace DI
open PySem L2
theorem J5 {i:Int} {s:ae}:vK [.int i] s=ok (.bl (decide (0<=i))) s:=by
 rfl
theorem nV {i m:Int} {s:ae}:nS [.int i,.int m] s=ok (.bl (decide (0<=i)&&decide (i<m))) s:=by
 refine Wp.eq ?_
 unfold nS
 simp only[VC,J5]
 by_cases h:0<=i
 ·simp[h]
 ·simp[h]
theorem DR {i:Int} {s:ae}:pM [.int i] s=ok (.bl (decide (0<=i)&&decide (i<8))) s:=by
 refine Wp.eq ?_
 unfold pM
 simp only[VC,nV,true_and]
theorem C8 (xs:List D):cutD xs (some 1) none=xs.drop 1:=by
 unfold cutD HT.aP
 cases xs with
 |nil=>simp
 |cons x xs =>
  simp only[List.length_cons]
  have e:(if (1:Int)<0 then (1+((xs.length+1:Nat):Int)).toNat else min (1:Int).toNat (xs.length+1))=1:=by simp
  simp
noncomputable def rise:List Int->Bool
 | []=>true
 | [_]=>true
 |a::b::r=>decide (a<b)&&rise (b::r)
theorem MH {ns:List Int} (h:ns.Pairwise (· < ·)):rise ns=true:=by
 induction ns with
 |nil=>rfl
 |cons a ns ih =>
  cases ns with
  |nil=>rfl
  |cons b r =>
   obtain⟨h1,h2⟩:=List.pairwise_cons.mp h
   simp only[rise,ih h2,Bool.and_true]
   exact decide_eq_true (h1 b List.mem_cons_self)
theorem C9:∀(ns:List Int),((ns.zip (ns.drop 1)).all λp=>decide (p.1<p.2))=rise ns
 | []=>rfl
 | [_]=>rfl
 |a::b::r=>by
  have ih:=C9 (b::r)
  simp only[List.drop_succ_cons,List.drop_zero,List.zip_cons_cons,List.all_cons,rise] at ih |-
  rw[ih]
theorem J6 (xs ys:List Int):hX (xs.map D.int) (ys.map D.int)=(xs.zip ys).map λp=>D.tup [.int p.1,.int p.2]:=by
 unfold hX
 rw[List.zip_map,List.map_map]
 rfl
theorem Dc {fa:Env->ae->Res (List D)} {env:Env} {s s1:ae} {xs ys:List D} (h:fa env s=ok [.tup xs,.tup ys] s1):oO fa env s=ok (hX xs ys) s1:=by
 unfold oO
 rw[h]
 rfl
theorem J7 {ns:List Int} {s:ae} (hl:ns.length<=1000000):l6 [mD ns] s=ok (.bl (rise ns)) s:=by
 refine Wp.eq ?_
 unfold l6
 simp only[VC]
 have hz:oO (af (aa 0) (af (nr (aa 0) (mR (eC (.int 1))) nq) ai)) [some (mD ns)] s=ok (hX (ns.map D.int) ((ns.drop 1).map D.int)) s:=by
  refine Dc (Wp.eq ?_)
  simp only[VC]
  rw[xk (i:=1) rfl]
  try simp only[VC]
  refine Wp.of (show mi (mD ns) (some 1) none s=ok (.tup (cutD (ns.map D.int) (some 1) none)) s from rfl) ⟨?_,rfl⟩
  rw[C8,List.map_drop]
 refine Wp.of hz ⟨le_size (by rw[wq];simp only[List.length_map];omega),?_⟩
 rw[J6]
 refine Wp.of (comp_map (λp:Int×Int=>D.tup [.int p.1,.int p.2]) (λ_=>true) (λp=>.bl (decide (p.1<p.2))) _ λp _=>⟨[some (.int p.1),some (.int p.2)],rfl,rfl,λ_=>rfl⟩) ?_
 rw[filter_tt]
 exact Wp.of (kW _ _ _) ⟨by rw[C9],rfl⟩
structure Tq (rs:List (List Int)):Prop where
 lo:1<=rs.length
 hi:rs.length<=10
 vw:∀r∈rs,cJ 8 r
end DI
namespace DI
open PySem L2
theorem xl (lo:Int) (n:Nat):bR lo n=(List.range n).map λi:Nat=>D.int (lo+i):=rfl
noncomputable def Of (rs:List (List Int)) (laid:List Int) (m:Int):Bool:=((List.range laid.length).filter λi=>laid.getD i 0==m).all λi=>sub (rs.getD i []) (rs.getD laid.length [])
theorem qj {α:Type} (d:α->D) {lr:Env} {g:D->Env->Option Env} {t:Env->ae->Res Bool} {act:Env->ae->Res (List D)} {s:ae} (p:α->Bool) (h:α->List D) (xs:List α) (hh:∀x∈xs,∃env,g (d x) lr=some env/\t env s=ok (p x) s/\(p x=true->act env s=ok (h x) s)) :
  iH g t act lr (xs.map d) s=ok ((xs.filter p).flatMap h) s:=by
 induction xs with
 |nil=>rfl
 |cons n ns ih =>
  obtain⟨env,h1,h2,h3⟩:=hh n List.mem_cons_self
  have ih:=ih λn' h'=>hh n' (List.mem_cons_of_mem _ h')
  rw[List.map_cons]
  unfold iH
  rw[h1]
  simp only[h2,lp,eM]
  cases hp:p n with
  |true=>simp only[if_true,h3 hp,lp,eM,ih,List.filter_cons,hp,List.flatMap_cons]
  |false=>simp only[Bool.false_eq_true,if_false,ih,List.filter_cons,hp]
theorem Dd {nt:Nat} {cap:List Nat} {it:Env->ae->Res (List D)} {gd:D->Env->Option Env} {c:Env->ae->Res Bool} {act:Env->ae->Res (List D)} {env:Env} {s:ae} {Q:D->ae->Prop} :
  Wp (qf nt cap it gd c act env s) Q=Wp (it env s) λds s=>Wp (iH gd c act (List.replicate nt none++fk cap env) ds s) λxs s=>xs.length<=sizeLine/\Q (.lst xs) s:=by
 unfold qf;simp only[bj,wp_ne,l8,wp_ok]
noncomputable def step (rs:List (List Int)) (told:List (List Int)):List (List Int):=told.flatMap λlaid=>([0,1].filter λm=>Of rs laid m).map λm=>laid++[m]
theorem fE {a b:List Int} {s:ae} (h:a.length+b.length<=1000000):cM (mD a) (mD b) s=ok (mD (a++b)) s:=by
 have e:uL (mD a) (mD b)=some (mD (a++b)):=by
  show (if qI (a.map D.int) (b.map D.int)=true then some (D.tup (a.map D.int++b.map D.int)) else none)=_
  have hf:qI (a.map D.int) (b.map D.int)=true:=by
   unfold qI
   rw[List.length_map,List.length_map]
   exact decide_eq_true (le_size h)
  rw[if_pos hf]
  show some (D.tup (a.map D.int++b.map D.int))=some (D.tup ((a++b).map D.int))
  rw[List.map_append]
 show bG (uL (mD a) (mD b)) s=_
 rw[e]
 rfl
end DI
namespace DI
open PySem L2 TK
noncomputable def markB (i:Int):Bool:=decide (0<=i)&&decide (i<8)
noncomputable def iz (i:Int):Bool:=decide (0<=i)&&decide (i<4)
noncomputable def ja (i:Int):Bool:=decide (0<=i)&&decide (i<31)
noncomputable def gX (ns:List Int):Bool:=ns.all markB&&rise ns
noncomputable def qk (a b:List Int):Bool:=!(a.any λx=>decide (x∈b))
noncomputable def eQ:Pg->Bool
 | .made m d h l=>iz m&&ja d&&(gX h&&(gX l&&qk h l))
 | .bN m d k=>iz m&&ja d&&markB k
noncomputable def fY:Pg->Prop
 | .made _ _ h l=>h.length<=1000/\l.length<=1000
 | .bN _ _ _=>True
theorem Lk {bs:List Bool}:gv (bs.map D.bl)=some bs:=by
 induction bs with
 |nil=>rfl
 |cons b bs ih=>simp only[List.map_cons,gv,ih];rfl
theorem wI {α:Type} (p:α->Bool) (xs:List α) (s:ae):mQ [.lst (xs.map λx=>D.bl (p x))] s=ok (.bl (xs.any p)) s:=by
 have e:gv (xs.map λx=>D.bl (p x))=some (xs.map p):=by
  have:=Lk (bs:=xs.map p)
  rw[List.map_map] at this
  exact this
 simp only[mQ,res,e,bG,Option.map_some,List.any_map,Function.comp_def,id]
theorem wJ {ns:List Int} {s:ae} (hl:ns.length<=1000):nO [mD ns] s=ok (.bl (gX ns)) s:=by
 refine Wp.eq ?_
 unfold nO
 simp only[VC]
 refine Wp.of (show gM [mD ns,.ty "tuple"] s=ok (.bl true) s from rfl) ?_
 simp only[VC,if_true]
 refine Wp.of (j9 rfl) ⟨le_size (by rw[List.length_map];omega),?_⟩
 refine Wp.of (fO (λ_=>true) (λx=>.bl (markB x)) ns λn _=>⟨[some (.int n)],rfl,rfl,λ_=>?_⟩) ?_
 ·refine Wp.eq ?_
  simp only[VC,DR,markB,true_and]
 ·rw[filter_tt]
  refine Wp.of (kW _ _ _) ?_
  simp only[VC]
  unfold gX
  cases e:ns.all markB with
  |true =>
   simp only[if_true,Bool.true_and]
   exact Wp.of (J7 (by omega)) ⟨rfl,rfl⟩
  |false=>simp
theorem Ll {a b:List Int} {s:ae} (ha:a.length<=1000):su [mD a,mD b] s=ok (.bl (qk a b)) s:=by
 refine Wp.eq ?_
 unfold su
 simp only[VC]
 refine Wp.of (j9 rfl) ⟨le_size (by rw[List.length_map];omega),?_⟩
 refine Wp.of (fO (λ_=>true) (λx=>.bl (decide (x∈b))) a λn _=>⟨[some (.int n),some (mD b)],rfl,rfl,λ_=>?_⟩) ?_
 ·refine Wp.eq ?_
  simp only[VC,md,true_and]
 ·rw[filter_tt]
  refine Wp.of (wI _ _ _) ?_
  simp only[VC]
  exact⟨rfl,trivial⟩
theorem Lm {h l:List Int} {s:ae} (h1:h.length<=1000) (h2:l.length<=1000):sG [.tup [mD h,mD l]] s=ok (.bl (gX h&&(gX l&&qk h l))) s:=by
 refine Wp.eq ?_
 unfold sG
 simp only[VC]
 refine Wp.of (show gM [.tup [mD h,mD l],.ty "tuple"] s=ok (.bl true) s from rfl) ?_
 simp only[VC,Bool.not_true,Bool.false_eq_true,if_false]
 refine Wp.of (show fB [.tup [mD h,mD l]] s=ok (.int 2) s from rfl) ?_
 simp only[VC]
 simp only[VC,beq_self_eq_true,Bool.not_true,Bool.false_eq_true,if_false]
 refine Wp.of (wJ h1) ?_
 simp only[VC]
 cases gX h with
 |false=>simp
 |true =>
  simp only[if_true,Bool.true_and]
  refine Wp.of (wJ h2) ?_
  simp only[VC]
  cases gX l with
  |false=>simp
  |true =>
   simp only[if_true,Bool.true_and]
   exact Wp.of (Ll h1) ⟨rfl,rfl⟩
theorem wK {i:Int} {s:ae}:pJ [.int i] s=ok (.bl (iz i)) s:=by
 refine Wp.eq ?_
 unfold pJ
 simp only[VC,nV,iz,and_self]
theorem EU {i:Int} {s:ae}:sU [.int i] s=ok (.bl (ja i)) s:=by
 refine Wp.eq ?_
 unfold sU
 simp only[VC,nV,ja,and_self]
theorem iw {x y:Str} {s:ae}:aT (.str x) (.str y) s=ok (.bl (decide (x=y))) s:=by
 show ok (D.bl (x==y)) s=_
 by_cases e:x=y<;>simp[e]
theorem DT:¬ (Str.ofString "made"=Str.ofString "mended"):=by decide +kernel
theorem tM:¬ (Str.ofString "mended"=Str.ofString "made"):=by decide +kernel
theorem MI {p:Pg} {s:ae} (hf:fY p):sL [p.d] s=ok (.bl (eQ p)) s:=by
 refine Wp.eq ?_
 unfold sL
 have key:∀(a b c d:D),p.d=.tup [a,b,c,d]->gM [p.d,.ty "tuple"] s=ok (.bl true) s/\fB [p.d] s=ok (.int 4) s:=λa b c d e=>by rw[e];exact⟨rfl,rfl⟩
 cases p with
 |made m d h l =>
  obtain⟨k1,k2⟩:=key _ _ _ _ rfl
  simp only[VC]
  refine Wp.of k1 ?_
  simp only[VC,Bool.not_true,Bool.false_eq_true,if_false]
  refine Wp.of k2 ?_
  simp only[VC]
  simp only[VC,beq_self_eq_true,Bool.not_true,Bool.false_eq_true,if_false,Pg.d]
  refine Wp.of wK ?_
  simp only[VC,eQ]
  cases iz m with
  |false=>simp[aft_rt,fin_rt,wp_sRet,wp_C]
  |true =>
   simp only[Bool.not_true,Bool.false_eq_true,if_false,Bool.true_and]
   refine Wp.of EU ?_
   simp only[VC]
   cases ja d with
   |false=>simp[aft_rt,fin_rt,wp_sRet,wp_C]
   |true =>
    simp only[VC,Bool.not_true,Bool.false_eq_true,if_false,Bool.true_and]
    refine Wp.of iw ?_
    simp only[VC,decide_true,if_true]
    exact Wp.of (Lm hf.1 hf.2) ⟨rfl,rfl⟩
 |bN m d k =>
  obtain⟨k1,k2⟩:=key _ _ _ _ rfl
  simp only[VC]
  refine Wp.of k1 ?_
  simp only[VC,Bool.not_true,Bool.false_eq_true,if_false]
  refine Wp.of k2 ?_
  simp only[VC]
  simp only[VC,beq_self_eq_true,Bool.not_true,Bool.false_eq_true,if_false,Pg.d]
  refine Wp.of wK ?_
  simp only[VC,eQ]
  cases iz m with
  |false=>simp[aft_rt,fin_rt,wp_sRet,wp_C]
  |true =>
   simp only[Bool.not_true,Bool.false_eq_true,if_false,Bool.true_and]
   refine Wp.of EU ?_
   simp only[VC]
   cases ja d with
   |false=>simp[aft_rt,fin_rt,wp_sRet,wp_C]
   |true =>
    simp only[VC,Bool.not_true,Bool.false_eq_true,if_false,Bool.true_and]
    refine Wp.of iw ?_
    simp only[VC,decide_eq_false tM,Bool.false_eq_true,if_false]
    refine Wp.of iw ?_
    simp only[VC,decide_true,if_true]
    exact Wp.of DR ⟨rfl,rfl⟩
end DI
namespace DI
open PySem L2 TK
noncomputable abbrev bD (ps:List Pg):D:=.tup (ps.map Pg.d)
theorem Og {p q:Pg} {s:ae}:jI p.d q.d s=ok (.bl (dR.lt p q)) s:=by
 unfold jI
 rw[if_pos (by rw[mj _ (mK p),mj _ (mK q)];simp only[Bool.and_self,Bool.true_and,decide_eq_true_eq];have:=xH p;omega),Fx]
 rfl
noncomputable def uw (ps:List Pg):Bool:=(ps.zip (ps.drop 1)).all λp=>dR.lt p.1 p.2
theorem Ln (xs ys:List Pg):hX (xs.map Pg.d) (ys.map Pg.d)=(xs.zip ys).map λp=>D.tup [p.1.d,p.2.d]:=by
 unfold hX
 rw[List.zip_map,List.map_map]
 rfl
theorem Ja {ps:List Pg} {s:ae} (hl:ps.length<=1000):l6 [bD ps] s=ok (.bl (uw ps)) s:=by
 refine Wp.eq ?_
 unfold l6
 simp only[VC]
 have hz:oO (af (aa 0) (af (nr (aa 0) (mR (eC (.int 1))) nq) ai)) [some (bD ps)] s=ok (hX (ps.map Pg.d) ((ps.drop 1).map Pg.d)) s:=by
  refine Dc (Wp.eq ?_)
  simp only[VC]
  rw[xk (i:=1) rfl]
  try simp only[VC]
  refine Wp.of (show mi (bD ps) (some 1) none s=ok (.tup (cutD (ps.map Pg.d) (some 1) none)) s from rfl) ⟨?_,rfl⟩
  rw[C8,List.map_drop]
 refine Wp.of hz ⟨le_size (by rw[wq];simp only[List.length_map];omega),?_⟩
 rw[Ln]
 refine Wp.of (comp_map (λp:Pg×Pg=>D.tup [p.1.d,p.2.d]) (λ_=>true) (λp=>.bl (dR.lt p.1 p.2)) _ λp _=>⟨[some p.1.d,some p.2.d],rfl,rfl,λ_=>?_⟩) ?_
 ·refine Wp.eq ?_
  simp only[VC,Og,and_self]
 rw[filter_tt]
 exact Wp.of (kW _ _ _) ⟨rfl,rfl⟩
noncomputable def gG (ps:List Pg):Bool:=decide (ps.length<=24)&&(ps.all eQ&&uw ps)
theorem DU {ps:List Pg} {s:ae} (hl:ps.length<=1000) (hf:∀p∈ps,fY p):pK [bD ps] s=ok (.bl (gG ps)) s:=by
 refine Wp.eq ?_
 unfold pK gG
 simp only[VC]
 refine Wp.of (show gM [bD ps,.ty "tuple"] s=ok (.bl true) s from rfl) ?_
 simp only[VC,if_true]
 refine Wp.of (show fB [bD ps] s=ok (.int ps.length) s from by show ok (D.int (ps.map Pg.d).length) s=_;rw[List.length_map]) ?_
 simp only[VC]
 by_cases h:ps.length<=24
 ·have h':(ps.length:Int)<=24:=by omega
  simp only[h,h',decide_true,if_true,Bool.true_and]
  refine Wp.of (j9 rfl) ⟨le_size (by rw[List.length_map];omega),?_⟩
  refine Wp.of (comp_map Pg.d (λ_=>true) (λp=>.bl (eQ p)) ps λp hp=>⟨[some p.d],rfl,rfl,λ_=>?_⟩) ?_
  ·refine Wp.eq ?_
   simp only[VC,MI (hf p hp),and_self]
  ·rw[filter_tt]
   refine Wp.of (kW _ _ _) ?_
   simp only[VC]
   cases ps.all eQ with
   |false=>simp
   |true =>
    simp only[if_true,Bool.true_and]
    exact Wp.of (Ja hl) ⟨rfl,rfl⟩
 ·have h':¬ (ps.length:Int)<=24:=by omega
  simp[h,h']
noncomputable def _root_.TK.Pg.day:Pg->Int
 | .made _ d _ _=>d
 | .bN _ d _=>d
noncomputable def jS (m k:Int):Pg->Bool
 | .made m' _ h _=>decide (m'=m)&&decide (k∈h)
 |_=>false
noncomputable def jT (m k:Int):Pg->Bool
 | .made m' _ _ l=>decide (m'=m)&&decide (k∈l)
 |_=>false
noncomputable def jo (m k:Int):Pg->Bool
 | .bN m' _ k'=>decide (m'=m)&&decide (k'=k)
 |_=>false
noncomputable def shown (ps:List Pg) (m k:Int):List Int:=(ps.filter (jS m k)).map Pg.day
noncomputable def cm (ps:List Pg) (m k:Int):List Int:=(ps.filter (jT m k)).map Pg.day
noncomputable def bJ (ps:List Pg) (m k:Int):List Int:=(ps.filter (jo m k)).map Pg.day
noncomputable abbrev lI (ns:List Int):D:=.lst (ns.map D.int)
theorem eh (a b c d:D) (s:ae):aw (.tup [a,b,c,d]) (.int 0) s=ok a s/\aw (.tup [a,b,c,d]) (.int 1) s=ok b s/\aw (.tup [a,b,c,d]) (.int 2) s=ok c s/\aw (.tup [a,b,c,d]) (.int 3) s=ok d s:=⟨rfl,rfl,rfl,rfl⟩
theorem rW (a b:D) (s:ae):aw (.tup [a,b]) (.int 0) s=ok a s/\aw (.tup [a,b]) (.int 1) s=ok b s:=⟨rfl,rfl⟩
theorem nF (p:Pg) (s:ae):aw p.d (.int 1) s=ok (.int (match p with | .made m _ _ _=>m | .bN m _ _=>m)) s/\aw p.d (.int 2) s=ok (.int p.day) s:=by cases p<;>exact⟨rfl,rfl⟩
theorem n6 {ps:List Pg} {m k:Int} {s:ae} (hl:ps.length<=1000):ix [bD ps,.int m,.int k,.int 0] s=ok (lI (shown ps m k)) s/\ix [bD ps,.int m,.int k,.int 1] s=ok (lI (cm ps m k)) s:=by
 constructor
 ·refine Wp.eq ?_
  unfold ix
  simp only[VC]
  refine Wp.of (j9 rfl) ⟨le_size (by rw[List.length_map];omega),?_⟩
  refine Wp.of (comp_map Pg.d (jS m k) (λp=>.int p.day) ps λp hp=>⟨[some p.d,some (.int m),some (.int k),some (.int 0)],rfl,?_,λ_=>?_⟩) ?_
  ·refine Wp.eq ?_
   cases p with
   |made m' d h l =>
    simp only[VC,Pg.d]
    rw[(eh _ _ _ _ s).1]
    simp only[VC,iw,decide_true,if_true]
    rw[(eh _ _ _ _ s).2.1]
    simp only[VC,jS]
    by_cases e:m'=m
    ·simp only[e,beq_self_eq_true,if_true,decide_true,Bool.true_and]
     rw[(eh _ _ _ _ s).2.2.2]
     simp only[VC]
     rw[(rW _ _ s).1]
     simp only[VC]
     refine Wp.of (md (ns:=h)) ?_
     simp only[VC,and_self]
    ·simp[e]
   |bN m' d k' =>
    simp only[VC,Pg.d]
    rw[(eh _ _ _ _ s).1]
    simp only[VC,iw,decide_eq_false tM,Bool.false_eq_true,if_false,jS,and_self]
  ·refine Wp.eq ?_
   simp only[VC,(nF p s).2,and_self]
  ·simp only[shown,lI,List.map_map,Function.comp_def,and_self]
 ·refine Wp.eq ?_
  unfold ix
  simp only[VC]
  refine Wp.of (j9 rfl) ⟨le_size (by rw[List.length_map];omega),?_⟩
  refine Wp.of (comp_map Pg.d (jT m k) (λp=>.int p.day) ps λp hp=>⟨[some p.d,some (.int m),some (.int k),some (.int 1)],rfl,?_,λ_=>?_⟩) ?_
  ·refine Wp.eq ?_
   cases p with
   |made m' d h l =>
    simp only[VC,Pg.d]
    rw[(eh _ _ _ _ s).1]
    simp only[VC,iw,decide_true,if_true]
    rw[(eh _ _ _ _ s).2.1]
    simp only[VC,jT]
    by_cases e:m'=m
    ·simp only[e,beq_self_eq_true,if_true,decide_true,Bool.true_and]
     rw[(eh _ _ _ _ s).2.2.2]
     simp only[VC]
     rw[(rW _ _ s).2]
     simp only[VC]
     refine Wp.of (md (ns:=l)) ?_
     simp only[VC,and_self]
    ·simp[e]
   |bN m' d k' =>
    simp only[VC,Pg.d]
    rw[(eh _ _ _ _ s).1]
    simp only[VC,iw,decide_eq_false tM,Bool.false_eq_true,if_false,jT,and_self]
  ·refine Wp.eq ?_
   simp only[VC,(nF p s).2,and_self]
  ·simp only[cm,lI,List.map_map,Function.comp_def,and_self]
theorem tN {ps:List Pg} {m k:Int} {s:ae} (hl:ps.length<=1000):lW [bD ps,.int m,.int k] s=ok (lI (bJ ps m k)) s:=by
 refine Wp.eq ?_
 unfold lW
 simp only[VC]
 refine Wp.of (j9 rfl) ⟨le_size (by rw[List.length_map];omega),?_⟩
 refine Wp.of (comp_map Pg.d (jo m k) (λp=>.int p.day) ps λp hp=>⟨[some p.d,some (.int m),some (.int k)],rfl,?_,λ_=>?_⟩) ?_
 ·refine Wp.eq ?_
  cases p with
  |bN m' d k' =>
   simp only[VC,Pg.d]
   rw[(eh _ _ _ _ s).1]
   simp only[VC,iw,decide_true,if_true]
   rw[(eh _ _ _ _ s).2.1]
   simp only[VC,jo]
   by_cases e:m'=m
   ·simp only[e,beq_self_eq_true,if_true,decide_true,Bool.true_and]
    rw[(eh _ _ _ _ s).2.2.2]
    simp only[VC]
    by_cases e:k'=k<;>simp[e]
   ·simp[e]
  |made m' d h l =>
   simp only[VC,Pg.d]
   rw[(eh _ _ _ _ s).1]
   simp only[VC,iw,decide_eq_false DT,Bool.false_eq_true,if_false,jo,and_self]
 ·refine Wp.eq ?_
  simp only[VC,(nF p s).2,and_self]
 ·simp only[bJ,lI,List.map_map,Function.comp_def,and_self]
theorem jw {n:Nat} (h:n<=1000):n<=sizeLine:=le_size (by omega)
theorem kn {x:Int} {ns:List Int} {s:ae}:bM (.int x) (lI ns) s=ok (.bl (decide (x∈ns))) s:=by
 show bM (.int x) (mD ns) s=_
 exact md
theorem n0 {x:Int} {ns:List Int} {s:ae}:cL (.int x) (lI ns) s=ok (.bl (!decide (x∈ns))) s:=by
 show cL (.int x) (mD ns) s=_
 exact vU
noncomputable def uU (ds:List Int) (a b:Int):Bool:=ds.any λx=>decide (a<x)&&decide (x<=b)
theorem J8 {ds:List Int} {a b:Int} {s:ae} (hl:ds.length<=1000):rY [lI ds,.int a,.int b] s=ok (.bl (uU ds a b)) s:=by
 refine Wp.eq ?_
 unfold rY
 simp only[VC]
 refine Wp.of (gU rfl) ⟨jw (by rw[List.length_map];omega),?_⟩
 refine Wp.of (fO (λ_=>true) (λx=>.bl (decide (a<x)&&decide (x<=b))) ds λn _=>⟨[some (.int n),some (.int a),some (.int b)],rfl,rfl,λ_=>?_⟩) ?_
 ·refine Wp.eq ?_
  simp only[VC]
  by_cases e:a<n<;>simp[e,wp_ok,wp_leI,wp_locS,wp_loc0]
 ·rw[filter_tt]
  exact Wp.of (wI _ _ _) ⟨rfl,rfl⟩
noncomputable def lV (ps:List Pg) (m k d l:Int):Bool:=(decide (l∈cm ps m k)||(decide (l=d)&&decide (d∈bJ ps m k)))&&!uU (bJ ps m k) d l
noncomputable def mw (d:Int):List Int:=(List.range (31-d).toNat).map λi:Nat=>d+(i:Int)
noncomputable def jx (ps:List Pg) (m k:Int):List (Int×Int):=(fq (shown ps m k)).flatMap λd=>((mw d).filter (lV ps m k d)).map λl=>(d,l)
theorem pU {ps:List Pg} {f:Pg->Bool}:((ps.filter f).map Pg.day).length<=ps.length:=by rw[List.length_map];exact List.length_filter_le _ _
theorem pV {α β:Type} {f:α->List β} {b:Nat}:∀{l:List α},(∀x∈l,(f x).length<=b)->(l.flatMap f).length<=l.length*b
 | [],_=>by simp
 |x::l,h=>by
  rw[List.flatMap_cons,List.length_append,List.length_cons,Nat.succ_mul]
  have h1:=h x List.mem_cons_self
  have h2:=pV (l:=l) λy hy=>h y (List.mem_cons_of_mem _ hy)
  omega
theorem BU (d:Int) (h:0<=d):(mw d).length<=31:=by unfold mw;rw[List.length_map,List.length_range];omega
structure jb (ps:List Pg):Prop where
 len:ps.length<=24
 lo:∀p∈ps,0<=p.day/\p.day<31
theorem jb.of {ps:List Pg} (h:jb ps) {f:Pg->Bool} {x:Int} (hx:x∈(ps.filter f).map Pg.day):0<=x/\x<31:=by
 obtain⟨p,hp,rfl⟩:=List.mem_map.mp hx
 exact h.lo p (List.mem_filter.mp hp).1
theorem Cu (l:List Int):(fq l).length<=l.length:=by
 induction l with
 |nil=>exact Nat.le_refl _
 |cons x l ih =>
  have:(fq (x::l)).length<=(fq l).length+1:=by
   show (jH x (fq l)).length<=_
   generalize fq l=m
   induction m with
   |nil=>exact Nat.le_refl _
   |cons y m TN =>
    unfold jH
    split
    ·simp
    ·split
     ·simp
     ·simp only[List.length_cons];omega
  simp only[List.length_cons]
  omega
theorem Jb {ps:List Pg} {m k:Int} {s:ae} (h:jb ps):pN [bD ps,.int m,.int k] s=ok (.lst ((jx ps m k).map λp=>D.tup [.int p.1,.int p.2])) s:=by
 have hl:=h.len
 have l1:(shown ps m k).length<=24:=Nat.le_trans pU hl
 have l2:(cm ps m k).length<=24:=Nat.le_trans pU hl
 have l3:(bJ ps m k).length<=24:=Nat.le_trans pU hl
 refine Wp.eq ?_
 unfold pN
 simp only[VC]
 refine Wp.of (n6 (by omega)).2 ?_
 refine Wp.of (tN (by omega)) ?_
 rw[Dd]
 have hs:aW (e1 nW (ax ix (af (aa 0) (af (aa 1) (af (aa 2) (af (eC (.int (0))) ai)))))) [some (bD ps),some (.int m),some (.int k),some (lI (cm ps m k)),some (lI (bJ ps m k))] s=ok ((fq (shown ps m k)).map D.int) s:=by
  refine gU (Wp.eq ?_)
  simp only[VC]
  refine Wp.of (n6 (by omega)).1 ?_
  refine Wp.of (show nW (lI (shown ps m k)) s=ok (lI (fq (shown ps m k))) s from ?_) ⟨rfl,rfl⟩
  unfold nW
  simp only[JD]
  rw[if_pos (by rw[decide_eq_true_eq];omega)]
 refine Wp.of hs ?_
 have day:∀d∈fq (shown ps m k),0<=d/\d<31:=λd hd=>h.of (nT.mp hd)
 refine Wp.of (qj D.int (λ_=>true) (λd=>((mw d).filter (lV ps m k d)).map λl=>D.tup [.int d,.int l]) _ λd hd=>⟨[some (.int d),none,some (lI (cm ps m k)),some (lI (bJ ps m k))],rfl,rfl,λ_=>?_⟩) ?_
 ·have hd:=day d hd
  unfold more
  rw[ET (i:=d) (j:=31) rfl (by omega) (by omega) (by omega) (by omega),eM]
  have er:bR d (31-d).toNat=(mw d).map D.int:=by unfold mw;rw[xl,List.map_map];rfl
  rw[er]
  rw[qj D.int (lV ps m k d) (λl=>[D.tup [.int d,.int l]]) (mw d) λl hl=>⟨[some (.int d),some (.int l),some (lI (cm ps m k)),some (lI (bJ ps m k))],rfl,?_,λ_=>?_⟩]
  ·rw[<- List.map_eq_flatMap]
  ·refine Wp.eq ?_
   simp only[VC,kn]
   unfold lV
   have GY:=J8 (ds:=bJ ps m k) (a:=d) (b:=l) (s:=s) (by omega)
   by_cases c1:l∈cm ps m k
   ·simp only[VC,c1,decide_true,if_true,Bool.true_or,Bool.true_and]
    exact Wp.of GY (by simp only[VC,and_self])
   ·simp only[c1,decide_false,Bool.false_eq_true,if_false,Bool.false_or]
    by_cases c2:l=d
    ·subst c2
     simp only[VC,beq_self_eq_true,if_true,decide_true,Bool.true_and]
     by_cases c3:l∈bJ ps m k
     ·simp only[c3,decide_true,if_true,Bool.true_and]
      exact Wp.of GY (by simp only[VC,and_self])
     ·simp[c3]
    ·simp[c2]
  ·refine Wp.eq ?_
   unfold emit
   rw[bj]
   simp only[VC]
   exact⟨by decide,trivial⟩
 ·rw[filter_tt]
  refine⟨?_,?_,rfl⟩
  ·refine jw (Nat.le_trans (pV (b:=31) λd hd=>?_) ?_)
   ·rw[List.length_map]
    exact Nat.le_trans (List.length_filter_le _ _) (BU d (day d hd).1)
   ·have:=Cu (shown ps m k)
    have:(fq (shown ps m k)).length<=24:=by omega
    omega
  ·unfold jx
   simp only[List.map_flatMap,List.map_map,Function.comp_def]
noncomputable def m4:List Int:=(List.range 4).map λi:Nat=>(i:Int)
noncomputable def k8:List Int:=(List.range 8).map λi:Nat=>(i:Int)
noncomputable def iA (ps:List Pg):List (Int×Int×Int×Int):=m4.flatMap λm=>k8.flatMap λk=>(jx ps m k).map λp=>(m,k,p.1,p.2)
noncomputable def fD (p:Int×Int×Int×Int):D:=.tup [.int p.1,.int p.2.1,.int p.2.2.1,.int p.2.2.2]
theorem J9 {ps:List Pg} (h:jb ps) (m k:Int):(jx ps m k).length<=744:=by
 have l1:(shown ps m k).length<=24:=Nat.le_trans pU h.len
 have:=Cu (shown ps m k)
 refine Nat.le_trans (pV (b:=31) λd hd=>?_) (by omega)
 rw[List.length_map]
 exact Nat.le_trans (List.length_filter_le _ _) (BU d (h.of (nT.mp hd)).1)
theorem Cv {ps:List Pg} {s:ae} (h:jb ps):pH [bD ps] s=ok (.lst ((iA ps).map fD)) s:=by
 refine Wp.eq ?_
 unfold pH
 simp only[wp_fn,wp_sRet,fin_rt,List.map_cons,List.map_nil,List.cons_append,List.nil_append,List.length_cons,List.length_nil,List.replicate,true_and,Nat.reduceSub,Nat.reduceAdd]
 rw[Dd]
 refine Wp.of (ei (n:=4) rfl (by decide)) ?_
 have e4:bR 0 4=m4.map D.int:=rfl
 have e8:bR 0 8=k8.map D.int:=rfl
 rw[e4]
 refine Wp.of (qj D.int (λ_=>true) (λm=>k8.flatMap λk=>(jx ps m k).map λp=>fD (m,k,p.1,p.2)) m4 λm hm=>⟨[some (.int m),none,none,none,some (bD ps)],rfl,rfl,λ_=>?_⟩) ?_
 ·unfold more
  rw[ei (n:=8) rfl (by decide),eM,e8]
  rw[qj D.int (λ_=>true) (λk=>(jx ps m k).map λp=>fD (m,k,p.1,p.2)) k8 λk hk=>⟨[some (.int m),some (.int k),none,none,some (bD ps)],rfl,rfl,λ_=>?_⟩]
  ·rw[filter_tt]
  ·have hi:aW (ax pN (af (aa 4) (af (aa 0) (af (aa 1) ai)))) [some (.int m),some (.int k),none,none,some (bD ps)] s=ok ((jx ps m k).map λp=>D.tup [.int p.1,.int p.2]) s:=by
    refine gU (Wp.eq ?_)
    simp only[VC]
    exact Wp.of (Jb h) ⟨rfl,rfl⟩
   rw[hi,eM]
   rw[qj (λp:Int×Int=>D.tup [.int p.1,.int p.2]) (λ_=>true) (λp=>[fD (m,k,p.1,p.2)]) (jx ps m k) λp hp=>⟨[some (.int m),some (.int k),some (.int p.1),some (.int p.2),some (bD ps)],rfl,rfl,λ_=>?_⟩]
   ·rw[filter_tt,<- List.map_eq_flatMap]
   ·refine Wp.eq ?_
    unfold emit
    rw[bj]
    simp only[VC]
    exact⟨by decide,rfl,trivial⟩
 ·rw[filter_tt]
  refine⟨?_,?_,rfl⟩
  ·refine le_size (Nat.le_trans (pV (b:=8*744) λm hm=>?_) (by decide))
   refine Nat.le_trans (pV (b:=744) λk hk=>?_) (by decide)
   rw[List.length_map]
   exact J9 h m k
  ·unfold iA
   simp only[List.map_flatMap,List.map_map,Function.comp_def]
noncomputable def gH (ps:List Pg):Bool:=gG ps&&(iA ps).isEmpty
theorem wb {ps:List Pg} (h:gG ps=true):jb ps:=by
 unfold gG at h
 simp only[Bool.and_eq_true,decide_eq_true_eq,List.all_eq_true] at h
 refine⟨h.1,λp hp=>?_⟩
 have:=h.2.1 p hp
 cases p<;>simp only[eQ,ja,Bool.and_eq_true,decide_eq_true_eq] at this<;>exact this.1.2
theorem DW {ps:List Pg} {s:ae} (hl:ps.length<=1000) (hf:∀p∈ps,fY p):nU [bD ps] s=ok (.bl (gH ps)) s:=by
 refine Wp.eq ?_
 unfold nU
 simp only[VC]
 refine Wp.of (DU hl hf) ?_
 simp only[VC]
 unfold gH
 cases h:gG ps with
 |false=>simp
 |true =>
  simp only[if_true,Bool.true_and]
  unfold yc
  simp only[VC,bj]
  refine Wp.of (Cv (wb h)) ?_
  refine Wp.of (show truth (.lst ((iA ps).map fD)) s=ok (!((iA ps).map fD).isEmpty) s from rfl) ?_
  simp only[wp_ok]
  refine⟨?_,trivial⟩
  cases iA ps<;>rfl
theorem EV {m:Int}:m∈m4↔0<=m/\m<4:=by
 unfold m4
 rw[List.mem_map]
 constructor
 ·rintro ⟨i,hi,rfl⟩
  have:=List.mem_range.mp hi
  omega
 ·rintro ⟨h1,h2⟩
  exact⟨m.toNat,List.mem_range.mpr (by omega),by omega⟩
theorem ow {m:Int}:m∈k8↔0<=m/\m<8:=by
 unfold k8
 rw[List.mem_map]
 constructor
 ·rintro ⟨i,hi,rfl⟩
  have:=List.mem_range.mp hi
  omega
 ·rintro ⟨h1,h2⟩
  exact⟨m.toNat,List.mem_range.mpr (by omega),by omega⟩
theorem Lo {ps:List Pg} (h:gH ps=true) {m k d l:Int} (hm:0<=m/\m<4) (hk:0<=k/\k<8) (hd:d∈shown ps m k) (h1:d<=l) (h2:l<31):lV ps m k d l=false:=by
 unfold gH at h
 rw[Bool.and_eq_true,List.isEmpty_iff] at h
 cases hc:lV ps m k d l with
 |false=>rfl
 |true =>
  exfalso
  have kE:(d,l)∈jx ps m k:=by
   refine List.mem_flatMap.mpr ⟨d,nT.mpr hd,List.mem_map.mpr ⟨l,List.mem_filter.mpr ⟨?_,hc⟩,rfl⟩⟩
   exact List.mem_map.mpr ⟨(l-d).toNat,List.mem_range.mpr (by omega),by omega⟩
  have:(m,k,d,l)∈iA ps:=List.mem_flatMap.mpr ⟨m,EV.mpr hm,List.mem_flatMap.mpr ⟨k,ow.mpr hk,List.mem_map.mpr ⟨(d,l),kE,rfl⟩⟩⟩
  rw[h.2] at this
  cases this
end DI
namespace DI
section
variable (s l m:Nat->Bool)
noncomputable def pr:Nat->Bool
 |0=>s 0
 |d+1=>s (d+1)||(pr d&&!m (d+1))
noncomputable def fg:Nat->Bool
 |0=>false
 |n+1=>(fg n||l (30-n))&&!m (30-n)
noncomputable def br (d:Nat):Bool:=fg l m (31-d)
noncomputable def ab (d:Nat):Bool:=br l m (d+1)||(l d||m d)
theorem yd {d:Nat} (h:d<=30):br l m d=((br l m (d+1)||l d)&&!m d):=by
 unfold br
 have e1:31-d=(30-d)+1:=by omega
 have e2:31-(d+1)=30-d:=by omega
 rw[e1,e2]
 simp only[fg]
 rw[show 30-(30-d)=d by omega]
theorem Fy:br l m 31=false:=rfl
noncomputable def f0 (d:Nat):Bool:=!s d
noncomputable def t0 (d:Nat):Bool:=!m d&&!l d
noncomputable def fw:Nat->Bool×Bool
 |0=>(f0 s 0,t0 l m 0)
 |d+1=>(f0 s (d+1)&&((fw d).1||(m (d+1)&&((fw d).1||(fw d).2))),t0 l m (d+1)&&((fw d).1||(fw d).2))
noncomputable def pC:Nat->Bool×Bool
 |0=>fw s l m 30
 |n+1=>let q:=pC n;let a:=fw s l m (29-n);(a.1&&(q.2||q.1),a.2&&(q.2||(q.1&&m (30-n))))
noncomputable def bw (d:Nat):Bool×Bool:=pC s l m (30-d)
def kX:Prop:=∀d e,s d=true->d<=e->e<=30->(l e=true\/(e=d/\m d=true))->∃x,d<x/\x<=e/\m x=true
variable {s l m}
theorem xK:∀{d:Nat},pr s m d=true↔∃e,e<=d/\s e=true/\∀x,e<x->x<=d->m x=false
 |0=>by
  simp only[pr]
  constructor
  ·intro h;exact⟨0,Nat.le_refl _,h,λx h1 h2=>by omega⟩
  ·rintro ⟨e,h1,h2,_⟩
   have:e=0:=by omega
   rw[<- this];exact h2
 |d+1=>by
  simp only[pr,Bool.or_eq_true,Bool.and_eq_true,Bool.not_eq_true']
  rw[xK (d:=d)]
  constructor
  ·rintro (h | ⟨⟨e,h1,h2,h3⟩,h4⟩)
   ·exact⟨d+1,Nat.le_refl _,h,λx h1 h2=>by omega⟩
   ·refine⟨e,by omega,h2,λx kG jO=>?_⟩
    by_cases hx:x=d+1
    ·rw[hx];exact h4
    ·exact h3 x kG (by omega)
  ·rintro ⟨e,h1,h2,h3⟩
   by_cases he:e=d+1
   ·left;rw[<- he];exact h2
   ·right
    exact⟨⟨e,by omega,h2,λx kG jO=>h3 x kG (by omega)⟩,h3 (d+1) (by omega) (Nat.le_refl _)⟩
theorem Pt:∀{n:Nat},n<=31->br l m (31-n)=true->∃e,31-n<=e/\e<=30/\l e=true/\∀x,31-n<=x->x<=e->m x=false:=by
 intro n
 induction n with
 |zero=>intro _ h;rw[show 31-0=31 from rfl,Fy] at h;cases h
 |succ n ih =>
  intro hn h
  have e1:31-(n+1)+1=31-n:=by omega
  rw[yd l m (by omega),e1,Bool.and_eq_true,Bool.or_eq_true,Bool.not_eq_true'] at h
  rcases h.1 with h1|h1
  ·obtain⟨e,q1,q2,q3,q4⟩:=ih (by omega) h1
   refine⟨e,by omega,q2,q3,λx kG jO=>?_⟩
   by_cases hx:x=31-(n+1)
   ·rw[hx];exact h.2
   ·exact q4 x (by omega) jO
  ·refine⟨31-(n+1),Nat.le_refl _,by omega,h1,λx kG jO=>?_⟩
   rw[show x=31-(n+1) by omega];exact h.2
section
variable (N:kX s l m)
include N
theorem ux {d:Nat} (hd:d<=30) (h:pr s m d=true):t0 l m d=true:=by
 obtain⟨e,h1,h2,h3⟩:=xK.mp h
 unfold t0
 rw[Bool.and_eq_true,Bool.not_eq_true',Bool.not_eq_true']
 constructor
 ·cases hm:m d with
  |false=>rfl
  |true =>
   by_cases he:e=d
   ·subst he
    obtain⟨x,q1,q2,_⟩:=N e e h2 (Nat.le_refl _) hd (.inr ⟨rfl,hm⟩)
    omega
   ·have:=h3 d (by omega) (Nat.le_refl _)
    rw[this] at hm;cases hm
 ·cases hl:l d with
  |false=>rfl
  |true =>
   obtain⟨x,q1,q2,q3⟩:=N e d h2 h1 hd (.inl hl)
   rw[h3 x q1 q2] at q3;cases q3
theorem ye:∀{d:Nat},d<=30->fw s l m d=(!pr s m d,t0 l m d)
 |0,_=>rfl
 |d+1,h=>by
  have ih:=ye (d:=d) (by omega)
  have ne:(!pr s m d||t0 l m d)=true:=by
   cases hp:pr s m d with
   |false=>rfl
   |true=>rw[ux N (by omega) hp];rfl
  simp only[fw,ih,ne,Bool.and_true,f0,pr]
  cases s (d+1)<;>cases pr s m d<;>cases m (d+1)<;>simp
theorem yf {d:Nat} (hd:d<=30) (h:pr s m d=true):ab l m d=false:=by
 have ht:=ux N hd h
 unfold t0 at ht
 rw[Bool.and_eq_true,Bool.not_eq_true',Bool.not_eq_true'] at ht
 unfold ab
 rw[ht.1,ht.2]
 cases hb:br l m (d+1) with
 |false=>rfl
 |true =>
  exfalso
  have eV:br l m (31-(30-d))=true:=by rw[show 31-(30-d)=d+1 by omega];exact hb
  obtain⟨e,q1,q2,q3,q4⟩:=Pt (by omega) eV
  obtain⟨c,h1,h2,h3⟩:=xK.mp h
  obtain⟨x,z1,z2,z3⟩:=N c e h2 (by omega) q2 (.inl q3)
  by_cases hx:x<=d
  ·rw[h3 x z1 hx] at z3;cases z3
  ·rw[q4 x (by omega) z2] at z3;cases z3
theorem EW:∀{n:Nat},n<=30->pC s l m n=(!pr s m (30-n),!ab l m (30-n))
 |0,_=>by
  simp only[pC,ye N (Nat.le_refl 30),Nat.sub_zero]
  congr 1
  unfold ab t0
  rw[Fy]
  cases m 30<;>cases l 30<;>rfl
 |n+1,h=>by
  have ih:=EW (n:=n) (by omega)
  have Sa:29-n=30-(n+1):=by omega
  have Sb:30-n=(30-(n+1))+1:=by omega
  generalize hd:30-(n+1)=d at *
  have yU:d+1<=30:=by omega
  simp only[pC,ih,Sa,Sb,ye N (show d<=30 by omega)]
  have p1:=λz=>yf N yU z
  have p2:=λz=>ux N yU z
  have eb:=yd l m yU
  congr 1
  ·cases hp:pr s m (d+1) with
   |false=>simp
   |true=>rw[p1 hp];simp
  ·show (t0 l m d&&(!ab l m (d+1)||(!pr s m (d+1)&&m (d+1))))=!(br l m (d+1)||(l d||m d))
   rw[eb]
   unfold ab
   cases hm:m (d+1) with
   |false=>unfold t0;cases m d<;>cases l d<;>cases br l m (d+1+1)<;>cases l (d+1)<;>simp
   |true =>
    have hp:pr s m (d+1)=false:=by
     cases hp:pr s m (d+1) with
     |false=>rfl
     |true=>have:=p2 hp;unfold t0 at this;rw[hm] at this;cases this
    rw[hp]
    unfold t0
    cases m d<;>cases l d<;>simp
theorem Pu {d:Nat} (h:d<=30):bw s l m d=(!pr s m d,!ab l m d):=by
 unfold bw
 rw[EW N (by omega),show 30-(30-d)=d by omega]
end
end
end DI
namespace DI
open PySem L2 TK
theorem DY:∀{ns:List Int},rise ns=true->ns.Pairwise (· < ·)
 | [],_=>.nil
 | [a],_=>by simp
 |a::b::r,h=>by
  simp only[rise,Bool.and_eq_true,decide_eq_true_eq] at h
  have ih:=DY h.2
  refine List.pairwise_cons.mpr ⟨λx hx=>?_,ih⟩
  rcases List.mem_cons.mp hx with rfl|hx
  ·exact h.1
  ·have:=(List.pairwise_cons.mp ih).1 x hx
   omega
theorem sJ {ns:List Int} (h:gX ns=true):cJ 8 ns:=by
 unfold gX at h
 rw[Bool.and_eq_true,List.all_eq_true] at h
 refine⟨λx hx=>?_,DY h.2⟩
 have:=h.1 x hx
 unfold markB at this
 simp only[Bool.and_eq_true,decide_eq_true_eq] at this
 exact this
theorem vV {n:Nat} {ns:List Int} (h:cJ n ns) (hn:n<=8):gX ns=true:=by
 unfold gX
 rw[Bool.and_eq_true,List.all_eq_true]
 refine⟨λx hx=>?_,MH h.up⟩
 have:=h.lo x hx
 unfold markB
 simp only[Bool.and_eq_true,decide_eq_true_eq]
 omega
theorem cJ.filter {n:Nat} {ns:List Int} (h:cJ n ns) (p:Int->Bool):cJ n (ns.filter p):=⟨λx hx=>h.lo x (List.mem_filter.mp hx).1,h.up.filter p⟩
theorem Cw {m d k:Int} (hm:0<=m/\m<4) (hd:0<=d/\d<31) (hk:0<=k/\k<8):eQ (.bN m d k)=true:=by
 simp only[eQ,iz,ja,markB,Bool.and_eq_true,decide_eq_true_eq]
 omega
theorem Cy {m d:Int} {h l:List Int} {n:Nat} (hm:0<=m/\m<4) (hd:0<=d/\d<31) (h1:cJ n h) (h2:cJ n l) (hn:n<=8) (ha:∀x∈h,x∉l):eQ (.made m d h l)=true:=by
 simp only[eQ,iz,ja,Bool.and_eq_true,decide_eq_true_eq,qk,Bool.not_eq_true',List.any_eq_false]
 exact⟨⟨hm,hd⟩,vV h1 hn,vV h2 hn,ha⟩
theorem sR {p:Pg} (h:eQ p=true):fY p:=by
 cases p with
 |made m d h' l =>
  simp only[eQ,Bool.and_eq_true] at h
  exact⟨by have:=(sJ h.2.1).len;omega,by have:=(sJ h.2.2.1).len;omega⟩
 |bN m d k=>trivial
def cB (W:World) (R:Pg->Prop) (s:ae) (j n:Nat):Prop:=∃ps:List Pg,s[j]?=some (.dT (ps.map λp=>(p.d,hs W p.d)))/\(ps.Nodup/\∀p∈ps,R p)/\ps.length<=n
theorem cB.lt {W:World} {R:Pg->Prop} {s:ae} {j n:Nat} (h:cB W R s j n):j<s.length:=by
 obtain⟨ps,e,_⟩:=h
 exact(List.getElem?_eq_some_iff.mp e).1
theorem cB.ex {W:World} {R:Pg->Prop} {s s':ae} {j n k:Nat} (h:cB W R s j n) (x:Ex k s s') (hj:j≠k):cB W R s' j n:=by
 have hl:=h.lt
 obtain⟨ps,e,r⟩:=h
 exact⟨ps,(x.val j hl hj).trans e,r⟩
theorem cB.more {W:World} {R:Pg->Prop} {s:ae} {j n m:Nat} (h:cB W R s j n) (hm:n<=m):cB W R s j m:=by
 obtain⟨ps,e,r,l⟩:=h
 exact⟨ps,e,r,by omega⟩
theorem cB.app {W:World} {R:Pg->Prop} {s:ae} {j n:Nat} (h:cB W R s j n) (c:List Cell):cB W R (s++c) j n:=by
 have hl:=h.lt
 obtain⟨ps,e,r⟩:=h
 exact⟨ps,by rw[List.getElem?_append_left hl];exact e,r⟩
theorem cB.set {W:World} {R:Pg->Prop} {s:ae} {j n i:Nat} (h:cB W R s j n) (hi:i≠j) (c:Cell):cB W R (s.set i c) j n:=by
 obtain⟨ps,e,r⟩:=h
 exact⟨ps,by rw[List.getElem?_set_ne hi];exact e,r⟩
theorem cB.mono {W:World} {R R':Pg->Prop} {s:ae} {j n:Nat} (h:cB W R s j n) (hR:∀p,R p->R' p):cB W R' s j n:=by
 obtain⟨ps,e,r,l⟩:=h
 exact⟨ps,e,⟨r.1,λp hp=>hR p (r.2 p hp)⟩,l⟩
theorem Ex.nG {k j:Nat} {s s':ae} (h:Ex k s s') (hj:s.length<=j) (c:Cell):Ex k s (s'.set j c) :=
 ⟨by rw[List.length_set];exact h.len,λi hi hk=>by rw[List.getElem?_set_ne (by omega)];exact h.val i hi hk⟩
theorem k9 (p:Pg):∃ks,p.d=.tup ks/\cz ks=true/\cG ks<=6:=by
 have h1:=mK p
 have h2:=xH p
 obtain⟨x,r,e⟩:=C0 p
 rw[e] at h1 h2
 simp only[kd,dep] at h1 h2
 exact⟨_,e,h1,by omega⟩
theorem Oh (W:World) (ps:List Pg):(ps.map λp=>(p.d,hs W p.d)).all (keyOk W)=true:=by
 rw[List.all_map,List.all_eq_true]
 intro p _
 obtain⟨ks,e,h1,h2⟩:=k9 p
 simp only[Function.comp,keyOk]
 rw[e]
 simp only[h1,decide_eq_true h2,decide_true,Bool.and_self]
theorem xM {W:World} {R:Pg->Prop} {s:ae} {j n:Nat} {p:Pg} (h:cB W R s j n) (hf:R p) (hn:n<1000):∃c,lB W (.aj j) p.d (.bl true) s=some (s.set j c)/\cB W R (s.set j c) j (n+1):=by
 have hl:=h.lt
 obtain⟨ps,e,dj,len⟩:=h
 obtain⟨ks,ep,k1,k2⟩:=k9 p
 have F9:=Oh W ps
 generalize hk:(ps.map λp=>(p.d,hs W p.d))=ao at e F9
 have kl:ao.length=ps.length:=by rw[<- hk,List.length_map]
 refine⟨.dT (TK.fE W ao (.tup ks)),?_,?_⟩
 ·rw[ep]
  unfold lB
  simp only[e]
  rw[if_pos]
  rw[k1,decide_eq_true k2,F9,decide_eq_true (Nat.lt_of_lt_of_le (show ao.length<1000 by omega) (le_size (by decide)))]
  rfl
 ·unfold TK.fE
  split
  ·exact⟨ps,by rw[hk];exact List.getElem?_set_self hl,dj,by omega⟩
  ·rename_i rm
   refine⟨ps++[p],?_,⟨List.nodup_append.mpr ⟨dj.1,by simp,λa ha b hb=>?_⟩,λq hq=>?_⟩,by simp;omega⟩
   ·rw[List.getElem?_set_self hl,List.map_append,hk]
    simp only[List.map_cons,List.map_nil,ep]
   ·rw[List.mem_singleton.mp hb]
    rintro rfl
    refine rm (List.any_eq_true.mpr ⟨(a.d,hs W a.d),?_,?_⟩)
    ·rw[<- hk];exact List.mem_map.mpr ⟨a,ha,rfl⟩
    ·rw[<- ep];exact(tX _ _ (mK a) (mK a)).mpr rfl
   ·rcases List.mem_append.mp hq with hq|hq
    ·exact dj.2 q hq
    ·rw[List.mem_singleton.mp hq];exact hf
theorem tO {W:World} {f fo fi:Env->ae->Res D} {env:Env} {s:ae} {QF:Fl->ae->Prop}:Wp (gZ W f fo fi env s) QF=Wp (f env s) λx s=>Wp (fo env s) λd s=>Wp (fi env s) λn s=>∃s',lB W d n x s=some s'/\QF (.nx env) s':=by
 unfold gZ
 simp only[bj]
 congr 1;funext x s;congr 1;funext d s;congr 1;funext n s
 cases lB W d n x s with
 |none=>exact propext ⟨λ⟨_,_,e,_⟩=>(by cases e),λ⟨_,e,_⟩=>(by cases e)⟩
 |some s'=>exact propext ⟨λh=>⟨s',rfl,by simpa only [wp_ok] using h⟩,λ⟨t,e,h⟩=>by cases e;simpa only [wp_ok] using h⟩
theorem DZ {env:Env} {s:ae} {Q:D->ae->Prop}:Wp (qA env s) Q=Q (.aj s.length) (s++[.dT []]):=by unfold qA;rw[wp_ok]
theorem D1:∀{ps:List Pg},ps.Pairwise (λa b=>dR.lt a b=true)->uw ps=true
 | [],_=>rfl
 | [a],_=>rfl
 |a::b::r,h=>by
  obtain⟨h1,h2⟩:=List.pairwise_cons.mp h
  have ih:=D1 h2
  unfold uw at ih |-
  simp only[List.drop_succ_cons,List.drop_zero,List.zip_cons_cons,List.all_cons,Bool.and_eq_true] at ih |-
  exact⟨h1 b List.mem_cons_self,ih⟩
theorem Lp {ps:List Pg} (h:ps.Nodup):(ST.iC dR ps).Pairwise λa b=>dR.lt a b=true:=by
 have h1:=ST.CT (O:=dR) ps
 have h2:(ST.iC dR ps).Nodup:=(ST.sF ps).nodup_iff.mpr h
 refine(h1.and h2).imp λ{a b} rB=>?_
 cases hl:dR.lt a b with
 |true=>rfl
 |false=>exact(rB.2 (dR.rS a b hl rB.1)).elim
theorem D2 {W:World} {R:Pg->Prop} {s:ae} {j n:Nat} {env:Env} {Q:D->ae->Prop} (h:cB W R s j n) (hn:n<64) (hj:env[1]?=some (some (.aj j)))
  (q:∀ps:List Pg,(∀p∈ps,R p)->ps.length<=n->(ps.Pairwise λa b=>dR.lt a b=true)->Q (bD ps) s):Wp (eB df (af (eB mm (af (eB ml (af (aa 1) ai)) ai)) ai) env s) Q:=by
 obtain⟨ps,e,dj,len⟩:=h
 have e1:aa 1 env s=ok (.aj j) s:=by unfold aa;rw[hj]
 have e2:ml [.aj j] s=ok (.lst (ps.map Pg.d)) s:=by
  unfold ml
  simp only[e]
  rw[if_pos (by rw[List.length_map];exact jw (by omega)),List.map_map]
  rfl
 have e3:mm [.lst (ps.map Pg.d)] s=ok (.lst ((ST.iC dR ps).map Pg.d)) s:=by
  unfold mm
  simp only[res]
  rw[if_pos (by rw[List.length_map];omega),C1]
  rfl
 simp only[wp_eB,wp_aCons,wp_aNil]
 refine Wp.of e1 (Wp.of e2 (Wp.of e3 ?_))
 refine Wp.of (show df [.lst ((ST.iC dR ps).map Pg.d)] s=ok (bD (ST.iC dR ps)) s from rfl) (q _ (λp hp=>dj.2 p ((ST.sF ps).mem_iff.mp hp)) (by rw[(ST.sF ps).length_eq];exact len) (Lp dj.1))
theorem Wp.Fz {i j k:Nat} {fa:Env->ae->Res (List D)} {env:Env} {s:ae} {QF:Fl->ae->Prop} (h:Wp (fa env s) λds s=>∃x y z,ds=[x,y,z]/\QF (.nx (((env.set i (some x)).set j (some y)).set k (some z))) s):Wp (qN i j k fa env s) QF:=by
 unfold qN
 refine Wp.ar (h.mono λds s ⟨x,y,z,e,q⟩=>?_)
 subst e
 exact Wp.ok q
theorem Pw {xs:List Int} {i:Int} {s:ae} (h0:0<=i) (h1:i<xs.length):∃x∈xs,aw (lI xs) (.int i) s=ok (.int x) s:=by
 obtain⟨x,e1,e2⟩:=mv h0 h1
 refine⟨x,List.mem_of_getElem? e2,?_⟩
 simp only[aw,iP,res,lI,DP,e1,Option.map_some,bG]
abbrev kJ (p:Pg):Prop:=eQ p=true
structure Laid (ps:List Pg):Prop where
 pg:∀p∈ps,eQ p=true
 up:ps.Pairwise λa b=>dR.lt a b=true
theorem Laid.gG {ps:List Pg} (h:Laid ps) (hl:ps.length<=24):gG ps=true:=by
 unfold DI.gG
 rw[decide_eq_true hl,List.all_eq_true.mpr h.pg,D1 h.up]
 rfl
theorem Laid.sub {ps qs:List Pg} (h:Laid ps) (hs:qs.Sublist ps):Laid qs:=⟨λp hp=>h.pg p (hs.subset hp),h.up.sublist hs⟩
theorem Ka {W:World} {s:ae} {k j n:Nat} {mo la ms:Int} {a5 a6 a7 a8 a9:Option D} {Q:Fl->ae->Prop} (h:bo s k) (hd:cB W kJ s j n) (fM:j≠k) (hn:n<1000) (m1:0<mo) (m2:mo<=4) (l1:0<la) (l2:la<=31) (s1:0<ms) (s2:ms<=4)
  (q:∀(b5 b6 b7 b8 b9:Option D) (s':ae),bo s' k->cB W kJ s' j (n+1)->(∀s0,s0.length<=j->Ex k s0 s->Ex k s0 s')->Q (.nx [some (.aj k),some (.aj j),some (.int mo),some (.int la),some (.int ms),b5,b6,b7,b8,b9]) s') :
  Wp ((ay (qK 6 7 (af (ax bu (af (aa 0) (af (aa 2) ai))) (af (ax bu (af (aa 0) (af (aa 3) ai))) ai))) (bX (aH (e2 aT (ax bu (af (aa 0) (af (eC (.int 4)) ai))) (eC (.int 0)))) (TK.gZ W (eC (.bl true)) (aa 1) (bZ (af (eC (.str "mended")) (af (aa 6) (af (aa 7) (af (ax bu (af (aa 0) (af (aa 4) ai))) ai)))))) (ay (aO (ax kR (af (aa 0) (af (aa 4) ai))) (gN 8)) (ay (aO (eB df (af (ba 1 [8] (aW (ax kR (af (aa 0) (af (aa 4) ai)))) (gN 0) (aH (e2 cL (aa 0) (aa 1))) (aa 0)) ai)) (gN 9)) (TK.gZ W (eC (.bl true)) (aa 1) (bZ (af (eC (.str "made")) (af (aa 6) (af (aa 7) (af (bZ (af (aa 8) (af (aa 9) ai))) ai)))))))))) [some (.aj k),some (.aj j),some (.int mo),some (.int la),some (.int ms),a5,a6,a7,a8,a9] s) Q:=by
 try simp only[VC]
 refine(dN h m1 (by omega)).mono λd t1 jq=>?_
 obtain⟨x1,rfl,kK,kL,h1,e1⟩:=jq
 try simp only[VC]
 refine(dN h1 l1 (by omega)).mono λd t2 hd2=>?_
 obtain⟨x2,rfl,pE,pF,h2,e2⟩:=hd2
 try simp only[VC]
 refine(dN h2 (by decide) (by decide)).mono λd t3 Ai=>?_
 obtain⟨x3,rfl,_,_,h3,e3⟩:=Ai
 have d3:=hd.ex (e1.trans (e2.trans e3)) fM
 try simp only[VC]
 split
 ·rw[tO]
  try simp only[VC]
  refine(dN h3 s1 (by omega)).mono λd t4 Aj=>?_
  obtain⟨x4,rfl,Sd,Se,h4,e4⟩:=Aj
  refine⟨by decide,?_⟩
  obtain⟨c,ec,dc⟩:=xM (p:=.bN x1 x2 x4) (d3.ex e4 fM) (Cw (by omega) (by omega) (by omega)) hn
  exact⟨_,ec,q _ _ _ _ _ _ (h4.set fM c) dc λs0 l0 x0=>(x0.trans (e1.trans (e2.trans (e3.trans e4)))).nG l0 c⟩
 ·obtain⟨n4,rfl⟩:∃n4:Nat,ms=n4:=⟨ms.toNat,by omega⟩
  refine(C7 h3 (by omega)).mono λd t4 Aj=>?_
  obtain⟨u1,rfl,k1,h4,e4⟩:=Aj
  have hi:∀{env:Env} {t:ae},bo t k->env[0]?=some (some (.aj k))->env[4]?=some (some (.int n4))->Wp (aW (ax kR (af (aa 0) (af (aa 4) ai))) env t) λds t'=>∃ns,ds=ns.map D.int/\cJ n4 ns/\bo t' k/\Ex k t t':=λ{env t} ht z0 z4=>by
   obtain⟨d,t',e,ns,rfl,r⟩:=C7 (n:=n4) ht (by omega)
   refine Wp.of (j9 (s1:=t') (ds:=ns.map D.int) (Wp.eq ?_)) ⟨ns,rfl,r⟩
   try simp only[VC]
   refine Wp.of (show aa 0 env t=ok (.aj k) t by unfold aa;rw[z0]) (Wp.of (show aa 4 env t=ok (.int n4) t by unfold aa;rw[z4]) (Wp.of e ⟨rfl,rfl⟩))
  try simp only[VC]
  refine(hi h4 rfl rfl).mono λds t5 Sf=>?_
  obtain⟨u2,rfl,k2,h5,e5⟩:=Sf
  refine⟨jw (by rw[List.length_map];have:=k2.len;omega),?_⟩
  refine Wp.of (fO (λx=>!decide (x∈u1)) (λx=>.int x) u2 λx _=>⟨[some (.int x),some (mD u1)],rfl,?_,λ_=>rfl⟩) ?_
  ·refine Wp.eq ?_
   simp only[VC,vU,and_self]
  ·refine Wp.of (show df [.lst ((u2.filter λx=>!decide (x∈u1)).map λx=>.int x)] t5=ok (mD (u2.filter λx=>!decide (x∈u1))) t5 from rfl) ?_
   rw[tO]
   try simp only[VC]
   refine⟨by decide,by decide,?_⟩
   have ll:(u2.filter λx=>!decide (x∈u1)).length<=8:=Nat.le_trans (List.length_filter_le _ _) (by have:=k2.len;omega)
   obtain⟨c,ec,dc⟩:=xM (p:=.made x1 x2 u1 (u2.filter λx=>!decide (x∈u1))) (d3.ex (e4.trans e5) fM) (Cy (by omega) (by omega) k1 (k2.filter _) (by omega) λx hx hl=>by simpa [hx] using (List.mem_filter.mp hl).2) hn
   exact⟨_,ec,q _ _ _ _ _ _ (h5.set fM c) dc λs0 l0 x0=>(x0.trans (e1.trans (e2.trans (e3.trans (e4.trans e5))))).nG l0 c⟩
theorem D3 {W:World} {s:ae} {k:Nat} (h:bo s k):Wp (pZ W [.aj k] s) λd s'=>∃ps,d=bD ps/\(∀p∈ps,fY p)/\ps.length<=24/\bo s' k/\Ex k s s'/\Laid ps:=by
 have hk:=h.lt
 have fM:s.length≠k:=by omega
 unfold pZ
 simp only[wp_fn,wp_sSeq,wp_sAsg,asg_N,aft_nx,DZ,List.map_cons,List.map_nil,List.cons_append,List.nil_append,List.length_cons,List.length_nil,List.replicate,true_and,Nat.reduceSub,Nat.reduceAdd,List.set_cons_succ,List.set_cons_zero]
 have d0:cB W kJ (s++[.dT []]) s.length 0:=⟨[],by simp,⟨.nil,λ_ h=>(List.not_mem_nil h).elim⟩,Nat.le_refl _⟩
 have h0:bo (s++[.dT []]) k:=h.app _
 refine Wp.Fz ?_
 try simp only[VC]
 refine(dN h0 (by decide) (by decide)).mono λd t1 jq=>?_
 obtain⟨x1,rfl,kK,kL,h1,e1⟩:=jq
 try simp only[VC]
 refine⟨by decide,?_⟩
 refine(dN h1 (by decide) (by decide)).mono λd t2 hd2=>?_
 obtain⟨x2,rfl,pE,pF,h2,e2⟩:=hd2
 obtain⟨la,GZ,Sg⟩:=Pw (xs:=[3,8,31]) (s:=t2) pE (by simpa using pF)
 refine Wp.of Sg ?_
 refine(dN h2 (by decide) (by decide)).mono λd t3 Ai=>?_
 obtain⟨x3,rfl,TQ,TR,h3,e3⟩:=Ai
 try simp only[VC]
 refine⟨_,_,_,rfl,?_⟩
 try simp only[VC]
 have Ga:0<la/\la<=31:=by
  simp only[List.mem_cons,List.not_mem_nil,or_false] at GZ
  rcases GZ with rfl|rfl|rfl<;>decide
 have dt:=d0.ex (e1.trans (e2.trans e3)) fM
 have ext:Ex k s t3:=(Ex.app k s _).trans (e1.trans (e2.trans e3))
 obtain⟨d4,t4,e4,x4,rfl,Sd,Se,h4,G0⟩:=dN (m:=25) h3 (by decide) (by decide)
 have Sh:=dt.ex G0 fM
 have QK:=ext.trans G0
 refine Wp.of (tL (s1:=t4) (n:=x4.toNat) (i:=x4) (Wp.eq ?_) (by omega) (by omega)) ?_
 ·simp only[VC]
  exact Wp.of e4 ⟨rfl,rfl⟩
 refine Wp.fX (λi env s'=>i<=x4.toNat->∃b5 b6 b7 b8 b9,env=[some (.aj k),some (.aj s.length),some (.int (1+x1)),some (.int la),some (.int (1+x3)),b5,b6,b7,b8,b9]/\bo s' k/\cB W kJ s' s.length i/\Ex k s s') _ (λ_=>⟨_,_,_,_,_,rfl,h4,Sh,QK⟩) (λi d env s' hd hI=>?_) (λenv s' hI=>?_)
 ·rw[gB] at hd
  split at hd
  ·rename_i hi
   cases hd
   obtain⟨b5,b6,b7,b8,b9,rfl,g1,g2,g3⟩:=hI (by omega)
   refine⟨_,rfl,?_⟩
   exact Ka g1 g2 fM (by omega) (by omega) (by omega) Ga.1 Ga.2 (by omega) (by omega) λc5 c6 c7 c8 c9 s2 k1 k2 k3=>(λ_=>⟨_,_,_,_,_,rfl,k1,k2,k3 s (Nat.le_refl _) g3⟩)
  ·cases hd
 ·rw[cZ] at hI
  obtain⟨b5,b6,b7,b8,b9,rfl,g1,g2,g3⟩:=hI (Nat.le_refl _)
  simp only[wp_sRet,aft_nx,fin_rt]
  exact D2 (g2.more (m:=24) (by omega)) (by decide) rfl λps hp hl hu=>⟨ps,rfl,λp h=>sR (hp p h),hl,g1,g3,hp,hu⟩
end DI
namespace DI
open PySem L2 TK
def cC (s:ae) (j n:Nat):Prop:=∃ns:List Int,s[j]?=some (.lst (ns.map D.int))/\ns.length<=n
theorem cC.lt {s:ae} {j n:Nat} (h:cC s j n):j<s.length:=by
 obtain⟨ps,e,_⟩:=h
 exact(List.getElem?_eq_some_iff.mp e).1
theorem cC.ex {s s':ae} {j n k:Nat} (h:cC s j n) (x:Ex k s s') (hj:j≠k):cC s' j n:=by
 have hl:=h.lt
 obtain⟨ps,e,r⟩:=h
 exact⟨ps,(x.val j hl hj).trans e,r⟩
theorem cC.set {s:ae} {j n i:Nat} (h:cC s j n) (hi:i≠j) (c:Cell):cC (s.set i c) j n:=by
 obtain⟨ps,e,r⟩:=h
 exact⟨ps,by rw[List.getElem?_set_ne hi];exact e,r⟩
theorem cC.app {s:ae} {j n:Nat} (h:cC s j n) (c:List Cell):cC (s++c) j n:=by
 have hl:=h.lt
 obtain⟨ps,e,r⟩:=h
 exact⟨ps,by rw[List.getElem?_append_left hl];exact e,r⟩
theorem EX {s:ae} {j n:Nat} {x:Int} (h:cC s j n) (hn:n<1000):hZ (.aj j) s=true/\∃c,iG (.aj j) (.int x) s=ok .aB (s.set j c)/\cC (s.set j c) j (n+1):=by
 have hl:=h.lt
 obtain⟨ns,e,len⟩:=h
 refine⟨by simp only[hZ,e],.lst ((ns++[x]).map D.int),?_,ns++[x],List.getElem?_set_self hl,by simp;omega⟩
 unfold iG
 simp only[e]
 rw[if_pos (by rw[decide_eq_true_eq,List.length_map];exact Nat.lt_of_lt_of_le (show ns.length<1000 by omega) (le_size (by decide)))]
 simp
theorem De {s:ae} {j n:Nat} {x:Int} (h:cC s j n):∃b,cL (.int x) (.aj j) s=ok (.bl b) s:=by
 obtain⟨ns,e,len⟩:=h
 have h2:cL (.int x) (.aj j) s=cL (.int x) (lI ns) s:=by
  simp only[cL,lq,res,e]
 exact⟨_,h2.trans n0⟩
theorem Lq {s:ae} {k m n:Nat} (h:bo s k) (hm:cC s m n) (G1:m≠k):Wp (nZ [.aj k,.aj m] s) λd s'=>∃ds:List Int,d=lI ds/\ds.length<=31/\bo s' k/\Ex k s s':=by
 unfold nZ
 rw[wp_fn]
 refine⟨rfl,?_⟩
 rw[wp_sSeq]
 refine Wp.Fz ?_
 try simp only[VC]
 refine(dN h (by decide) (by decide)).mono λd t1 jq=>?_
 obtain⟨x1,rfl,kK,kL,h1,e1⟩:=jq
 try simp only[VC]
 refine⟨by decide,?_⟩
 have fM:t1.length≠k:=by have:=h1.lt;omega
 refine(dN (h1.app _) (by decide) (by decide)).mono λd t2 hd2=>?_
 obtain⟨x2,rfl,pE,pF,h2,e2⟩:=hd2
 try simp only[VC]
 refine⟨_,_,_,rfl,?_⟩
 try simp only[VC]
 have G2:Ex k s t2:=e1.trans ((Ex.app k t1 _).trans e2)
 have i2:cC t2 t1.length 0:=cC.ex (s:=t1++[Cell.lst []]) ⟨[],by simp,Nat.le_refl _⟩ e2 fM
 have hlen:s.length<=t1.length:=e1.len
 refine Wp.of (ei (n:=31) rfl (by decide)) ?_
 have Si:m≠t1.length:=by have:=hm.lt;omega
 refine Wp.fX (λi env s'=>i<=31->∃b a5,env=[some (.aj k),some (.aj m),some (.bl b),some (.aj t1.length),some (.int (2+x2)),a5]/\bo s' k/\cC s' t1.length i/\cC s' m n/\Ex k s s') _ (λ_=>⟨_,_,rfl,h2,i2,hm.ex G2 G1,G2⟩) (λi d env s' hd hI=>?_) (λenv s' hI=>?_)
 ·rw[gB] at hd
  split at hd
  ·rename_i hi
   cases hd
   obtain⟨b,a5,rfl,g1,g2,g3,g4⟩:=hI (by omega)
   refine⟨_,rfl,?_⟩
   simp only[VC]
   have fin:∀(c:Bool) (s2:ae),bo s2 k->cC s2 t1.length i->cC s2 m n->Ex k s s2 ->
     if c=true then hZ (.aj t1.length) s2=true/\Wp (iG (.aj t1.length) (.int (0+(i:Int))) s2) λx s3=>i+1<=31->∃b a5,([some (.aj k),some (.aj m),some (.bl c),some (.aj t1.length),some (.int (2+x2)),some (.int (0+(i:Int)))]:Env)=[some (.aj k),some (.aj m),some (.bl b),some (.aj t1.length),some (.int (2+x2)),a5]/\bo s3 k/\cC s3 t1.length (i+1)/\cC s3 m n/\Ex k s s3
     else i+1<=31->∃b a5,([some (.aj k),some (.aj m),some (.bl c),some (.aj t1.length),some (.int (2+x2)),some (.int (0+(i:Int)))]:Env)=[some (.aj k),some (.aj m),some (.bl b),some (.aj t1.length),some (.int (2+x2)),a5]/\bo s2 k/\cC s2 t1.length (i+1)/\cC s2 m n/\Ex k s s2:=λc s2 k1 k2 k3 k4=>by
    cases c with
    |true =>
     obtain⟨q1,cc,q2,q3⟩:=EX (x:=0+(i:Int)) k2 (by omega)
     rw[if_pos rfl]
     exact⟨q1,Wp.of q2 λ_=>⟨_,_,rfl,k1.set fM cc,q3,k3.set (Ne.symm Si) cc,k4.nG hlen cc⟩⟩
    |false =>
     rw[if_neg Bool.false_ne_true]
     obtain⟨ns,z1,z2⟩:=k2
     exact λ_=>⟨_,_,rfl,k1,⟨ns,z1,by omega⟩,k3,k4⟩
   cases b with
   |true =>
    simp only[if_true]
    obtain⟨b2,eb⟩:=De (x:=0+(i:Int)) g3
    refine Wp.of eb ?_
    simp only[wp_truB]
    exact fin b2 s' g1 g2 g3 g4
   |false =>
    simp only[Bool.false_eq_true,if_false]
    refine(dN g1 (by omega) (by omega)).mono λd s2 hd2=>?_
    obtain⟨x3,rfl,_,_,k1,e3⟩:=hd2
    have k2:=g2.ex e3 fM
    have k3:=g3.ex e3 G1
    have k4:=g4.trans e3
    simp only[wp_eqI,wp_isBl]
    cases (x3==0) with
    |true =>
     simp only[if_true]
     obtain⟨b2,eb⟩:=De (x:=0+(i:Int)) k3
     refine Wp.of eb ?_
     simp only[wp_truB]
     exact fin b2 s2 k1 k2 k3 k4
    |false =>
     simp only[Bool.false_eq_true,if_false,wp_truB]
     exact fin false s2 k1 k2 k3 k4
  ·cases hd
 ·rw[cZ] at hI
  obtain⟨b,a5,rfl,g1,⟨ns,z1,z2⟩,g3,g4⟩:=hI (Nat.le_refl _)
  simp only[VC]
  refine Wp.of (show cH (.aj t1.length) s'=ok (lI ns) (s'.set t1.length .dead) from by simp only[cH,z1]) ?_
  exact⟨ns,rfl,z2,g1.set fM _,g4.nG hlen _⟩
end DI
namespace DI
open PySem L2 TK
theorem cC.more {s:ae} {j n m:Nat} (h:cC s j n) (hm:n<=m):cC s j m:=by
 obtain⟨ns,e,l⟩:=h
 exact⟨ns,e,by omega⟩
def dS (s:ae) (j n:Nat):Prop:=∃ls:List (List Int),s[j]?=some (.lst (ls.map lI))/\ls.length=n
theorem dS.lt {s:ae} {j n:Nat} (h:dS s j n):j<s.length:=by
 obtain⟨ps,e,_⟩:=h
 exact(List.getElem?_eq_some_iff.mp e).1
theorem dS.ex {s s':ae} {j n k:Nat} (h:dS s j n) (x:Ex k s s') (hj:j≠k):dS s' j n:=by
 have hl:=h.lt
 obtain⟨ps,e,r⟩:=h
 exact⟨ps,(x.val j hl hj).trans e,r⟩
theorem dS.set {s:ae} {j n i:Nat} (h:dS s j n) (hi:i≠j) (c:Cell):dS (s.set i c) j n:=by
 obtain⟨ps,e,r⟩:=h
 exact⟨ps,by rw[List.getElem?_set_ne hi];exact e,r⟩
theorem D4 {s:ae} {j n:Nat} {ds:List Int} (h:dS s j n) (hn:n<1000):hZ (.aj j) s=true/\∃c,iG (.aj j) (lI ds) s=ok .aB (s.set j c)/\dS (s.set j c) j (n+1):=by
 have hl:=h.lt
 obtain⟨ns,e,len⟩:=h
 refine⟨by simp only[hZ,e],.lst ((ns++[ds]).map lI),?_,ns++[ds],List.getElem?_set_self hl,by simp;omega⟩
 unfold iG
 simp only[e]
 rw[if_pos (by rw[decide_eq_true_eq,List.length_map];exact Nat.lt_of_lt_of_le (show ns.length<1000 by omega) (le_size (by decide)))]
 simp
structure BI (W:World) (k j b n q:Nat) (s0 s:ae):Prop where
 st:bo s k
 dict:cB W kJ s j n
 bN:∀i,i<8->cC s (b+i) q
 ext:Ex k s0 s
section
variable {W:World} {k j b n q:Nat} {s0 s:ae}
theorem BI.draw (h:BI W k j b n q s0 s) (hj:j≠k) (hb:∀i,i<8->b+i≠k) {s':ae} (x:Ex k s s') (hs:bo s' k):BI W k j b n q s0 s' :=
 ⟨hs,h.dict.ex x hj,λi hi=>(h.bN i hi).ex x (hb i hi),h.ext.trans x⟩
theorem BI.put (h:BI W k j b n q s0 s) (hj:j≠k) (kM:∀i,i<8->b+i≠j) (hl:s0.length<=j) {p:Pg} (hf:eQ p=true) (hn:n<1000):∃s',lB W (.aj j) p.d (.bl true) s=some s'/\BI W k j b (n+1) q s0 s'/\Ex j s s':=by
 obtain⟨c,e,d⟩:=xM h.dict hf hn
 exact⟨_,e,⟨h.st.set hj c,d,λi hi=>(h.bN i hi).set (Ne.symm (kM i hi)) c,h.ext.nG hl c⟩,Ex.set j s c⟩
end
noncomputable def memD (b:Nat):D:=.lst ((List.range 8).map λi:Nat=>D.aj (b+i))
theorem EY {b:Nat} {i:Int} {s:ae} (h0:0<=i) (h1:i<8):aw (memD b) (.int i) s=ok (.aj (b+i.toNat)) s:=by
 obtain⟨x,e1,e2⟩:=mv (xs:=(List.range 8).map λi:Nat=>D.aj (b+i)) h0 (by simpa using h1)
 have:x=.aj (b+i.toNat):=by
  rw[List.getElem?_map,List.getElem?_range (by omega)] at e2
  exact(Option.some.inj e2).symm
 subst this
 simp only[aw,iP,res,memD,e1,bG]
theorem Kb {W:World} {k j b n q:Nat} {s0 s:ae} {mo of mu:Int} {a6 a7 a8 a9 jU jV:Option D} {Q:Fl->ae->Prop} (h:BI W k j b n q s0 s) (hj:j≠k) (hb:∀i,i<8->b+i≠k) (kM:∀i,i<8->b+i≠j) (hl:s0.length<=j) (Sj:s0.length<=b) (hn:n<1000) (hq:q<1000) (pG:0<=mu/\mu<4)
  (g:∀(b8 b9:Option D) (s':ae),BI W k j b (n+1) (q+1) s0 s'->(∀t,t<s.length->t≠k->t≠j->(∀i,i<8->b+i≠t)->s'[t]?=s[t]?)->Q (.nx [some (.aj k),some (.aj j),some (.int mo),some (.int of),some (.int mu),some (memD b),a6,a7,b8,b9,jU,jV]) s') :
  Wp ((ay (aO (bZ (af (ax bu (af (aa 0) (af (eC (.int 8)) ai))) (af (ax bu (af (aa 0) (af (eC (.int 31)) ai))) ai))) (gT [(gN 8),(gN 9)])) (ay (eG (gL (e2 aw (aa 5) (aa 8)) (aa 9))) (TK.gZ W (eC (.bl true)) (aa 1) (bZ (af (eC (.str "mended")) (af (aa 4) (af (aa 9) (af (aa 8) ai)))))))) [some (.aj k),some (.aj j),some (.int mo),some (.int of),some (.int mu),some (memD b),a6,a7,a8,a9,jU,jV] s) Q:=by
 simp only[VC]
 refine(dN h.st (by decide) (by decide)).mono λd t1 jq=>?_
 obtain⟨x1,rfl,kK,kL,h1,e1⟩:=jq
 refine(dN h1 (by decide) (by decide)).mono λd t2 hd2=>?_
 obtain⟨x2,rfl,pE,pF,h2,e2⟩:=hd2
 refine⟨by decide,?_⟩
 try simp only[VC]
 refine Wp.of (EY kK kL) ?_
 have B2:=h.draw hj hb (e1.trans e2) h2
 obtain⟨q1,c,q2,q3⟩:=EX (x:=x2) (B2.bN x1.toNat (by omega)) hq
 refine⟨q1,Wp.of q2 ?_⟩
 have hx:=hb x1.toNat (by omega)
 have Sm:=kM x1.toNat (by omega)
 have B3:BI W k j b n (q+1) s0 (t2.set (b+x1.toNat) c):=⟨B2.st.set hx c,B2.dict.set Sm c,λi hi=>by
  by_cases pA:i=x1.toNat
  ·subst pA;exact q3
  ·exact((B2.bN i hi).set (by omega) c).more (by omega),B2.ext.nG (by omega) c⟩
 rw[tO]
 simp only[VC]
 refine⟨by decide,?_⟩
 obtain⟨s',e,B4,e4⟩:=B3.put hj kM hl (p:=.bN mu x2 x1) (Cw pG ⟨pE,pF⟩ ⟨kK,kL⟩) hn
 refine⟨s',e,g _ _ _ B4 λt ht Gn Sn So=>?_⟩
 have l2:s.length<=t2.length:=(e1.trans e2).len
 rw[e4.val t (by rw[List.length_set];omega) Sn,List.getElem?_set_ne (So _ (by omega)),(e1.trans e2).val t ht Gn]
end DI
namespace DI
open PySem L2 TK
theorem Kc {W:World} {k j b n q:Nat} {s0 s:ae} {mo of mu:Int} {a5 a7 a8 a9 jU jV:Option D} {Q:Fl->ae->Prop} (h:BI W k j b n q s0 s) (L:dS s (b+8) 8) (hj:j≠k) (hb:∀i,i<8->b+i≠k) (jr:b+8≠k) (kM:∀i,i<8->b+i≠j) (nH:b+8≠j) (hl:s0.length<=j) (hn:n<1000) (o1:0<of) (o2:of<=3) (pG:0<=mu/\mu<4)
  (g:∀(b9 eZ e9:Option D) (s':ae),BI W k j b (n+1) q s0 s'->dS s' (b+8) 8->Q (.nx [some (.aj k),some (.aj j),some (.int mo),some (.int of),some (.int mu),a5,some (.aj (b+8)),a7,a8,b9,eZ,e9]) s') :
  Wp ((ay (aO (ax bu (af (aa 0) (af (eC (.int 31)) ai))) (gN 9)) (ay (aO (ba 1 [0,3] (bE (af (eC (.int 8)) ai)) (gN 0) (aH (e2 aT (ax bu (af (aa 1) (af (aa 2) ai))) (eC (.int 0)))) (aa 0)) (gN 10)) (ay (aO (eB df (af (ba 1 [9,6] (aW (aa 10)) (gN 0) (aH (e2 bM (aa 1) (e2 aw (aa 2) (aa 0)))) (aa 0)) ai)) (gN 11)) (TK.gZ W (eC (.bl true)) (aa 1) (bZ (af (eC (.str "made")) (af (aa 4) (af (aa 9) (af (bZ (af (aa 11) (af (eB df (af (ba 1 [9,6] (aW (aa 10)) (gN 0) (aH (e2 cL (aa 1) (e2 aw (aa 2) (aa 0)))) (aa 0)) ai)) ai))) ai))))))))) [some (.aj k),some (.aj j),some (.int mo),some (.int of),some (.int mu),a5,some (.aj (b+8)),a7,a8,a9,jU,jV] s) Q:=by
 rw[wp_sSeq]
 simp only[VC]
 refine(dN h.st (by decide) (by decide)).mono λd t1 jq=>?_
 obtain⟨x1,rfl,kK,kL,h1,e1⟩:=jq
 have B1:=h.draw hj hb e1 h1
 have L1:=L.ex e1 jr
 try simp only[VC]
 refine Wp.of (ei (n:=8) rfl (by decide)) ⟨by rw[cZ];exact le_size (by decide),?_⟩
 have seen:Wp (eO 1 (fk [0,3] [some (.aj k),some (.aj j),some (.int mo),some (.int of),some (.int mu),a5,some (.aj (b+8)),a7,a8,some (.int x1),jU,jV]) (gN 0) (aH (e2 aT (ax bu (af (aa 1) (af (aa 2) ai))) (eC (.int 0)))) (aa 0) (bR 0 8) t1)
   λxs s'=>∃ns:List Int,xs=ns.map D.int/\(∀x∈ns,0<=x/\x<8)/\(ns.Pairwise (· < ·)/\ns.length<=8)/\BI W k j b n q s0 s'/\dS s' (b+8) 8:=by
  refine tK (λi acc s'=>i<=8->∃ns:List Int,acc=ns.map D.int/\(∀x∈ns,0<=x/\x<8/\x<i)/\(ns.Pairwise (· < ·)/\ns.length<=i)/\BI W k j b n q s0 s'/\dS s' (b+8) 8) (bR 0 8) (λ_=>⟨[],rfl,by simp,⟨.nil,Nat.le_refl _⟩,B1,L1⟩) (λi d acc s' hd hI=>?_) λacc s' hI=>?_
  ·rw[gB] at hd
   split at hd
   ·rename_i hi
    cases hd
    obtain⟨ns,rfl,m1,⟨vz,m2⟩,B,L'⟩:=hI (by omega)
    refine⟨[some (.int (0+i)),some (.aj k),some (.int of)],rfl,?_⟩
    simp only[VC]
    refine(dN B.st o1 (by omega)).mono λd t2 hd2=>?_
    obtain⟨x2,rfl,_,_,h2,e2⟩:=hd2
    try simp only[VC]
    have B':=B.draw hj hb e2 h2
    have L2:=L'.ex e2 jr
    split
    ·exact λ_=>⟨ns++[0+(i:Int)],by simp,λx hx=>by
      rcases List.mem_append.mp hx with hx|hx
      ·have:=m1 x hx;omega
      ·rw[List.mem_singleton.mp hx];omega,⟨List.pairwise_append.mpr ⟨vz,List.pairwise_singleton _ _,λa ha b hb=>by rw[List.mem_singleton.mp hb];have:=m1 a ha;omega⟩,by simp;omega⟩,B',L2⟩
    ·exact λ_=>⟨ns,rfl,λx hx=>by have:=m1 x hx;omega,⟨vz,by omega⟩,B',L2⟩
   ·cases hd
  ·rw[cZ] at hI
   obtain⟨ns,e,m1,r⟩:=hI (Nat.le_refl _)
   exact⟨ns,e,λx hx=>⟨(m1 x hx).1,(m1 x hx).2.1⟩,r⟩
 refine seen.mono λxs t2 hx=>?_
 obtain⟨ns,rfl,m1,⟨vz,m2⟩,B2,ls,le,ll⟩:=hx
 have mk:cJ 8 ns:=⟨m1,vz⟩
 try simp only[VC]
 have G3:∀x∈ns,∃ds:List Int,aw (.aj (b+8)) (.int x) t2=ok (lI ds) t2:=λx hx=>by
  obtain⟨y,e1,e2⟩:=mv (xs:=ls) (m1 x hx).1 (by have:=(m1 x hx).2;omega)
  refine⟨y,?_⟩
  simp only[aw,iP,res,le,DP,e1,Option.map_some,bG]
 refine Wp.of (gU (ds:=ns.map D.int) rfl) ⟨jw (by rw[List.length_map];omega),?_⟩
 have pick:∃p:Int->Bool,∀x∈ns,aH (e2 bM (aa 1) (e2 aw (aa 2) (aa 0))) [some (.int x),some (.int x1),some (.aj (b+8))] t2=ok (p x) t2/\aH (e2 cL (aa 1) (e2 aw (aa 2) (aa 0))) [some (.int x),some (.int x1),some (.aj (b+8))] t2=ok (!p x) t2:=by
  refine⟨λx=>if h:x∈ns then decide (x1∈Classical.choose (G3 x h)) else false,λx hx=>?_⟩
  have e:=Classical.choose_spec (G3 x hx)
  simp only[dif_pos hx]
  constructor
  ·refine Wp.eq ?_
   simp only[VC]
   refine Wp.of e ?_
   simp only[VC,kn,and_self]
  ·refine Wp.eq ?_
   simp only[VC]
   refine Wp.of e ?_
   simp only[VC,n0,and_self]
 obtain⟨p,hp⟩:=pick
 refine Wp.of (fO p (λx=>.int x) ns λx hx=>⟨[some (.int x),some (.int x1),some (.aj (b+8))],rfl,(hp x hx).1,λ_=>rfl⟩) ?_
 refine Wp.of (show df [.lst ((ns.filter p).map λx=>.int x)] t2=ok (mD (ns.filter p)) t2 from rfl) ?_
 rw[tO]
 simp only[VC]
 refine Wp.of (gU (ds:=ns.map D.int) rfl) ⟨jw (by rw[List.length_map];omega),?_⟩
 refine Wp.of (fO (λx=>!p x) (λx=>.int x) ns λx hx=>⟨[some (.int x),some (.int x1),some (.aj (b+8))],rfl,(hp x hx).2,λ_=>rfl⟩) ?_
 refine Wp.of (show df [.lst ((ns.filter λx=>!p x).map λx=>.int x)] t2=ok (mD (ns.filter λx=>!p x)) t2 from rfl) ?_
 refine⟨by decide,by decide,?_⟩
 obtain⟨s',e,B4,e4⟩:=B2.put hj kM hl (p:=.made mu x1 (ns.filter p) (ns.filter λx=>!p x)) (Cy pG ⟨kK,kL⟩ (mk.filter _) (mk.filter _) (Nat.le_refl _) λx hx hl=>by simpa [(List.mem_filter.mp hx).2] using (List.mem_filter.mp hl).2) hn
 exact⟨s',e,g _ _ _ _ B4 (dS.ex (⟨ls,le,ll⟩:dS t2 (b+8) 8) e4 nH)⟩
theorem Kd {W:World} {k j b n q i:Nat} {s0 s:ae} {mo of mu:Int} {a7 a9 jU jV:Option D} {Q:Fl->ae->Prop} (h:BI W k j b n q s0 s) (L:dS s (b+8) i) (hi:i<8) (hj:j≠k) (hb:∀i,i<8->b+i≠k) (jr:b+8≠k) (nH:b+8≠j) (Sj:s0.length<=b)
  (g:∀s',BI W k j b n q s0 s'->dS s' (b+8) (i+1)->Q (.nx [some (.aj k),some (.aj j),some (.int mo),some (.int of),some (.int mu),some (memD b),some (.aj (b+8)),a7,some (.int i),a9,jU,jV]) s') :
  Wp ((eG (gL (aa 6) (ax nZ (af (aa 0) (af (e2 aw (aa 5) (aa 8)) ai))))) [some (.aj k),some (.aj j),some (.int mo),some (.int of),some (.int mu),some (memD b),some (.aj (b+8)),a7,some (.int i),a9,jU,jV] s) Q:=by
 simp only[VC]
 obtain⟨q1,_⟩:=D4 (ds:=[]) L (by omega)
 refine⟨q1,?_⟩
 refine Wp.of (EY (i:=(i:Int)) (by omega) (by omega)) ?_
 rw[Int.toNat_natCast]
 refine(Lq h.st (h.bN i hi) (hb i hi)).mono λd t1 hd=>?_
 obtain⟨ds,rfl,_,h1,e1⟩:=hd
 obtain⟨_,c,q2,q3⟩:=D4 (ds:=ds) (L.ex e1 jr) (by omega)
 have B1:=h.draw hj hb e1 h1
 refine Wp.of q2 (g _ ⟨B1.st.set jr c,B1.dict.set nH c,λi hi=>(B1.bN i hi).set (by omega) c,B1.ext.nG (by omega) c⟩ q3)
end DI
namespace DI
open PySem L2 TK
theorem MJ {env:Env} {s:ae} {Q:D->ae->Prop} (q:Q (memD s.length) (s++List.replicate 8 (.lst []))):Wp (ba 1 [] (bE (af (eC (.int 8)) ai)) (gN 0) cx (eNew ai) env s) Q:=by
 rw[wp_comp]
 refine Wp.of (ei (n:=8) rfl (by decide)) ⟨by rw[cZ];exact le_size (by decide),?_⟩
 refine tK (λi acc s'=>acc=(List.range i).map (λx:Nat=>D.aj (s.length+x))/\s'=s++List.replicate i (.lst [])) (bR 0 8) ⟨rfl,by simp⟩ (λi d acc s' hd hI=>?_) λacc s' hI=>?_
 ·obtain⟨rfl,rfl⟩:=hI
  rw[gB] at hd
  split at hd
  ·cases hd
   refine⟨[some (.int (0+i))],rfl,?_⟩
   refine Wp.of (show cx _ _=ok true _ from rfl) ?_
   rw[if_pos rfl]
   simp only[wp_new,wp_aNil]
   refine⟨by decide,?_,?_⟩
   ·rw[List.range_succ,List.map_append]
    simp
   ·rw[List.replicate_succ',List.append_assoc]
  ·cases hd
 ·rw[cZ] at hI
  obtain⟨rfl,rfl⟩:=hI
  exact q
theorem Jc {W:World} {k j n:Nat} {s0 s:ae} {mo of mu:Int} {a5 a6 a7 a8 a9 jU jV:Option D} {Q:Fl->ae->Prop} (h:bo s k) (hd:cB W kJ s j n) (x0:Ex k s0 s) (hj:j≠k) (hl:s0.length<=j) (hn:n<900) (o1:0<of) (o2:of<=3) (pG:0<=mu/\mu<4)
  (g:∀(b5 b6 b7 b8 b9 eZ e9:Option D) (s':ae),bo s' k->cB W kJ s' j (n+7)->Ex k s0 s'->Q (.nx [some (.aj k),some (.aj j),some (.int mo),some (.int of),some (.int mu),b5,b6,b7,b8,b9,eZ,e9]) s') :
  Wp ((ay (aO (bZ (af (ba 1 [] (bE (af (eC (.int 8)) ai)) (gN 0) cx (eNew ai)) (af (eNew ai) ai))) (gT [(gN 5),(gN 6)])) (ay (cw (bE (af (ax bu (af (aa 0) (af (eC (.int 4)) ai))) ai)) (gN 7) (ay (aO (bZ (af (ax bu (af (aa 0) (af (eC (.int 8)) ai))) (af (ax bu (af (aa 0) (af (eC (.int 31)) ai))) ai))) (gT [(gN 8),(gN 9)])) (ay (eG (gL (e2 aw (aa 5) (aa 8)) (aa 9))) (TK.gZ W (eC (.bl true)) (aa 1) (bZ (af (eC (.str "mended")) (af (aa 4) (af (aa 9) (af (aa 8) ai))))))))) (ay (cw (bE (af (eC (.int 8)) ai)) (gN 8) (eG (gL (aa 6) (ax nZ (af (aa 0) (af (e2 aw (aa 5) (aa 8)) ai)))))) (cw (bE (af (ax bu (af (aa 0) (af (eC (.int 5)) ai))) ai)) (gN 7) (ay (aO (ax bu (af (aa 0) (af (eC (.int 31)) ai))) (gN 9)) (ay (aO (ba 1 [0,3] (bE (af (eC (.int 8)) ai)) (gN 0) (aH (e2 aT (ax bu (af (aa 1) (af (aa 2) ai))) (eC (.int 0)))) (aa 0)) (gN 10)) (ay (aO (eB df (af (ba 1 [9,6] (aW (aa 10)) (gN 0) (aH (e2 bM (aa 1) (e2 aw (aa 2) (aa 0)))) (aa 0)) ai)) (gN 11)) (TK.gZ W (eC (.bl true)) (aa 1) (bZ (af (eC (.str "made")) (af (aa 4) (af (aa 9) (af (bZ (af (aa 11) (af (eB df (af (ba 1 [9,6] (aW (aa 10)) (gN 0) (aH (e2 cL (aa 1) (e2 aw (aa 2) (aa 0)))) (aa 0)) ai)) ai))) ai))))))))))))) [some (.aj k),some (.aj j),some (.int mo),some (.int of),some (.int mu),a5,a6,a7,a8,a9,jU,jV] s) Q:=by
 have hk:=h.lt
 have TU:=hd.lt
 have nB:s0.length<=s.length:=x0.len
 rw[wp_sSeq]
 simp only[wp_sAsg,wp_tup,wp_aCons,wp_aNil]
 refine MJ ?_
 simp only[wp_new,wp_aNil]
 refine⟨by decide,le_size (by simp only[List.length_cons,List.length_nil];decide),?_⟩
 simp only[asg_T,asg_cons,asg_nil,List.set_cons_succ,List.set_cons_zero,aft_nx]
 generalize fI:s++List.replicate 8 (Cell.lst [])++[Cell.lst []]=s1
 have Sq:(s++List.replicate 8 (Cell.lst [])).length=s.length+8:=by simp
 rw[Sq]
 have e1:Ex k s s1:=by rw[<- fI,List.append_assoc];exact Ex.app k s _
 have B1:BI W k j s.length n 0 s0 s1:=by
  refine⟨by rw[<- fI,List.append_assoc];exact h.app _,hd.ex e1 hj,λi hi=>⟨[],?_,Nat.le_refl _⟩,x0.trans e1⟩
  rw[<- fI,List.append_assoc,List.getElem?_append_right (by omega),List.getElem?_append_left (by simp;omega),show s.length+i-s.length=i by omega,List.getElem?_replicate,if_pos hi]
  rfl
 have L1:dS s1 (s.length+8) 0:=⟨[],by rw[<- fI,List.getElem?_append_right (by simp)];simp,rfl⟩
 have hb:∀i,i<8->s.length+i≠k:=λi _=>by omega
 have kM:∀i,i<8->s.length+i≠j:=λi _=>by omega
 have jr:s.length+8≠k:=by omega
 have nH:s.length+8≠j:=by omega
 have l1:s.length+8<s1.length:=L1.lt
 rw[wp_sSeq,wp_sFor]
 obtain⟨_,t1,et,x1,rfl,kK,kL,h1,G4⟩:=dN (m:=4) B1.st (by decide) (by decide)
 refine Wp.of (tL (s1:=t1) (n:=x1.toNat) (i:=x1) (Wp.eq (by simp only[VC];exact Wp.of et ⟨rfl,rfl⟩)) (by omega) (by omega)) ?_
 have B2:=B1.draw hj hb G4 h1
 have L2:=L1.ex G4 jr
 refine Wp.fX (λi env s'=>i<=x1.toNat->∃b7 b8 b9 eZ e9,env=[some (.aj k),some (.aj j),some (.int mo),some (.int of),some (.int mu),some (memD s.length),some (.aj (s.length+8)),b7,b8,b9,eZ,e9]/\BI W k j s.length (n+i) i s0 s'/\dS s' (s.length+8) 0) _ (λ_=>⟨_,_,_,_,_,rfl,B2,L2⟩) (λi d env s' hd hI=>?_) (λenv s' hI=>?_)
 ·rw[gB] at hd
  split at hd
  ·cases hd
   obtain⟨b7,b8,b9,eZ,e9,rfl,B,L⟩:=hI (by omega)
   refine⟨_,rfl,?_⟩
   exact Kb B hj hb kM hl nB (by omega) (by omega) pG λc8 c9 s2 B' keep=>(λ_=>⟨_,_,_,_,_,rfl,B',by
    obtain⟨ls,le,ll⟩:=L
    exact⟨ls,(keep _ (List.getElem?_eq_some_iff.mp le).1 jr nH λi hi=>by omega).trans le,ll⟩⟩)
  ·cases hd
 rw[cZ] at hI
 obtain⟨b7,b8,b9,eZ,e9,rfl,B3,L3⟩:=hI (Nat.le_refl _)
 rw[aft_nx,wp_sSeq,wp_sFor]
 refine Wp.of (ei (n:=8) rfl (by decide)) ?_
 refine Wp.fX (λi env s'=>i<=8->∃b7 b8 b9 eZ e9,env=[some (.aj k),some (.aj j),some (.int mo),some (.int of),some (.int mu),some (memD s.length),some (.aj (s.length+8)),b7,b8,b9,eZ,e9]/\BI W k j s.length (n+x1.toNat) x1.toNat s0 s'/\dS s' (s.length+8) i) _ (λ_=>⟨_,_,_,_,_,rfl,B3,L3⟩) (λi d env s' hd hI=>?_) (λenv s' hI=>?_)
 ·rw[gB] at hd
  split at hd
  ·rename_i hi
   cases hd
   obtain⟨b7,b8,b9,eZ,e9,rfl,B,L⟩:=hI (by omega)
   refine⟨_,rfl,?_⟩
   simp only[Int.zero_add,List.set_cons_succ,List.set_cons_zero]
   exact Kd B L hi hj hb jr nH nB λs2 B' L'=>(λ_=>⟨_,_,_,_,_,rfl,B',L'⟩)
  ·cases hd
 rw[cZ] at hI
 obtain⟨b7,b8,b9,eZ,e9,rfl,B4,L4⟩:=hI (Nat.le_refl _)
 rw[aft_nx,wp_sFor]
 obtain⟨_,t5,Sr,x5,rfl,TV,TX,h5,G5⟩:=dN (m:=5) B4.st (by decide) (by decide)
 refine Wp.of (tL (s1:=t5) (n:=x5.toNat) (i:=x5) (Wp.eq (by simp only[VC];exact Wp.of Sr ⟨rfl,rfl⟩)) (by omega) (by omega)) ?_
 have B5:=B4.draw hj hb G5 h5
 have L5:=L4.ex G5 jr
 refine Wp.fX (λi env s'=>i<=x5.toNat->∃b7 b8 b9 eZ e9,env=[some (.aj k),some (.aj j),some (.int mo),some (.int of),some (.int mu),some (memD s.length),some (.aj (s.length+8)),b7,b8,b9,eZ,e9]/\BI W k j s.length (n+x1.toNat+i) x1.toNat s0 s'/\dS s' (s.length+8) 8) _ (λ_=>⟨_,_,_,_,_,rfl,B5,L5⟩) (λi d env s' hd hI=>?_) (λenv s' hI=>?_)
 ·rw[gB] at hd
  split at hd
  ·rename_i hi
   cases hd
   obtain⟨b7,b8,b9,eZ,e9,rfl,B,L⟩:=hI (by omega)
   refine⟨_,rfl,?_⟩
   exact Kc B L hj hb jr kM nH hl (by omega) o1 o2 pG λc9 Ss Su s2 B' L'=>(λ_=>⟨_,_,_,_,_,rfl,B',L'⟩)
  ·cases hd
 rw[cZ] at hI
 obtain⟨b7,b8,b9,eZ,e9,rfl,B6,L6⟩:=hI (Nat.le_refl _)
 exact g _ _ _ _ _ _ _ _ B6.st (B6.dict.more (by omega)) B6.ext
theorem MK {W:World} {s:ae} {k:Nat} (h:bo s k):Wp (tH W [.aj k] s) λd s'=>∃ps,d=bD ps/\(∀p∈ps,fY p)/\ps.length<=24/\bo s' k/\Ex k s s'/\Laid ps:=by
 have hk:=h.lt
 have fM:s.length≠k:=by omega
 unfold tH
 rw[wp_fn]
 refine⟨rfl,?_⟩
 rw[wp_sSeq]
 simp only[wp_sAsg,wp_tup,wp_aCons,wp_aNil,DZ]
 have d0:cB W kJ (s++[.dT []]) s.length 0:=⟨[],by simp,⟨.nil,λ_ h=>(List.not_mem_nil h).elim⟩,Nat.le_refl _⟩
 have h0:bo (s++[.dT []]) k:=h.app _
 try simp only[VC]
 refine(dN h0 (by decide) (by decide)).mono λd t1 jq=>?_
 obtain⟨x1,rfl,kK,kL,h1,e1⟩:=jq
 try simp only[VC]
 refine(dN h1 (by decide) (by decide)).mono λd t2 hd2=>?_
 obtain⟨x2,rfl,pE,pF,h2,e2⟩:=hd2
 try simp only[VC]
 refine⟨by decide,?_⟩
 have dt:=d0.ex (e1.trans e2) fM
 have ext:Ex k s t2:=(Ex.app k s _).trans (e1.trans e2)
 try simp only[VC]
 refine Wp.of (tL (s1:=t2) (n:=(1+x1).toNat) (i:=1+x1) rfl (by omega) (by omega)) ?_
 refine Wp.fX (λi env s'=>i<=(1+x1).toNat->∃b4 b5 b6 b7 b8 b9 eZ e9,env=[some (.aj k),some (.aj s.length),some (.int (1+x1)),some (.int (1+x2)),b4,b5,b6,b7,b8,b9,eZ,e9]/\bo s' k/\cB W kJ s' s.length (7*i)/\Ex k s s') _ (λ_=>⟨_,_,_,_,_,_,_,_,rfl,h2,dt,ext⟩) (λi d env s' hd hI=>?_) (λenv s' hI=>?_)
 ·rw[gB] at hd
  split at hd
  ·rename_i hi
   cases hd
   obtain⟨b4,b5,b6,b7,b8,b9,eZ,e9,rfl,g1,g2,g3⟩:=hI (by omega)
   refine⟨_,rfl,?_⟩
   exact Jc g1 g2 g3 fM (Nat.le_refl _) (by omega) (by omega) (by omega) (by omega) λc5 c6 c7 c8 c9 Ss Su s2 k1 k2 k3=>(λ_=>⟨_,_,_,_,_,_,_,_,rfl,k1,k2.more (by omega),k3⟩)
  ·cases hd
 ·rw[cZ] at hI
  obtain⟨b4,b5,b6,b7,b8,b9,eZ,e9,rfl,g1,g2,g3⟩:=hI (Nat.le_refl _)
  simp only[wp_sRet,aft_nx,fin_rt]
  exact D2 (g2.more (m:=24) (by omega)) (by decide) rfl λps hp hl hu=>⟨ps,rfl,λp h=>sR (hp p h),hl,g1,g3,hp,hu⟩
end DI
namespace DI
open PySem L2 TK
section
variable (ps:List Pg) (m k:Int)
noncomputable def sN (d:Nat):Bool:=decide ((d:Int)∈shown ps m k)
noncomputable def lN (d:Nat):Bool:=decide ((d:Int)∈cm ps m k)
noncomputable def mN (d:Nat):Bool:=decide ((d:Int)∈bJ ps m k)
noncomputable def js:List Int:=((List.range 31).filter λd=>pr (sN ps m k) (mN ps m k) d).map λd:Nat=>(d:Int)
noncomputable def fN:List Int:=((List.range 31).filter λn=>ab (lN ps m k) (mN ps m k) (30-n)).map λn:Nat=>((30-n:Nat):Int)
end
theorem xm {ps:List Pg} (h:gH ps=true) {m k:Int} (hm:0<=m/\m<4) (hk:0<=k/\k<8):kX (sN ps m k) (lN ps m k) (mN ps m k):=by
 intro d e hs Sv he hc
 simp only[sN,lN,mN,decide_eq_true_eq] at hs hc
 have c:=Lo h hm hk hs (l:=(e:Int)) (by omega) (by omega)
 unfold lV at c
 have c1:(decide ((e:Int)∈cm ps m k)||(decide ((e:Int)=(d:Int))&&decide ((d:Int)∈bJ ps m k)))=true:=by
  rcases hc with hc | ⟨h1,h2⟩
  ·rw[decide_eq_true hc];rfl
  ·rw[decide_eq_true (show (e:Int)=d by omega),decide_eq_true h2];simp
 rw[c1,Bool.true_and,Bool.not_eq_false'] at c
 unfold uU at c
 obtain⟨x,hx,hb⟩:=List.any_eq_true.mp c
 simp only[Bool.and_eq_true,decide_eq_true_eq] at hb
 refine⟨x.toNat,by omega,by omega,?_⟩
 simp only[mN,decide_eq_true_eq]
 rw[show ((x.toNat:Nat):Int)=x by omega]
 exact hx
theorem ML {ps:List Pg} {m k:Int} {d:Nat} (h:d<=30):decide ((d:Int)∈js ps m k)=pr (sN ps m k) (mN ps m k) d:=by
 have:(d:Int)∈js ps m k↔pr (sN ps m k) (mN ps m k) d=true:=by
  unfold js
  rw[List.mem_map]
  constructor
  ·rintro ⟨e,he,hd⟩
   have:e=d:=by omega
   rw[<- this]
   exact(List.mem_filter.mp he).2
  ·intro hp
   exact⟨d,List.mem_filter.mpr ⟨List.mem_range.mpr (by omega),hp⟩,rfl⟩
 cases hp:pr (sN ps m k) (mN ps m k) d with
 |true=>exact decide_eq_true (this.mpr hp)
 |false=>exact decide_eq_false λz=>by rw[this.mp z] at hp;cases hp
theorem MM {ps:List Pg} {m k:Int} {d:Nat} (h:d<=30):decide ((d:Int)∈fN ps m k)=ab (lN ps m k) (mN ps m k) d:=by
 have:(d:Int)∈fN ps m k↔ab (lN ps m k) (mN ps m k) d=true:=by
  unfold fN
  rw[List.mem_map]
  constructor
  ·rintro ⟨e,he,hd⟩
   obtain⟨h1,h2⟩:=List.mem_filter.mp he
   have:=List.mem_range.mp h1
   have:30-e=d:=by omega
   rw[<- this]
   exact h2
  ·intro hp
   exact⟨30-d,List.mem_filter.mpr ⟨List.mem_range.mpr (by omega),by rw[show 30-(30-d)=d by omega];exact hp⟩,by omega⟩
 cases hp:ab (lN ps m k) (mN ps m k) d with
 |true=>exact decide_eq_true (this.mpr hp)
 |false=>exact decide_eq_false λz=>by rw[this.mp z] at hp;cases hp
theorem D5 {s:ae} {ns:List Int} {x:Int} (hn:ns.length<1000):hZ (.aj s.length) (s++[.lst (ns.map D.int)])=true/\iG (.aj s.length) (.int x) (s++[.lst (ns.map D.int)])=ok .aB (s++[.lst ((ns++[x]).map D.int)]):=by
 have e:(s++[Cell.lst (ns.map D.int)])[s.length]?=some (.lst (ns.map D.int)):=by simp
 refine⟨by simp only[hZ,e],?_⟩
 unfold iG
 simp only[e]
 rw[if_pos (by rw[decide_eq_true_eq,List.length_map];exact Nat.lt_of_lt_of_le hn (le_size (by decide)))]
 simp[List.set_append_right]
theorem D6 {s:ae} {ns:List Int}:cH (.aj s.length) (s++[.lst (ns.map D.int)])=ok (lI ns) (s++[.dead]):=by
 have e:(s++[Cell.lst (ns.map D.int)])[s.length]?=some (.lst (ns.map D.int)):=by simp
 simp only[cH,e]
 simp[List.set_append_right]
theorem BV {p:Nat->Bool} {f:Nat->Int} {i:Nat}:((List.range (i+1)).filter p).map f=((List.range i).filter p).map f++(if p i=true then [f i] else []):=by
 rw[List.range_succ,List.filter_append,List.map_append]
 congr 1
 cases h:p i<;>simp[h]
theorem Cz {p:Nat->Bool} {f:Nat->Int} {i:Nat}:(((List.range i).filter p).map f).length<=i:=by
 rw[List.length_map]
 exact Nat.le_trans (List.length_filter_le _ _) (by rw[List.length_range];exact Nat.le_refl _)
noncomputable def pv (s m:Nat->Bool):Nat->Bool
 |0=>false
 |i+1=>pr s m i
theorem Jd {ps:List Pg} {m k:Int} {s:ae} (hl:ps.length<=1000):r6 [bD ps,.int m,.int k] s=ok (lI (js ps m k)) (s++[.dead]):=by
 refine Wp.eq ?_
 unfold r6
 simp only[VC]
 refine Wp.of (n6 hl).1 ?_
 refine Wp.of (tN hl) ?_
 try simp only[VC]
 refine⟨by decide,?_⟩
 refine Wp.of (ei (n:=31) rfl (by decide)) ?_
 refine Wp.fX (λi env s'=>i<=31->∃a7,env=[some (bD ps),some (.int m),some (.int k),some (lI (shown ps m k)),some (lI (bJ ps m k)),some (.aj s.length),some (.bl (pv (sN ps m k) (mN ps m k) i)),a7]/\s'=s++[.lst ((((List.range i).filter λd=>pr (sN ps m k) (mN ps m k) d).map λd:Nat=>(d:Int)).map D.int)]) _ (λ_=>⟨_,rfl,rfl⟩) (λi d env s' hd hI=>?_) (λenv s' hI=>?_)
 ·rw[gB] at hd
  split at hd
  ·rename_i hi
   cases hd
   obtain⟨a7,rfl,rfl⟩:=hI (by omega)
   refine⟨_,rfl,?_⟩
   have e0:(0:Int)+(i:Int)=i:=by omega
   have key:(decide ((i:Int)∈shown ps m k)||(pv (sN ps m k) (mN ps m k) i&&!decide ((i:Int)∈bJ ps m k)))=pr (sN ps m k) (mN ps m k) i:=by
    cases i with
    |zero=>simp[pv,pr,sN]
    |succ i=>rfl
   have fin:∀c:Bool,c=pr (sN ps m k) (mN ps m k) i->if c=true then hZ (.aj s.length) (s++[.lst ((((List.range i).filter λd=>pr (sN ps m k) (mN ps m k) d).map λd:Nat=>(d:Int)).map D.int)])=true/\Wp (iG (.aj s.length) (.int (0+(i:Int))) (s++[.lst ((((List.range i).filter λd=>pr (sN ps m k) (mN ps m k) d).map λd:Nat=>(d:Int)).map D.int)])) λx s'=>i+1<=31->∃a7,([some (bD ps),some (.int m),some (.int k),some (lI (shown ps m k)),some (lI (bJ ps m k)),some (.aj s.length),some (.bl c),some (.int (0+(i:Int)))]:Env)=[some (bD ps),some (.int m),some (.int k),some (lI (shown ps m k)),some (lI (bJ ps m k)),some (.aj s.length),some (.bl (pv (sN ps m k) (mN ps m k) (i+1))),a7]/\s'=s++[.lst ((((List.range (i+1)).filter λd=>pr (sN ps m k) (mN ps m k) d).map λd:Nat=>(d:Int)).map D.int)]
     else i+1<=31->∃a7,([some (bD ps),some (.int m),some (.int k),some (lI (shown ps m k)),some (lI (bJ ps m k)),some (.aj s.length),some (.bl c),some (.int (0+(i:Int)))]:Env)=[some (bD ps),some (.int m),some (.int k),some (lI (shown ps m k)),some (lI (bJ ps m k)),some (.aj s.length),some (.bl (pv (sN ps m k) (mN ps m k) (i+1))),a7]/\s++[.lst ((((List.range i).filter λd=>pr (sN ps m k) (mN ps m k) d).map λd:Nat=>(d:Int)).map D.int)]=s++[.lst ((((List.range (i+1)).filter λd=>pr (sN ps m k) (mN ps m k) d).map λd:Nat=>(d:Int)).map D.int)]:=λc hc=>by
    rw[BV]
    have hv:pv (sN ps m k) (mN ps m k) (i+1)=c:=hc.symm
    rw[hv,<- hc]
    cases c with
    |true =>
     rw[if_pos rfl]
     obtain⟨q1,q2⟩:=D5 (s:=s) (ns:=((List.range i).filter λd=>pr (sN ps m k) (mN ps m k) d).map λd:Nat=>(d:Int)) (x:=0+(i:Int)) (Nat.lt_of_le_of_lt Cz (by omega))
     exact⟨q1,Wp.of q2 λ_=>⟨_,rfl,by rw[e0];rfl⟩⟩
    |false =>
     rw[if_neg Bool.false_ne_true]
     exact λ_=>⟨_,rfl,by simp⟩
   simp only[VC,kn,e0]
   rw[e0] at fin
   by_cases c1:(i:Int)∈shown ps m k
   ·simp only[c1,decide_true,if_true]
    exact fin true (by rw[<- key,decide_eq_true c1];rfl)
   ·simp only[c1,decide_false,Bool.false_eq_true,if_false]
    cases hp:pv (sN ps m k) (mN ps m k) i with
    |false =>
     simp only[VC,Bool.false_eq_true,if_false]
     exact fin false (by rw[<- key,decide_eq_false c1,hp];rfl)
    |true =>
     simp only[VC,if_true,n0]
     exact fin _ (by rw[<- key,decide_eq_false c1,hp];rfl)
  ·cases hd
 ·rw[cZ] at hI
  obtain⟨a7,rfl,rfl⟩:=hI (Nat.le_refl _)
  simp only[VC]
  exact Wp.of D6 ⟨rfl,rfl⟩
end DI
namespace DI
open PySem L2 TK
noncomputable def downs:List D:=(List.range 31).map λn:Nat=>D.int ((30-n:Nat):Int)
theorem Oi {env:Env} {s:ae}:zX (af (eC (.int 31)) ai) env s=ok downs s:=by
 have:(bR 0 31).reverse=downs:=by rfl
 rw[<- this]
 rfl
theorem Ke {i:Nat}:downs[i]?=if i<31 then some (.int ((30-i:Nat):Int)) else none:=by
 unfold downs
 rw[List.getElem?_map]
 by_cases h:i<31
 ·rw[if_pos h,List.getElem?_range h];rfl
 ·rw[if_neg h,List.getElem?_eq_none (by simpa using h)];rfl
noncomputable abbrev gQ (ps:List Pg) (m k:Int) (i:Nat):List Int:=((List.range i).filter λn=>ab (lN ps m k) (mN ps m k) (30-n)).map λn:Nat=>((30-n:Nat):Int)
theorem Kf {ps:List Pg} {m k:Int} {s:ae} (hl:ps.length<=1000):sg [bD ps,.int m,.int k] s=ok (lI (fN ps m k)) (s++[.dead]):=by
 refine Wp.eq ?_
 unfold sg
 simp only[VC]
 refine Wp.of (n6 hl).2 ?_
 refine Wp.of (tN hl) ?_
 try simp only[VC]
 refine⟨by decide,?_⟩
 refine Wp.of Oi ?_
 refine Wp.fX (λi env s'=>i<=31->∃a7,env=[some (bD ps),some (.int m),some (.int k),some (lI (cm ps m k)),some (lI (bJ ps m k)),some (.aj s.length),some (.bl (fg (lN ps m k) (mN ps m k) i)),a7]/\s'=s++[.lst ((gQ ps m k i).map D.int)]) _ (λ_=>⟨_,rfl,rfl⟩) (λi d env s' hd hI=>?_) (λenv s' hI=>?_)
 ·rw[Ke] at hd
  split at hd
  ·rename_i hi
   cases hd
   obtain⟨a7,rfl,rfl⟩:=hI (by omega)
   refine⟨_,rfl,?_⟩
   generalize hd:((30-i:Nat):Int)=d
   have ea:ab (lN ps m k) (mN ps m k) (30-i)=(fg (lN ps m k) (mN ps m k) i||(decide (d∈cm ps m k)||decide (d∈bJ ps m k))):=by
    unfold ab br lN mN
    rw[show 31-(30-i+1)=i by omega,hd]
   have eb:fg (lN ps m k) (mN ps m k) (i+1)=((fg (lN ps m k) (mN ps m k) i||decide (d∈cm ps m k))&&!decide (d∈bJ ps m k)):=by
    show ((fg _ _ i||lN ps m k (30-i))&&!mN ps m k (30-i))=_
    unfold lN mN
    rw[hd]
   have sec:∀s2,s2=s++[.lst ((gQ ps m k (i+1)).map D.int)]->Wp (aO (cv (iq (aa 6) (e2 bM (aa 7) (aa 3))) (e2 cL (aa 7) (aa 4))) (gN 6) [some (bD ps),some (.int m),some (.int k),some (lI (cm ps m k)),some (lI (bJ ps m k)),some (.aj s.length),some (.bl (fg (lN ps m k) (mN ps m k) i)),some (.int d)] s2) λfl s'=>match fl with
     | .nx env=>i+1<=31->∃a7,env=[some (bD ps),some (.int m),some (.int k),some (lI (cm ps m k)),some (lI (bJ ps m k)),some (.aj s.length),some (.bl (fg (lN ps m k) (mN ps m k) (i+1))),a7]/\s'=s++[.lst ((gQ ps m k (i+1)).map D.int)]
     | .ct env=>i+1<=31->∃a7,env=[some (bD ps),some (.int m),some (.int k),some (lI (cm ps m k)),some (lI (bJ ps m k)),some (.aj s.length),some (.bl (fg (lN ps m k) (mN ps m k) (i+1))),a7]/\s'=s++[.lst ((gQ ps m k (i+1)).map D.int)]
     | .bk env=>nE (aQ (jF (aa 5))) (qO λa s'=>a=lI (fN ps m k)/\s'=s++[.dead]) (.nx env) s'
     | .rt d=>nE (aQ (jF (aa 5))) (qO λa s'=>a=lI (fN ps m k)/\s'=s++[.dead]) (.rt d) s':=λs2 dF=>by
    simp only[VC,kn,n0]
    rw[eb]
    cases fg (lN ps m k) (mN ps m k) i with
    |true =>
     simp only[VC,if_true,n0]
     exact λ_=>⟨some (.int d),by simp,dF⟩
    |false =>
     simp only[Bool.false_eq_true,if_false,Bool.false_or]
     by_cases c:d∈cm ps m k
     ·simp only[VC,c,decide_true,if_true,n0]
      exact λ_=>⟨some (.int d),by simp,dF⟩
     ·simp only[c,decide_false,Bool.false_eq_true,if_false]
      exact λ_=>⟨some (.int d),by simp,dF⟩
   have G6:=D5 (s:=s) (ns:=gQ ps m k i) (x:=d) (Nat.lt_of_le_of_lt Cz (by omega))
   have st:gQ ps m k (i+1)=gQ ps m k i++(if ab (lN ps m k) (mN ps m k) (30-i)=true then [d] else []):=by
    rw[<- hd]
    exact BV
   have yes:ab (lN ps m k) (mN ps m k) (30-i)=true->Wp (eG (gL (aa 5) (aa 7)) [some (bD ps),some (.int m),some (.int k),some (lI (cm ps m k)),some (lI (bJ ps m k)),some (.aj s.length),some (.bl (fg (lN ps m k) (mN ps m k) i)),some (.int d)] (s++[.lst ((gQ ps m k i).map D.int)])) λfl s'=>fl=.nx [some (bD ps),some (.int m),some (.int k),some (lI (cm ps m k)),some (lI (bJ ps m k)),some (.aj s.length),some (.bl (fg (lN ps m k) (mN ps m k) i)),some (.int d)]/\s'=s++[.lst ((gQ ps m k (i+1)).map D.int)]:=λha=>by
    simp only[VC]
    refine⟨G6.1,Wp.of G6.2 ?_⟩
    rw[st,ha]
    simp
   have no:ab (lN ps m k) (mN ps m k) (30-i)=false->s++[Cell.lst ((gQ ps m k i).map D.int)]=s++[Cell.lst ((gQ ps m k (i+1)).map D.int)]:=λha=>by
    rw[st,ha]
    simp
   have go:∀{c:Bool},c=ab (lN ps m k) (mN ps m k) (30-i)->∀{Q:Fl->ae->Prop},(∀s2,s2=s++[.lst ((gQ ps m k (i+1)).map D.int)]->Q (.nx [some (bD ps),some (.int m),some (.int k),some (lI (cm ps m k)),some (lI (bJ ps m k)),some (.aj s.length),some (.bl (fg (lN ps m k) (mN ps m k) i)),some (.int d)]) s2)->if c=true then Wp (eG (gL (aa 5) (aa 7)) [some (bD ps),some (.int m),some (.int k),some (lI (cm ps m k)),some (lI (bJ ps m k)),some (.aj s.length),some (.bl (fg (lN ps m k) (mN ps m k) i)),some (.int d)] (s++[.lst ((gQ ps m k i).map D.int)])) Q else Wp (cu [some (bD ps),some (.int m),some (.int k),some (lI (cm ps m k)),some (lI (bJ ps m k)),some (.aj s.length),some (.bl (fg (lN ps m k) (mN ps m k) i)),some (.int d)] (s++[.lst ((gQ ps m k i).map D.int)])) Q:=λ{c} hc {Q} q=>by
    cases c with
    |true =>
     rw[if_pos rfl]
     exact(yes hc.symm).mono λfl s2 ⟨e1,e2⟩=>by subst e1;exact q s2 e2
    |false =>
     rw[if_neg Bool.false_ne_true,wp_sNil]
     exact q _ (no hc.symm)
   rw[wp_sSeq,wp_sIf]
   simp only[wp_tOr,wp_tru,wp_loc0,wp_locS,wp_truB,wp_tBl,wp_e2,kn,wp_ok,wp_isBl,List.set_cons_succ,List.set_cons_zero]
   rw[ea] at go
   cases hb:fg (lN ps m k) (mN ps m k) i with
   |true =>
    simp only[if_true]
    rw[hb] at go sec
    exact go (c:=true) rfl λs2 h2=>sec s2 h2
   |false =>
    simp only[Bool.false_eq_true,if_false]
    rw[hb] at go sec
    by_cases c:d∈cm ps m k
    ·simp only[c,decide_true,if_true]
     exact go (c:=true) (by simp[c]) λs2 h2=>sec s2 h2
    ·simp only[c,decide_false,Bool.false_eq_true,if_false]
     exact go (by simp[c]) λs2 h2=>sec s2 h2
  ·cases hd
 ·rw[show downs.length=31 from rfl] at hI
  obtain⟨a7,rfl,rfl⟩:=hI (Nat.le_refl _)
  simp only[VC]
  exact Wp.of D6 ⟨rfl,rfl⟩
end DI
namespace DI
open PySem L2 TK
noncomputable def nI (F:Int->List Int):D:=.lst (k8.map λk=>lI (F k))
theorem Oj {F:Int->List Int} {k:Int} {s:ae} (h:0<=k/\k<8):aw (nI F) (.int k) s=ok (lI (F k)) s:=by
 obtain⟨x,e1,e2⟩:=mv (xs:=k8.map λk=>lI (F k)) h.1 (by show k<8;exact h.2)
 have:x=lI (F k):=by
  rw[List.getElem?_map] at e2
  have e3:k8[k.toNat]?=some k:=by
   unfold k8
   rw[List.getElem?_map,List.getElem?_range (by omega)]
   simp
   omega
  rw[e3] at e2
  exact(Option.some.inj e2).symm
 subst this
 simp only[aw,iP,res,nI,e1,bG]
theorem uV:bR 0 8=k8.map D.int:=rfl
theorem FA {F:Int->List Int} {d:Int} {s:ae}:pL [nI F,.int d] s=ok (mD (k8.filter λk=>decide (d∈F k))) s:=by
 refine Wp.eq ?_
 unfold pL
 simp only[VC]
 refine Wp.of (ei (n:=8) rfl (by decide)) ⟨by rw[cZ];exact le_size (by decide),?_⟩
 rw[uV]
 refine Wp.of (fO (λk=>decide (d∈F k)) (λk=>.int k) k8 λk hk=>⟨[some (.int k),some (.int d),some (nI F)],rfl,?_,λ_=>rfl⟩) ?_
 ·refine Wp.eq ?_
  simp only[VC]
  refine Wp.of (Oj (ow.mp hk)) ?_
  simp only[VC,kn,and_self]
 ·exact Wp.of (show df [.lst ((k8.filter λk=>decide (d∈F k)).map λk=>.int k)] s=ok (mD (k8.filter λk=>decide (d∈F k))) s from rfl) ⟨rfl,rfl⟩
noncomputable def cO:List Int:=(List.range 31).map λi:Nat=>(i:Int)
theorem yg:bR 0 31=cO.map D.int:=by unfold cO;rw[xl,List.map_map];congr 1;funext i;simp
noncomputable def qB (P A:Int->List Int) (d:Int):D:=.tup [mD (k8.filter λk=>decide (d∈P k)),mD (k8.filter λk=>decide (d∈A k))]
theorem D7 {fn:List D->ae->Res D} {F:Int->List Int} {b:D} {mu:Int} (hf:∀k s,fn [b,.int mu,.int k] s=ok (lI (F k)) (s++[.dead])) {env:Env} {s:ae} (e0:env[0]?=some (some b)) (e1:env[1]?=some (some (.int mu))) {Q:D->ae->Prop} (q:∀c,Q (nI F) (s++c)) :
  Wp (ba 1 [0,1] (bE (af (eC (.int (8))) ai)) (gN 0) cx (ax fn (af (aa 1) (af (aa 2) (af (aa 0) ai)))) env s) Q:=by
 rw[wp_comp]
 refine Wp.of (ei (n:=8) rfl (by decide)) ⟨by rw[cZ];exact le_size (by decide),?_⟩
 have ec:fk [0,1] env=[some b,some (.int mu)]:=by simp[fk,e0,e1]
 rw[ec]
 refine tK (λi acc s'=>i<=8->acc=((List.range i).map λi:Nat=>(i:Int)).map (λk=>lI (F k))/\∃c,s'=s++c) (bR 0 8) (λ_=>⟨rfl,[],by simp⟩) (λi d acc s' hd hI=>?_) λacc s' hI=>?_
 ·rw[gB] at hd
  split at hd
  ·rename_i hi
   cases hd
   obtain⟨rfl,c,rfl⟩:=hI (by omega)
   refine⟨[some (.int (0+i)),some b,some (.int mu)],rfl,?_⟩
   refine Wp.of (show cx _ _=ok true _ from rfl) ?_
   rw[if_pos rfl]
   simp only[VC]
   refine Wp.of (hf (0+(i:Int)) _) λ_=>⟨?_,c++[.dead],by simp⟩
   rw[List.range_succ,List.map_append,List.map_append]
   simp
  ·cases hd
 ·rw[cZ] at hI
  obtain⟨rfl,c,rfl⟩:=hI (Nat.le_refl _)
  exact q c
theorem MN {ps:List Pg} {m:Int} {s:ae} (hl:ps.length<=1000):Wp (nK [bD ps,.int m] s) λd s'=>d=.lst (cO.map (qB (js ps m) (fN ps m)))/\∃c,s'=s++c:=by
 unfold nK
 rw[wp_fn]
 refine⟨rfl,?_⟩
 rw[wp_sSeq,wp_sAsg]
 refine D7 (b:=bD ps) (mu:=m) (λk s=>Jd hl) rfl rfl λc=>?_
 simp only[asg_N,List.map_cons,List.map_nil,List.cons_append,List.nil_append,List.replicate,Nat.reduceSub,List.set_cons_succ,List.set_cons_zero,aft_nx]
 rw[wp_sSeq,wp_sAsg]
 refine D7 (b:=bD ps) (mu:=m) (λk s=>Kf hl) rfl rfl λc'=>?_
 simp only[asg_N,List.set_cons_succ,List.set_cons_zero,aft_nx,wp_sRet,wp_comp,fin_rt]
 refine Wp.of (ei (n:=31) rfl (by decide)) ⟨by rw[cZ];exact le_size (by decide),?_⟩
 rw[yg]
 refine Wp.of (fO (λ_=>true) (qB (js ps m) (fN ps m)) cO λd hd=>⟨[some (.int d),some (nI (js ps m)),some (nI (fN ps m))],rfl,rfl,λ_=>?_⟩) ?_
 ·refine Wp.eq ?_
  simp only[VC]
  refine Wp.of FA ?_
  refine Wp.of FA ?_
  exact⟨by decide,rfl,rfl⟩
 ·rw[filter_tt]
  exact⟨rfl,c++c',by simp⟩
end DI
namespace DI
open PySem L2 TK
noncomputable def ig (x:Bool×Bool):List Bool:=(if x.1=true then [false] else [])++(if x.2=true then [true] else [])
noncomputable abbrev eU (x:Bool×Bool):D:=.lst ((ig x).map D.bl)
theorem Il (x:Bool×Bool) (p:Bool->Bool):(ig x).filter p=ig (x.1&&p false,x.2&&p true):=by
 obtain⟨f,t⟩:=x
 cases f<;>cases t<;>cases h1:p false<;>cases h2:p true<;>simp[ig,h1,h2]
noncomputable abbrev Rw:=Nat->Bool×Bool
noncomputable abbrev qC (R:Rw):Cell:=.lst ((List.range 31).map λd=>eU (R d))
noncomputable abbrev eD (F:Nat->Bool):Cell:=.lst ((List.range 32).map λd=>D.bl (F d))
noncomputable abbrev bO (s:ae) (R:Rw) (F:Nat->Bool):ae:=s++[qC R,eD F]
noncomputable def cW {α:Type} (R:Nat->α) (d:Nat) (x:α):Nat->α:=λe=>if e=d then x else R e
theorem yV (s:ae) (R:Rw) (F:Nat->Bool):(bO s R F)[s.length]?=some (qC R):=by simp[bO]
theorem Gb (s:ae) (R:Rw) (F:Nat->Bool):(bO s R F)[s.length+1]?=some (eD F):=by simp[bO]
theorem D8 {α:Type} {n:Nat} {f:Nat->α} {d:Int} (h0:0<=d) (h1:d<n):dG ((List.range n).map f) d=some (f d.toNat):=by
 obtain⟨x,e1,e2⟩:=mv (xs:=(List.range n).map f) h0 (by simpa using h1)
 rw[List.getElem?_map,List.getElem?_range (by omega)] at e2
 rw[e1]
 exact e2.symm
theorem ql {s:ae} {R:Rw} {F:Nat->Bool} {d:Int} (h0:0<=d) (h1:d<31):aw (.aj s.length) (.int d) (bO s R F)=ok (eU (R d.toNat)) (bO s R F):=by
 simp only[aw,iP,res,yV,D8 h0 h1,bG]
theorem D9 {s:ae} {R:Rw} {F:Nat->Bool} {d:Int} (h0:0<=d) (h1:d<32):aw (.aj (s.length+1)) (.int d) (bO s R F)=ok (.bl (F d.toNat)) (bO s R F):=by
 simp only[aw,iP,res,Gb,D8 h0 h1,bG]
theorem Ea {α:Type} {n d:Nat} {f:Nat->α} {x:α}:((List.range n).map f).set d x=(List.range n).map (cW f d x):=by
 apply List.ext_getElem?
 intro i
 by_cases hi:i<n
 ·by_cases e:d=i
  ·subst e
   rw[List.getElem?_set_self (by simpa using hi),List.getElem?_map,List.getElem?_range hi]
   simp[cW]
  ·rw[List.getElem?_set_ne e,List.getElem?_map,List.getElem?_map,List.getElem?_range hi]
   simp[cW,Ne.symm e]
 ·rw[List.getElem?_eq_none (by simpa using hi),List.getElem?_eq_none (by simpa using hi)]
theorem EZ {n:Nat} {d:Int} (h0:0<=d) (h1:d<n):fe n d=some d.toNat:=by
 unfold fe
 rw[if_pos h0,if_pos h1]
theorem Dg {α β:Type} {f:Nat->α} {g:α->β} {d:Nat} {x:α}:(λe=>g (cW f d x e))=cW (λe=>g (f e)) d (g x):=by
 funext e
 unfold cW
 split<;>rfl
theorem tQ {s:ae} {R:Rw} {F:Nat->Bool} {d:Int} {x:Bool×Bool} (h0:0<=d) (h1:d<31):gg (.aj s.length) (.int d) (eU x) (bO s R F)=some (bO s (cW R d.toNat x) F):=by
 have e:qC (cW R d.toNat x)=.lst (((List.range 31).map λd=>eU (R d)).set d.toNat (eU x)):=by
  rw[Ea]
  show Cell.lst ((List.range 31).map λe=>eU (cW R d.toNat x e))=_
  rw[Dg (g:=eU)]
 rw[show bO s (cW R d.toNat x) F=s++[qC (cW R d.toNat x),eD F] from rfl,e]
 simp only[gg,yV,List.length_map,List.length_range,EZ h0 h1]
 simp[bO,List.set_append_right]
theorem Lr {s:ae} {R:Rw} {F:Nat->Bool} {d:Int} {x:Bool} (h0:0<=d) (h1:d<32):gg (.aj (s.length+1)) (.int d) (.bl x) (bO s R F)=some (bO s R (cW F d.toNat x)):=by
 have e:eD (cW F d.toNat x)=.lst (((List.range 32).map λd=>D.bl (F d)).set d.toNat (.bl x)):=by
  rw[Ea]
  show Cell.lst ((List.range 32).map λe=>D.bl (cW F d.toNat x e))=_
  rw[Dg (g:=D.bl)]
 rw[show bO s R (cW F d.toNat x)=s++[qC R,eD (cW F d.toNat x)] from rfl,e]
 simp only[gg,Gb,List.length_map,List.length_range,EZ h0 h1]
 simp[bO,List.set_append_right]
theorem tR {t:Env->ae->Res Bool} {caps:Env} {s:ae} {x:Bool×Bool} (p:Bool->Bool) (h:∀b,t (some (.bl b)::caps) s=ok (p b) s):eO 1 caps (gN 0) t (aa 0) ((ig x).map D.bl) s=ok ((ig (x.1&&p false,x.2&&p true)).map D.bl) s:=by
 rw[comp_map D.bl p D.bl (ig x) λb _=>⟨some (.bl b)::caps,rfl,h b,λ_=>rfl⟩,Il]
theorem s9 (x:Bool×Bool):((ig x).map D.bl).length<=sizeLine:=by
 refine jw ?_
 obtain⟨f,t⟩:=x
 cases f<;>cases t<;>simp[ig]
noncomputable def fF (m k:Int) (x:Rw×(Nat->Bool)) (p:Pg):Rw×(Nat->Bool):=match p with
 | .bN m' d k'=>if (decide (m'=m)&&decide (k'=k))=true then (cW x.1 d.toNat ((x.1 d.toNat).1,false),cW x.2 d.toNat true) else x
 | .made m' d h l=>if (decide (m'=m)&&decide (k∈h++l))=true then (cW x.1 d.toNat ((x.1 d.toNat).1&&!decide (k∈h),(x.1 d.toNat).2&&decide (k∈h)),x.2) else x
theorem Ls {p:Pg} {ps:List Pg} {m k:Int} {s:ae} {R:Rw} {F:Nat->Bool} {a6 a7 a8:Option D} {Q:Fl->ae->Prop} (hd:0<=p.day/\p.day<31) (hf:fY p)
  (q:Q (.nx [some (bD ps),some (.int m),some (.int k),some (.aj s.length),some (.aj (s.length+1)),some p.d,a6,a7,a8]) (bO s (fF m k (R,F) p).1 (fF m k (R,F) p).2)) :
  Wp ((ay (bX (cq (aH (e2 aT (e2 aw (aa 5) (eC (.int 0))) (eC (.str "mended")))) (cq (aH (e2 aT (e2 aw (aa 5) (eC (.int 1))) (aa 1))) (aH (e2 aT (e2 aw (aa 5) (eC (.int 3))) (aa 2))))) (ay (fV (ba 1 [] (aW (e2 aw (aa 3) (e2 aw (aa 5) (eC (.int 2))))) (gN 0) (fT (dP (aa 0))) (aa 0)) (aa 3) (e2 aw (aa 5) (eC (.int 2)))) (fV (eC (.bl true)) (aa 4) (e2 aw (aa 5) (eC (.int 2))))) cu) (bX (cq (aH (e2 aT (e2 aw (aa 5) (eC (.int 0))) (eC (.str "made")))) (cq (aH (e2 aT (e2 aw (aa 5) (eC (.int 1))) (aa 1))) (aH (e2 bM (aa 2) (e2 cM (e2 aw (e2 aw (aa 5) (eC (.int 3))) (eC (.int 0))) (e2 aw (e2 aw (aa 5) (eC (.int 3))) (eC (.int 1)))))))) (fV (ba 1 [2,5] (aW (e2 aw (aa 3) (e2 aw (aa 5) (eC (.int 2))))) (gN 0) (aH (e2 aT (aa 0) (e2 bM (aa 1) (e2 aw (e2 aw (aa 2) (eC (.int 3))) (eC (.int 0)))))) (aa 0)) (aa 3) (e2 aw (aa 5) (eC (.int 2)))) cu)) [some (bD ps),some (.int m),some (.int k),some (.aj s.length),some (.aj (s.length+1)),some p.d,a6,a7,a8] (bO s R F)) Q:=by
 have row:∀{R:Rw} {F:Nat->Bool},aW (e2 aw (aa 3) (e2 aw (aa 5) (eC (.int 2)))) [some (bD ps),some (.int m),some (.int k),some (.aj s.length),some (.aj (s.length+1)),some p.d,a6,a7,a8] (bO s R F)=ok ((ig (R p.day.toNat)).map D.bl) (bO s R F):=λ{R F}=>by
  refine gU (Wp.eq ?_)
  simp only[VC,(nF p _).2]
  exact Wp.of (ql hd.1 hd.2) ⟨rfl,rfl⟩
 cases p with
 |bN m' d k' =>
  have t1:cq (aH (e2 aT (e2 aw (aa 5) (eC (.int 0))) (eC (.str "mended")))) (cq (aH (e2 aT (e2 aw (aa 5) (eC (.int 1))) (aa 1))) (aH (e2 aT (e2 aw (aa 5) (eC (.int 3))) (aa 2)))) [some (bD ps),some (.int m),some (.int k),some (.aj s.length),some (.aj (s.length+1)),some (Pg.bN m' d k').d,a6,a7,a8] (bO s R F)=ok (decide (m'=m)&&decide (k'=k)) (bO s R F):=by
   refine Wp.eq ?_
   simp only[VC,Pg.d,(eh _ _ _ _ _).1,(eh _ _ _ _ _).2.1,(eh _ _ _ _ _).2.2.2,iw,decide_true,if_true]
   by_cases e:m'=m
   ·by_cases e2:k'=k<;>simp[e,e2]
   ·simp[e]
  have t2:∀st,cq (aH (e2 aT (e2 aw (aa 5) (eC (.int 0))) (eC (.str "made")))) (cq (aH (e2 aT (e2 aw (aa 5) (eC (.int 1))) (aa 1))) (aH (e2 bM (aa 2) (e2 cM (e2 aw (e2 aw (aa 5) (eC (.int 3))) (eC (.int 0))) (e2 aw (e2 aw (aa 5) (eC (.int 3))) (eC (.int 1))))))) [some (bD ps),some (.int m),some (.int k),some (.aj s.length),some (.aj (s.length+1)),some (Pg.bN m' d k').d,a6,a7,a8] st=ok false st:=λst=>by
   refine Wp.eq ?_
   simp only[VC,Pg.d,(eh _ _ _ _ _).1,iw,decide_eq_false tM,Bool.false_eq_true,if_false,and_self]
  have fin:∀st,Q (.nx [some (bD ps),some (.int m),some (.int k),some (.aj s.length),some (.aj (s.length+1)),some (Pg.bN m' d k').d,a6,a7,a8]) st->Wp (bX (cq (aH (e2 aT (e2 aw (aa 5) (eC (.int 0))) (eC (.str "made")))) (cq (aH (e2 aT (e2 aw (aa 5) (eC (.int 1))) (aa 1))) (aH (e2 bM (aa 2) (e2 cM (e2 aw (e2 aw (aa 5) (eC (.int 3))) (eC (.int 0))) (e2 aw (e2 aw (aa 5) (eC (.int 3))) (eC (.int 1)))))))) (fV (ba 1 [2,5] (aW (e2 aw (aa 3) (e2 aw (aa 5) (eC (.int 2))))) (gN 0) (aH (e2 aT (aa 0) (e2 bM (aa 1) (e2 aw (e2 aw (aa 2) (eC (.int 3))) (eC (.int 0)))))) (aa 0)) (aa 3) (e2 aw (aa 5) (eC (.int 2)))) cu [some (bD ps),some (.int m),some (.int k),some (.aj s.length),some (.aj (s.length+1)),some (Pg.bN m' d k').d,a6,a7,a8] st) Q:=λst q=>by
   rw[wp_sIf]
   refine Wp.of (t2 st) ?_
   rw[if_neg Bool.false_ne_true,wp_sNil]
   exact q
  rw[wp_sSeq,wp_sIf]
  refine Wp.of t1 ?_
  unfold fF at q
  cases hc:(decide (m'=m)&&decide (k'=k)) with
  |false =>
   simp only[hc,Bool.false_eq_true,if_false] at q
   rw[if_neg Bool.false_ne_true,wp_sNil,aft_nx]
   exact fin _ q
  |true =>
   simp only[hc,if_true] at q
   rw[if_pos rfl,wp_sSeq,wp_sSub,wp_comp]
   refine Wp.of row ⟨s9 _,?_⟩
   refine Wp.of (tR (λb=>!b) λb=>rfl) ?_
   simp only[wp_loc0,wp_locS,wp_e2,wp_C,(nF (Pg.bN m' d k') _).2,wp_ok]
   refine⟨_,tQ hd.1 hd.2,?_⟩
   rw[aft_nx,wp_sSub]
   simp only[wp_loc0,wp_locS,wp_e2,wp_C,(nF (Pg.bN m' d k') _).2,wp_ok]
   refine⟨_,Lr hd.1 (by have:=hd.2;omega),?_⟩
   rw[aft_nx]
   refine fin _ ?_
   simpa [TK.Pg.day] using q
 |made m' d h l =>
  have t1:∀st,cq (aH (e2 aT (e2 aw (aa 5) (eC (.int 0))) (eC (.str "mended")))) (cq (aH (e2 aT (e2 aw (aa 5) (eC (.int 1))) (aa 1))) (aH (e2 aT (e2 aw (aa 5) (eC (.int 3))) (aa 2)))) [some (bD ps),some (.int m),some (.int k),some (.aj s.length),some (.aj (s.length+1)),some (Pg.made m' d h l).d,a6,a7,a8] st=ok false st:=λst=>by
   refine Wp.eq ?_
   simp only[VC,Pg.d,(eh _ _ _ _ _).1,iw,decide_eq_false DT,Bool.false_eq_true,if_false,and_self]
  have t2:cq (aH (e2 aT (e2 aw (aa 5) (eC (.int 0))) (eC (.str "made")))) (cq (aH (e2 aT (e2 aw (aa 5) (eC (.int 1))) (aa 1))) (aH (e2 bM (aa 2) (e2 cM (e2 aw (e2 aw (aa 5) (eC (.int 3))) (eC (.int 0))) (e2 aw (e2 aw (aa 5) (eC (.int 3))) (eC (.int 1))))))) [some (bD ps),some (.int m),some (.int k),some (.aj s.length),some (.aj (s.length+1)),some (Pg.made m' d h l).d,a6,a7,a8] (bO s R F)=ok (decide (m'=m)&&decide (k∈h++l)) (bO s R F):=by
   refine Wp.eq ?_
   simp only[VC,Pg.d,(eh _ _ _ _ _).1,(eh _ _ _ _ _).2.1,(eh _ _ _ _ _).2.2.2,iw,decide_true,if_true]
   by_cases e:m'=m
   ·simp only[VC,e,beq_self_eq_true,if_true,(rW _ _ _).1,(rW _ _ _).2,decide_true,Bool.true_and]
    refine Wp.of (fE (a:=h) (b:=l) (by have:=hf.1;have:=hf.2;omega)) ?_
    refine Wp.of (md (ns:=h++l)) ?_
    simp only[VC,and_self]
   ·simp[e]
  rw[wp_sSeq,wp_sIf]
  refine Wp.of (t1 _) ?_
  rw[if_neg Bool.false_ne_true,wp_sNil,aft_nx,wp_sIf]
  refine Wp.of t2 ?_
  unfold fF at q
  cases hc:(decide (m'=m)&&decide (k∈h++l)) with
  |false =>
   simp only[hc,Bool.false_eq_true,if_false] at q
   rw[if_neg Bool.false_ne_true,wp_sNil]
   exact q
  |true =>
   simp only[hc,if_true] at q
   rw[if_pos rfl,wp_sSub,wp_comp]
   refine Wp.of row ⟨s9 _,?_⟩
   refine Wp.of (tR (caps:=[some (.int k),some (Pg.made m' d h l).d]) (λb=>b==decide (k∈h)) λb=>?_) ?_
   ·refine Wp.eq ?_
    simp only[VC,Pg.d,(eh _ _ _ _ _).2.2.2,(rW _ _ _).1]
    refine Wp.of (md (ns:=h)) ?_
    refine Wp.of (show aT (.bl b) (.bl (decide (k∈h))) (bO s R F)=ok (.bl (b==decide (k∈h))) (bO s R F) from rfl) ?_
    simp only[VC,and_self]
   ·simp only[wp_loc0,wp_locS,wp_e2,wp_C,(nF (Pg.made m' d h l) _).2,wp_ok]
    refine⟨_,tQ hd.1 hd.2,?_⟩
    have e1:(false==decide (k∈h))=!decide (k∈h):=by cases decide (k∈h)<;>rfl
    have e2:(true==decide (k∈h))=decide (k∈h):=by cases decide (k∈h)<;>rfl
    rw[e1,e2]
    exact q
end DI
namespace DI
open PySem L2 TK
noncomputable def lC (ps:List Pg) (m k:Int):Rw×(Nat->Bool):=ps.foldl (fF m k) (λ_=>(true,true),λ_=>false)
noncomputable def t6:Pg->Prop
 | .made _ _ h l=>∀x∈h,x∉l
 | .bN _ _ _=>True
theorem wM {x a:Int} {l:List Int}:decide (x∈a::l)=(decide (x=a)||decide (x∈l)):=by
 by_cases h:x=a<;>simp[h]
theorem Dh {m k:Int} {d:Nat}:∀(ps:List Pg) (x:Rw×(Nat->Bool)),(∀p∈ps,0<=p.day/\t6 p) ->
  ((ps.foldl (fF m k) x).1 d).1=((x.1 d).1&&!sN ps m k d)/\((ps.foldl (fF m k) x).1 d).2=((x.1 d).2&&(!mN ps m k d&&!lN ps m k d))/\(ps.foldl (fF m k) x).2 d=(x.2 d||mN ps m k d)
 | [],x,_=>by simp[sN,mN,lN,shown,bJ,cm]
 |p::ps,x,h=>by
  obtain⟨i1,i2,i3⟩:=Dh (d:=d) ps (fF m k x p) λq hq=>h q (List.mem_cons_of_mem _ hq)
  obtain⟨hd,ha⟩:=h p List.mem_cons_self
  rw[List.foldl_cons,i1,i2,i3]
  have key:((fF m k x p).1 d).1=((x.1 d).1&&!(jS m k p&&decide ((d:Int)=p.day)))/\((fF m k x p).1 d).2=((x.1 d).2&&(!(jo m k p&&decide ((d:Int)=p.day))&&!(jT m k p&&decide ((d:Int)=p.day))))/\(fF m k x p).2 d=(x.2 d||(jo m k p&&decide ((d:Int)=p.day))):=by
   have ed:decide ((d:Int)=p.day)=decide (d=p.day.toNat):=by
    by_cases e:d=p.day.toNat
    ·rw[decide_eq_true e,decide_eq_true (by omega)]
    ·rw[decide_eq_false e,decide_eq_false (by omega)]
   rw[ed]
   cases p with
   |bN m' d' k' =>
    simp only[fF,jS,jT,jo,TK.Pg.day,Bool.false_and,Bool.not_false,Bool.and_true]
    cases (decide (m'=m)&&decide (k'=k)) with
    |false=>simp
    |true =>
     simp only[if_true,Bool.true_and,cW]
     by_cases e:d=d'.toNat<;>simp[e]
   |made m' d' h' l' =>
    simp only[fF,jS,jT,jo,TK.Pg.day,Bool.false_and,Bool.not_false,Bool.true_and,Bool.or_false]
    by_cases em:m'=m
    ·simp only[em,decide_true,Bool.true_and]
     by_cases e:d=d'.toNat
     ·subst e
      simp only[decide_true,Bool.and_true]
      by_cases c1:k∈h'
      ·have c2:k∉l':=ha k c1
       simp[c1,c2,cW]
      ·by_cases c2:k∈l'<;>simp[c1,c2,cW]
     ·simp only[e,decide_false,Bool.and_false,Bool.not_false,Bool.and_true]
      by_cases c:k∈h'++l'<;>simp[c,cW,e]
    ·simp[em]
  obtain⟨k1,k2,k3⟩:=key
  rw[k1,k2,k3]
  have e1:sN (p::ps) m k d=((jS m k p&&decide ((d:Int)=p.day))||sN ps m k d):=by
   unfold sN shown
   rw[List.filter_cons]
   cases jS m k p with
   |false=>rw[if_neg Bool.false_ne_true];rfl
   |true=>rw[if_pos rfl,List.map_cons,wM];rfl
  have e2:lN (p::ps) m k d=((jT m k p&&decide ((d:Int)=p.day))||lN ps m k d):=by
   unfold lN cm
   rw[List.filter_cons]
   cases jT m k p with
   |false=>rw[if_neg Bool.false_ne_true];rfl
   |true=>rw[if_pos rfl,List.map_cons,wM];rfl
  have e3:mN (p::ps) m k d=((jo m k p&&decide ((d:Int)=p.day))||mN ps m k d):=by
   unfold mN bJ
   rw[List.filter_cons]
   cases jo m k p with
   |false=>rw[if_neg Bool.false_ne_true];rfl
   |true=>rw[if_pos rfl,List.map_cons,wM];rfl
  rw[e1,e2,e3]
  generalize (jS m k p&&decide ((d:Int)=p.day))=a
  generalize (jT m k p&&decide ((d:Int)=p.day))=b
  generalize (jo m k p&&decide ((d:Int)=p.day))=c
  refine⟨?_,?_,?_⟩
  ·cases a<;>cases sN ps m k d<;>cases (x.1 d).1<;>rfl
  ·cases b<;>cases c<;>cases lN ps m k d<;>cases mN ps m k d<;>cases (x.1 d).2<;>rfl
  ·cases c<;>cases mN ps m k d<;>cases x.2 d<;>rfl
theorem MO {ps:List Pg} {m k:Int} (h:∀p∈ps,0<=p.day/\t6 p) (d:Nat):(lC ps m k).1 d=(f0 (sN ps m k) d,t0 (lN ps m k) (mN ps m k) d)/\(lC ps m k).2 d=mN ps m k d:=by
 obtain⟨h1,h2,h3⟩:=Dh (m:=m) (k:=k) (d:=d) ps (λ_=>(true,true),λ_=>false) h
 refine⟨Prod.ext ?_ ?_,?_⟩
 ·show ((lC ps m k).1 d).1=_;unfold lC f0;rw[h1];simp
 ·show ((lC ps m k).1 d).2=_;unfold lC t0;rw[h2];simp
 ·unfold lC;rw[h3];simp
end DI
namespace DI
open PySem L2 TK
noncomputable abbrev ne2 (x:Bool×Bool):Bool:=x.1||x.2
theorem Ol {x:Bool×Bool} {s:ae}:gK (eU x) (.lst []) s=ok (.bl (ne2 x)) s:=by
 obtain⟨f,t⟩:=x
 cases f<;>cases t<;>rfl
theorem MP {x:Bool×Bool} {b f:Bool} {s:ae}:xj [eU x,.bl b,.bl f] s=ok (.bl (!b&&(x.1||(f&&ne2 x)))) s:=by
 obtain⟨u,v⟩:=x
 cases u<;>cases v<;>cases b<;>cases f<;>rfl
theorem Lu {x:Bool×Bool} {b f:Bool} {s:ae}:wF [eU x,.bl b,.bl f] s=ok (.bl (x.2||(x.1&&(!b||f)))) s:=by
 obtain⟨u,v⟩:=x
 cases u<;>cases v<;>cases b<;>cases f<;>rfl
theorem Om {env:Env} {s:ae}:Ac (af (eC (.int 29)) (af (e1 qv (eC (.int 1))) (af (e1 qv (eC (.int 1))) ai))) env s=ok ((List.range 30).map λn:Nat=>D.int ((29-n:Nat):Int)) s:=by rfl
noncomputable def yW (x:Bool×Bool):D:=.tup ((ig x).map D.bl)
noncomputable def uW (ps:List Pg) (m k:Int):D:=.lst ((List.range 31).map λd=>yW (bw (sN ps m k) (lN ps m k) (mN ps m k) d))
theorem FC (s l m:Nat->Bool):bw s l m 30=fw s l m 30:=rfl
theorem Eb (s l m:Nat->Bool) {d:Nat} (h:d<=29):bw s l m d=((fw s l m d).1&&((bw s l m (d+1)).2||(bw s l m (d+1)).1),(fw s l m d).2&&((bw s l m (d+1)).2||((bw s l m (d+1)).1&&m (d+1)))):=by
 unfold bw
 rw[show 30-d=(29-d)+1 by omega,show 30-(d+1)=29-d by omega]
 simp only[pC]
 rw[show 29-(29-d)=d by omega,show 30-(29-d)=d+1 by omega]
theorem Oo {ps:List Pg} {m k:Int} {s:ae} (hl:ps.length<=1000) (hp:∀p∈ps,(0<=p.day/\p.day<31)/\fY p/\t6 p):Wp (mq [bD ps,.int m,.int k] s) λd s'=>d=uW ps m k/\∃c,s'=s++c:=by
 unfold mq
 rw[wp_fn]
 refine⟨rfl,?_⟩
 rw[wp_sSeq,wp_sAsg]
 unfold qd
 simp only[bj]
 refine Wp.of (ei (n:=31) rfl (by decide)) ?_
 rw[l8]
 refine⟨by rw[cZ];exact le_size (by decide),?_⟩
 rw[bj,yg]
 refine Wp.of (fO (λ_=>true) (λ_=>eU (true,true)) cO λd hd=>⟨[some (.int d)],rfl,rfl,λ_=>rfl⟩) ?_
 simp only[wp_ok,asg_N,filter_tt,List.map_cons,List.map_nil,List.cons_append,List.nil_append,List.replicate,Nat.reduceSub,List.set_cons_succ,List.set_cons_zero,aft_nx]
 rw[wp_sSeq,wp_sAsg]
 simp only[bj]
 refine Wp.of (ei (n:=32) rfl (by decide)) ?_
 rw[l8]
 refine⟨by rw[cZ];exact le_size (by decide),?_⟩
 rw[bj]
 have Sw:bR 0 32=((List.range 32).map λi:Nat=>(i:Int)).map D.int:=by rw[xl,List.map_map];congr 1;funext i;simp
 rw[Sw]
 refine Wp.of (fO (λ_=>true) (λ_=>.bl false) _ λd hd=>⟨[some (.int d)],rfl,rfl,λ_=>rfl⟩) ?_
 simp only[wp_ok,asg_N,filter_tt,List.set_cons_succ,List.set_cons_zero,aft_nx]
 have es:s++[Cell.lst (cO.map λ_=>eU (true,true))]++[Cell.lst (((List.range 32).map λi:Nat=>(i:Int)).map λ_=>D.bl false)]=bO s (λ_=>(true,true)) (λ_=>false):=by
  unfold cO
  simp only[List.map_map,Function.comp_def,List.append_assoc,List.cons_append,List.nil_append]
 have el:(s++[Cell.lst (cO.map λ_=>eU (true,true))]).length=s.length+1:=by simp
 rw[es,el]
 rw[wp_sSeq,wp_sFor]
 refine Wp.of (j9 (ds:=ps.map Pg.d) rfl) ?_
 refine Wp.fX (λi env s'=>∃a5 a6 a7 a8,env=[some (bD ps),some (.int m),some (.int k),some (.aj s.length),some (.aj (s.length+1)),a5,a6,a7,a8]/\s'=bO s ((ps.take i).foldl (fF m k) (λ_=>(true,true),λ_=>false)).1 ((ps.take i).foldl (fF m k) (λ_=>(true,true),λ_=>false)).2) _ ⟨_,_,_,_,rfl,rfl⟩ (λi d env s' hd hI=>?_) (λenv s' hI=>?_)
 ·obtain⟨a5,a6,a7,a8,rfl,rfl⟩:=hI
  rw[List.getElem?_map] at hd
  cases vA:ps[i]? with
  |none=>rw[vA] at hd;cases hd
  |some p =>
   rw[vA] at hd
   cases hd
   obtain⟨h1,h2,h3⟩:=hp p (List.mem_of_getElem? vA)
   refine⟨_,rfl,?_⟩
   refine Ls h1 h2 ⟨_,_,_,_,rfl,?_⟩
   rw[List.take_add_one,vA]
   simp only[Option.toList_some,List.foldl_append,List.foldl_cons,List.foldl_nil]
 obtain⟨a5,a6,a7,a8,rfl,rfl⟩:=hI
 rw[List.length_map,List.take_length]
 have h0:=MO (ps:=ps) (m:=m) (k:=k) λp q=>⟨(hp p q).1.1,(hp p q).2.2⟩
 unfold lC at h0
 generalize (ps.foldl (fF m k) (λ_=>(true,true),λ_=>false))=x0 at h0
 obtain⟨R,F⟩:=x0
 have hR:∀d,R d=(f0 (sN ps m k) d,t0 (lN ps m k) (mN ps m k) d):=λd=>(h0 d).1
 have hF:∀d,F d=mN ps m k d:=λd=>(h0 d).2
 clear h0
 rw[aft_nx,wp_sSeq,wp_sFor]
 refine Wp.of (ET (i:=1) (j:=31) rfl (by decide) (by decide) (by decide) (by decide)) ?_
 rw[show ((31:Int)-1).toNat=30 from rfl]
 refine Wp.fX (λi env s'=>i<=30->∃a5 a6 a7 a8 R,env=[some (bD ps),some (.int m),some (.int k),some (.aj s.length),some (.aj (s.length+1)),a5,a6,a7,a8]/\s'=bO s R F/\∀d,R d=if d<=i then fw (sN ps m k) (lN ps m k) (mN ps m k) d else (f0 (sN ps m k) d,t0 (lN ps m k) (mN ps m k) d)) _ (λ_=>⟨_,_,_,_,R,rfl,rfl,λd=>?_⟩) (λi d env s' hd hI=>?_) (λenv s' hI=>?_)
 ·split
  ·rw[show d=0 by omega,hR];rfl
  ·exact hR d
 ·rw[gB] at hd
  split at hd
  ·rename_i hi
   cases hd
   obtain⟨a5,a6,a7,a8,R,rfl,rfl,hR⟩:=hI (by omega)
   refine⟨_,rfl,?_⟩
   have ed:(1:Int)+(i:Int)=((i+1:Nat):Int):=by omega
   rw[ed]
   simp only[List.set_cons_succ,List.set_cons_zero]
   rw[wp_sSeq,wp_sAsg]
   simp only[wp_tup,wp_aCons,wp_aNil,wp_e2,wp_loc0,wp_locS,wp_C,wp_subI]
   rw[show (((i+1:Nat):Int)-1)=(i:Int) by omega]
   refine Wp.of (ql (by omega) (by omega)) (Wp.of (D9 (by omega) (by omega)) ?_)
   refine⟨le_size (by simp only[List.length_cons,List.length_nil];decide),?_⟩
   simp only[asg_T,asg_cons,asg_nil,List.set_cons_succ,List.set_cons_zero,aft_nx,Int.toNat_natCast]
   rw[wp_sSub,wp_comp]
   have row:aW (e2 aw (aa 3) (aa 6)) [some (bD ps),some (.int m),some (.int k),some (.aj s.length),some (.aj (s.length+1)),a5,some (.int ((i+1:Nat):Int)),some (eU (R i)),some (.bl (F (i+1)))] (bO s R F)=ok ((ig (R (i+1))).map D.bl) (bO s R F):=by
    refine gU (Wp.eq ?_)
    simp only[wp_e2,wp_loc0,wp_locS]
    exact Wp.of (ql (by omega) (by omega)) ⟨by rw[Int.toNat_natCast],rfl⟩
   refine Wp.of row ⟨s9 _,?_⟩
   refine Wp.of (tR (caps:=[some (eU (R i)),some (.bl (F (i+1)))]) (λb=>(b&&ne2 (R i))||(!b&&((R i).1||(F (i+1)&&ne2 (R i))))) λb=>?_) ?_
   ·refine Wp.eq ?_
    simp only[VC,Ol,MP]
    cases b with
    |true=>cases ne2 (R i)<;>simp[wp_ok]
    |false=>simp[wp_ok]
   ·simp only[wp_loc0,wp_locS]
    refine⟨_,tQ (by omega) (by omega),λ_=>⟨_,_,_,_,_,rfl,rfl,λd=>?_⟩⟩
    rw[Int.toNat_natCast]
    unfold cW
    by_cases e:d=i+1
    ·rw[if_pos e,if_pos (by omega),e]
     have h1:=hR (i+1)
     rw[if_neg (by omega)] at h1
     have h2:=hR i
     rw[if_pos (Nat.le_refl _)] at h2
     simp only[fw,h1,h2,hF,Bool.false_and,Bool.true_and,Bool.not_false,Bool.not_true,Bool.false_or,Bool.or_false,ne2]
    ·rw[if_neg e,hR d]
     by_cases e2:d<=i
     ·rw[if_pos e2,if_pos (by omega)]
     ·rw[if_neg e2,if_neg (by omega)]
  ·cases hd
 rw[cZ] at hI
 obtain⟨a5,a6,a7,a8,R,rfl,rfl,hR⟩:=hI (Nat.le_refl _)
 rw[aft_nx,wp_sSeq,wp_sFor]
 refine Wp.of Om ?_
 refine Wp.fX (λn env s'=>n<=30->∃a5 a6 a7 a8 R,env=[some (bD ps),some (.int m),some (.int k),some (.aj s.length),some (.aj (s.length+1)),a5,a6,a7,a8]/\s'=bO s R F/\∀d,d<=30->R d=if 30-n<=d then bw (sN ps m k) (lN ps m k) (mN ps m k) d else fw (sN ps m k) (lN ps m k) (mN ps m k) d) _ (λ_=>⟨_,_,_,_,R,rfl,rfl,λd hd=>?_⟩) (λn d env s' hd hI=>?_) (λenv s' hI=>?_)
 ·rw[hR d,if_pos hd]
  split
  ·rw[show d=30 by omega,FC]
  ·rfl
 ·rw[List.getElem?_map] at hd
  by_cases hn:n<30
  ·rw[List.getElem?_range hn] at hd
   cases hd
   obtain⟨a5,a6,a7,a8,R,rfl,rfl,hR⟩:=hI (by omega)
   refine⟨_,rfl,?_⟩
   simp only[List.set_cons_succ,List.set_cons_zero]
   generalize hd:29-n=d
   rw[wp_sSub,wp_comp]
   have row:aW (e2 aw (aa 3) (aa 6)) [some (bD ps),some (.int m),some (.int k),some (.aj s.length),some (.aj (s.length+1)),a5,some (.int (d:Int)),a7,a8] (bO s R F)=ok ((ig (R d)).map D.bl) (bO s R F):=by
    refine gU (Wp.eq ?_)
    simp only[wp_e2,wp_loc0,wp_locS]
    exact Wp.of (ql (by omega) (by omega)) ⟨by rw[Int.toNat_natCast],rfl⟩
   refine Wp.of row ⟨s9 _,?_⟩
   refine Wp.of (tR (caps:=[some (.aj s.length),some (.aj (s.length+1)),some (.int (d:Int))]) (λb=>(R (d+1)).2||((R (d+1)).1&&(!b||F (d+1)))) λb=>?_) ?_
   ·refine Wp.eq ?_
    simp only[VC]
    refine Wp.of (ql (by omega) (by omega)) (Wp.of (D9 (by omega) (by omega)) ?_)
    rw[show ((d:Int)+1).toNat=d+1 by omega]
    refine Wp.of Lu ?_
    simp only[VC,and_self]
   ·simp only[wp_loc0,wp_locS]
    refine⟨_,tQ (by omega) (by omega),λ_=>⟨_,_,_,_,_,rfl,rfl,λe he=>?_⟩⟩
    rw[Int.toNat_natCast]
    unfold cW
    by_cases ee:e=d
    ·rw[if_pos ee,if_pos (by omega),ee,Eb _ _ _ (by omega)]
     have h1:=hR d (by omega)
     rw[if_neg (by omega)] at h1
     have h2:=hR (d+1) (by omega)
     rw[if_pos (by omega)] at h2
     simp only[h1,h2,hF,Bool.not_false,Bool.not_true,Bool.true_or,Bool.false_or,Bool.and_true]
    ·rw[if_neg ee,hR e he]
     by_cases e2:30-n<=e
     ·rw[if_pos e2,if_pos (by omega)]
     ·rw[if_neg e2,if_neg (by omega)]
  ·rw[List.getElem?_eq_none (by simpa using hn)] at hd
   cases hd
 rw[List.length_map,List.length_range] at hI
 obtain⟨a5,a6,a7,a8,R,rfl,rfl,hR⟩:=hI (Nat.le_refl _)
 rw[aft_nx,wp_sRet,wp_comp]
 have fz:aW (jF (aa 3)) [some (bD ps),some (.int m),some (.int k),some (.aj s.length),some (.aj (s.length+1)),a5,a6,a7,a8] (bO s R F)=ok ((List.range 31).map λd=>eU (R d)) (s++[.dead,eD F]):=by
  refine gU (Wp.eq ?_)
  simp only[wp_frz,wp_loc0,wp_locS]
  refine Wp.of (show cH (.aj s.length) (bO s R F)=ok (.lst ((List.range 31).map λd=>eU (R d))) (s++[.dead,eD F]) from ?_) ⟨rfl,rfl⟩
  simp only[cH,yV]
  simp[bO,List.set_append_right]
 refine Wp.of fz ⟨by rw[List.length_map,List.length_range];exact le_size (by decide),?_⟩
 refine Wp.of (comp_map (λd=>eU (R d)) (λ_=>true) (λd=>yW (R d)) (List.range 31) λd hd=>⟨[some (eU (R d))],rfl,rfl,λ_=>rfl⟩) ?_
 rw[filter_tt,fin_rt]
 refine⟨?_,[.dead,eD F],rfl⟩
 unfold uW
 congr 1
 apply List.map_congr_left
 intro d hd
 have:=List.mem_range.mp hd
 rw[hR d (by omega),if_pos (by omega)]
end DI
namespace DI
open PySem L2 TK
theorem FD (s l m:Nat->Bool) {d:Nat} (hd:d<=30):((fw s l m d).1=false->(bw s l m d).1=false)/\((fw s l m d).2=false->(bw s l m d).2=false):=by
 by_cases h:d=30
 ·subst h
  rw[FC]
  exact⟨id,id⟩
 ·rw[Eb s l m (by omega)]
  exact⟨λh=>by simp[h],λh=>by simp[h]⟩
theorem Je {s l m:Nat->Bool} (h:∀d,d<=30->bw s l m d≠(false,false)):kX s l m:=by
 intro d e hs Sv he hc
 apply Classical.byContradiction
 intro rm
 have hm:∀x,d<x->x<=e->m x=false:=λx h1 h2=>by
  cases hx:m x with
  |false=>rfl
  |true=>exact(rm ⟨x,h1,h2,hx⟩).elim
 have F:∀i,d+i<=e->(fw s l m (d+i)).1=false:=by
  intro i
  induction i with
  |zero =>
   intro _
   cases d with
   |zero=>simp[fw,f0,hs]
   |succ d=>simp[fw,f0,hs]
  |succ i ih =>
   intro hi
   have:=ih (by omega)
   rw[<- Nat.add_assoc]
   simp[fw,this,hm (d+i+1) (by omega) (by omega)]
 have h1:=F (e-d) (by omega)
 rw[show d+(e-d)=e by omega] at h1
 have t:t0 l m e=false:=by
  unfold t0
  rcases hc with hc | ⟨rfl,hc⟩<;>simp[hc]
 have h2:(fw s l m e).2=false:=by cases e<;>simp[fw,t]
 exact h e he (Prod.ext ((FD s l m he).1 h1) ((FD s l m he).2 h2))
theorem MQ {s l m:Nat->Bool} (N:kX s l m) {d:Nat} (hd:d<=30):bw s l m d≠(false,false):=by
 rw[Pu N hd]
 cases hp:pr s m d with
 |false=>simp
 |true=>simp[yf N hd hp]
theorem Im {ps:List Pg} (hd:jb ps) (h:∀m∈m4,∀k∈k8,kX (sN ps m k) (lN ps m k) (mN ps m k)):iA ps=[]:=by
 unfold iA
 rw[List.flatMap_eq_nil_iff]
 intro m hm
 rw[List.flatMap_eq_nil_iff]
 intro k hk
 rw[List.map_eq_nil_iff]
 unfold jx
 rw[List.flatMap_eq_nil_iff]
 intro d fG
 rw[List.map_eq_nil_iff,List.filter_eq_nil_iff]
 intro e he hc
 have hs:d∈shown ps m k:=nT.mp fG
 obtain⟨i,hi,rfl⟩:=List.mem_map.mp he
 rw[List.mem_range] at hi
 have d0:=hd.of hs
 unfold lV at hc
 simp only[Bool.and_eq_true,Bool.or_eq_true,decide_eq_true_eq,Bool.not_eq_true'] at hc
 have e1:((d.toNat:Nat):Int)=d:=by omega
 have e2:(((d+(i:Int)).toNat:Nat):Int)=d+(i:Int):=by omega
 obtain⟨x,x1,x2,x3⟩:=h m hm k hk d.toNat (d+(i:Int)).toNat (by simp only[sN,e1,decide_eq_true_eq];exact hs) (by omega) (by omega) (by
  rcases hc.1 with z | ⟨z1,z2⟩
  ·exact .inl (by simp only[lN,e2,decide_eq_true_eq];exact z)
  ·exact .inr ⟨by omega,by simp only[mN,e1,decide_eq_true_eq];exact z2⟩)
 have hb:=hc.2
 unfold uU at hb
 rw[List.any_eq_false] at hb
 simp only[mN,decide_eq_true_eq] at x3
 refine hb _ x3 ?_
 simp only[Bool.and_eq_true,decide_eq_true_eq]
 omega
end DI
namespace DI
open PySem L2
noncomputable def brk (l:List Int):List Int:=((List.range (l.length-1)).filter λi=>l.getD (i+1) 0==l.getD i 0).map λi:Nat=>1+(i:Int)
end DI
namespace DI
open PySem L2
end DI
namespace DI
open PySem L2
end DI
namespace DI
open PySem L2
theorem Ex.get {k j:Nat} {s s':ae} {c:Cell} (h:Ex k s s') (e:s[j]?=some c) (hj:j≠k):s'[j]?=some c:=by
 rw[h.val j (List.getElem?_eq_some_iff.mp e).1 hj]
 exact e
theorem Ex.hi {k j:Nat} {s s':ae} (h:Ex k s s') (hj:s.length<=j) (c:Cell):Ex k s (s'.set j c):=⟨by rw[List.length_set];exact h.len,λi hi hk=>by rw[List.getElem?_set_ne (by omega)];exact h.val i hi hk⟩
structure RI (s0:ae) (k rh mh:Nat) (rs:List (List Int)) (s:ae):Prop where
 st:bo s k
 ex:Ex k s0 s
 run:s[rh]?=some (.lst (rs.map mD))
 mo:∃a b,s[mh]?=some (.lst [mD a,mD b])/\cJ 8 a/\cJ 8 b
 vw:∀r∈rs,cJ 8 r
 k1:k<s0.length
 r1:s0.length<=rh
 m1:s0.length<=mh
 ne:rh≠mh
theorem RI.draw {s0 s s':ae} {k rh mh:Nat} {rs:List (List Int)} (h:RI s0 k rh mh rs s) (g:bo s' k) (x:Ex k s s'):RI s0 k rh mh rs s':=by
 have:=h.k1
 have:=h.r1
 have:=h.m1
 obtain⟨a,b,e,ha,hb⟩:=h.mo
 exact⟨g,h.ex.trans x,x.get h.run (by omega),⟨a,b,x.get e (by omega),ha,hb⟩,h.vw,h.k1,h.r1,h.m1,h.ne⟩
theorem RI.push {s0 s:ae} {k rh mh:Nat} {rs:List (List Int)} {r:List Int} (h:RI s0 k rh mh rs s) (hr:cJ 8 r):RI s0 k rh mh (rs++[r]) (s.set rh (.lst (rs.map mD++[mD r]))):=by
 have:=h.k1
 have:=h.r1
 have:=h.m1
 have:=h.ne
 obtain⟨a,b,e,ha,hb⟩:=h.mo
 refine⟨h.st.set (by omega) _,h.ex.hi (by omega) _,?_,⟨a,b,by rw[List.getElem?_set_ne (by omega)];exact e,ha,hb⟩,λx hx=>?_,h.k1,h.r1,h.m1,h.ne⟩
 ·rw[List.getElem?_set_self (List.getElem?_eq_some_iff.mp h.run).1,List.map_append]
  rfl
 ·rcases List.mem_append.mp hx with hx|hx
  ·exact h.vw x hx
  ·rw[List.mem_singleton.mp hx];exact hr
theorem RI.put {s0 s:ae} {k rh mh:Nat} {rs:List (List Int)} {at_:Int} (h:RI s0 k rh mh rs s) (h0:at_=0\/at_=1):(∃a,aw (.aj mh) (.int at_) s=ok (mD a) s/\cJ 8 a)/\∀c,cJ 8 c->∃s',gg (.aj mh) (.int at_) (mD c) s=some s'/\RI s0 k rh mh rs s':=by
 have:=h.k1
 have:=h.r1
 have:=h.m1
 have:=h.ne
 obtain⟨a,b,e,ha,hb⟩:=h.mo
 have key:∀a b,cJ 8 a->cJ 8 b->RI s0 k rh mh rs (s.set mh (.lst [mD a,mD b])):=λa b ha hb=>⟨h.st.set (by omega) _,h.ex.hi (by omega) _,by rw[List.getElem?_set_ne (by omega)];exact h.run,⟨a,b,List.getElem?_set_self (List.getElem?_eq_some_iff.mp e).1,ha,hb⟩,h.vw,h.k1,h.r1,h.m1,h.ne⟩
 rcases h0 with rfl|rfl
 ·exact⟨⟨a,Af _ _ _ _ e,ha⟩,λc hc=>⟨_,F5 _ _ _ _ _ e,key _ _ hc hb⟩⟩
 ·exact⟨⟨b,Ag _ _ _ _ e,hb⟩,λc hc=>⟨_,F6 _ _ _ _ _ e,key _ _ ha hc⟩⟩
end DI
namespace DI
open PySem L2
structure Ft (n W:Nat) (d:D):Prop where
 pl:plain d=true
 sh:(py d).showable=true
 nd:(py d).hasDict=false
 dp:(py d).depth<=n
 wt:(py d).weight<=W
 lv:(py d).leavesShort 40=true
noncomputable def yX (d:D):Bool:=plain d&&(py d).showable&&!(py d).hasDict&&decide ((py d).depth<=0)&&decide ((py d).weight<=110)&&(py d).leavesShort 40
theorem yh {d:D} (h:yX d=true):Ft 0 110 d:=by
 unfold yX at h
 simp only[Bool.and_eq_true,decide_eq_true_eq,Bool.not_eq_true'] at h
 obtain⟨⟨⟨⟨⟨h0,h1⟩,h2⟩,h3⟩,h4⟩,h5⟩:=h
 exact⟨h0,h1,h2,h3,h4,h5⟩
theorem Oq:∀n:Fin 62,yX (.int ((n.val:Int)-1))=true:=by decide +kernel
theorem ox {n:Int} (h1:-1<=n) (h2:n<=60):Ft 0 110 (.int n):=by
 refine yh ?_
 have:=Oq ⟨(n+1).toNat,by omega⟩
 have e2:(((n+1).toNat:Nat):Int)-1=n:=by omega
 rw[e2] at this
 exact this
theorem E1 {n W:Nat}:∀{ds:List D},(∀x∈ds,Ft n W x)->ke ds=true/\PyData.showableAll (bY ds)=true/\PyData.hasDictAll (bY ds)=false/\PyData.depthAll (bY ds)<=n/\PyData.weightAll (bY ds)<=ds.length*(W+1)/\PyData.leavesShortAll 40 (bY ds)=true
 | [],_=>⟨rfl,rfl,rfl,Nat.zero_le _,by simp[bY,PyData.weightAll],rfl⟩
 |x::xs,h=>by
  obtain⟨z,a,b,c,d,e⟩:=E1 (ds:=xs) λy hy=>h y (List.mem_cons_of_mem _ hy)
  have k:=h x List.mem_cons_self
  refine⟨?_,?_,?_,?_,?_,?_⟩
  ·simp only[ke,k.pl,z,Bool.and_self]
  ·simp only[bY,PyData.showableAll,k.sh,a,Bool.and_self]
  ·simp only[bY,PyData.hasDictAll,k.nd,b,Bool.or_self]
  ·simp only[bY,PyData.depthAll];have:=k.dp;omega
  ·simp only[bY,PyData.weightAll,List.length_cons]
   have:=k.wt
   rw[Nat.add_mul]
   omega
  ·simp only[bY,PyData.leavesShortAll,k.lv,e,Bool.and_self]
theorem t9 {n W c:Nat} {ds:List D} (hl:ds.length<=c) (h:∀x∈ds,Ft n W x):Ft (n+1) (c*(W+1)) (.tup ds):=by
 obtain⟨z,a,b,c',d',e'⟩:=E1 h
 have hw:PyData.weightAll (bY ds)<=c*(W+1):=Nat.le_trans d' (Nat.mul_le_mul_right _ hl)
 exact⟨by simp only[plain];exact z,by simp only[py,PyData.showable];exact a,by simp only[py,PyData.hasDict];exact b,by simp only[py,PyData.depth];omega,by simp only[py,PyData.weight];exact hw,by simp only[py,PyData.leavesShort];exact e'⟩
theorem ne_str {x:Str} {s:ae}:gK (.str x) (.str x) s=ok (.bl false) s:=by
 show (match jB (.str x) (.str x) with|some b=>ok (D.bl (!b)) s|none=>none)=_
 have e:jB (.str x) (.str x)=some true:=by
  unfold jB
  rw[if_pos (show (nk (.str x)&&nk (.str x))=true from rfl)]
  simp[beq]
 rw[e]
 rfl
end DI
namespace DI
open PySem L2 TK
structure G7 (p:Pg):Prop where
 day:0<=p.day/\p.day<31
 fY:fY p
 apart:t6 p
 ft:Ft 3 7116 p.d
theorem Ft.mono {n n' W W':Nat} {d:D} (h:Ft n W d) (h1:n<=n') (h2:W<=W'):Ft n' W' d:=⟨h.pl,h.sh,h.nd,Nat.le_trans h.dp h1,Nat.le_trans h.wt h2,h.lv⟩
theorem E2:Ft 0 110 (.str "made")/\Ft 0 110 (.str "mended"):=⟨yh (by decide +kernel),yh (by decide +kernel)⟩
theorem E3 {ns:List Int} (h:cJ 8 ns):Ft 1 888 (mD ns):=by
 refine t9 (c:=8) (W:=110) (by rw[List.length_map];exact h.len) λx hx=>?_
 obtain⟨y,hy,rfl⟩:=List.mem_map.mp hx
 have:=h.lo y hy
 exact ox (by omega) (by omega)
theorem MR {p:Pg} (h:eQ p=true):G7 p:=by
 cases p with
 |made m d h' l =>
  simp only[eQ,iz,ja,Bool.and_eq_true,decide_eq_true_eq] at h
  obtain⟨⟨hm,hd⟩,h1,h2,h3⟩:=h
  have k1:=sJ h1
  have k2:=sJ h2
  refine⟨hd,⟨by have:=k1.len;omega,by have:=k2.len;omega⟩,λx hx hl=>?_,?_⟩
  ·unfold qk at h3
   rw[Bool.not_eq_true',List.any_eq_false] at h3
   exact h3 x hx (decide_eq_true hl)
  ·refine t9 (c:=4) (n:=2) (W:=1778) (by simp) λx hx=>?_
   simp only[List.mem_cons,List.not_mem_nil,or_false] at hx
   rcases hx with rfl|rfl|rfl|rfl
   ·exact E2.1.mono (by omega) (by omega)
   ·exact(ox (by omega) (by omega)).mono (by omega) (by omega)
   ·exact(ox (by omega) (by omega)).mono (by omega) (by omega)
   ·refine t9 (c:=2) (n:=1) (W:=888) (by simp) λx hx=>?_
    simp only[List.mem_cons,List.not_mem_nil,or_false] at hx
    rcases hx with rfl|rfl
    ·exact E3 k1
    ·exact E3 k2
 |bN m d k =>
  simp only[eQ,iz,ja,markB,Bool.and_eq_true,decide_eq_true_eq] at h
  obtain⟨⟨hm,hd⟩,hk⟩:=h
  refine⟨hd,trivial,trivial,(t9 (c:=4) (n:=0) (W:=110) (by simp) λx hx=>?_).mono (by omega) (by omega)⟩
  simp only[List.mem_cons,List.not_mem_nil,or_false] at hx
  rcases hx with rfl|rfl|rfl|rfl
  ·exact E2.2
  ·exact ox (by omega) (by omega)
  ·exact ox (by omega) (by omega)
  ·exact ox (by omega) (by omega)
end DI
namespace DI
open PySem L2 TK
theorem Lv {c:Nat} {ps:List Pg}:cR c (ps.map Pg.d)=(cR c ps).map Pg.d:=by
 unfold cR
 rw[List.length_map,List.map_filterMap]
 congr 1
 funext m
 rw[List.getElem?_map]
theorem Ot {ps:List Pg} {n:Nat} {s:ae}:mi (bD ps) none (some (n:Int)) s=ok (bD (ps.take n)) s:=by
 show ok (D.tup (cutD (ps.map Pg.d) none (some (n:Int)))) s=_
 unfold cutD
 rw[HT.LP]
 show ok (D.tup (((ps.map Pg.d).drop 0).take (min n (ps.map Pg.d).length-0))) s=_
 rw[List.drop_zero,Nat.sub_zero,<- List.map_take,List.length_map]
 congr 3
 rw[List.take_eq_take_min (i:=n)]
end DI
namespace DI
open PySem L2 TK
theorem wN {ps:List Pg} {s:ae} (hl:ps.length<=1000) (hf:∀p∈ps,fY p) (hb:gH ps=true):nP [bD ps] s=ok .aB s:=by
 refine Wp.eq ?_
 unfold nP
 simp only[VC]
 refine Wp.of (DW hl hf) ?_
 rw[hb]
 simp only[VC,Bool.not_true,Bool.false_eq_true,if_false,and_self]
theorem wc {m:Int} {s:ae} (hm:0<=m/\m<4):nL [.int m] s=ok .aB s:=by
 refine Wp.eq ?_
 unfold nL
 simp only[VC]
 refine Wp.of wK ?_
 rw[show iz m=true by unfold iz;simp[hm]]
 simp only[VC,Bool.not_true,Bool.false_eq_true,if_false,and_self]
noncomputable def mx (ps:List Pg) (m d:Int):List Int:=k8.filter λk=>decide (d∈js ps m k)
noncomputable def qD (ps:List Pg) (m d:Int):List Int:=k8.filter λk=>!decide (d∈fN ps m k)
noncomputable def gI (F:Int->List Int):D:=.tup (cO.map λd=>mD (F d))
theorem Di {ps:List Pg} {m:Int} {s:ae} {r:Env} (hl:ps.length<=1000):∃c,aW (ax nK (af (aa 0) (af (aa 1) ai))) (some (bD ps)::some (.int m)::r) s=ok (cO.map (qB (js ps m) (fN ps m))) (s++c):=by
 obtain⟨x,s',e,rfl,c,rfl⟩:=MN (m:=m) (s:=s) hl
 refine⟨c,gU (Wp.eq ?_)⟩
 simp only[wp_call,wp_aCons,wp_aNil,wp_loc0,wp_locS]
 exact Wp.of e ⟨rfl,rfl⟩
theorem Lw {ps:List Pg} {m:Int} {s:ae} (hl:ps.length<=1000) (hf:∀p∈ps,fY p) (hb:gH ps=true) (hm:0<=m/\m<4):Wp (nM [bD ps,.int m] s) λx s'=>x=gI (mx ps m)/\∃c,s'=s++c:=by
 unfold nM
 simp only[VC]
 refine Wp.of (wN hl hf hb) (Wp.of (wc hm) ?_)
 obtain⟨c,e⟩:=Di (m:=m) (s:=s) (r:=[]) hl
 refine Wp.of e ⟨le_size (by rw[List.length_map];decide),?_⟩
 refine Wp.of (comp_map (qB (js ps m) (fN ps m)) (λ_=>true) (λd=>mD (mx ps m d)) cO λd _=>⟨[some (mD (mx ps m d)),some (mD (k8.filter λk=>decide (d∈fN ps m k)))],rfl,rfl,λ_=>rfl⟩) ?_
 rw[filter_tt]
 exact⟨_,_,rfl,rfl,c,rfl⟩
theorem MS {ps:List Pg} {m:Int} {s:ae} (hl:ps.length<=1000) (hf:∀p∈ps,fY p) (hb:gH ps=true) (hm:0<=m/\m<4):Wp (nQ [bD ps,.int m] s) λx s'=>x=gI (qD ps m)/\∃c,s'=s++c:=by
 unfold nQ
 simp only[VC]
 refine Wp.of (wN hl hf hb) (Wp.of (wc hm) ?_)
 obtain⟨c,e⟩:=Di (m:=m) (s:=s) (r:=[]) hl
 refine Wp.of e ⟨le_size (by rw[List.length_map];decide),?_⟩
 refine Wp.of (comp_map (qB (js ps m) (fN ps m)) (λ_=>true) (λd=>mD (qD ps m d)) cO λd _=>⟨[some (mD (mx ps m d)),some (mD (k8.filter λk=>decide (d∈fN ps m k)))],rfl,rfl,λ_=>?_⟩) ?_
 ·refine Wp.eq ?_
  simp only[VC]
  refine Wp.of (ei (n:=8) rfl (by decide)) ⟨by rw[cZ];exact le_size (by decide),?_⟩
  rw[uV]
  refine Wp.of (fO (λk=>!decide (d∈fN ps m k)) (λk=>.int k) k8 λk hk=>⟨[some (.int k),some (mD (k8.filter λk=>decide (d∈fN ps m k)))],rfl,?_,λ_=>rfl⟩) ?_
  ·refine Wp.eq ?_
   simp only[VC,vU,List.mem_filter,hk,true_and,decide_eq_true_eq,and_self]
  ·exact⟨_,_,rfl,rfl,rfl⟩
 rw[filter_tt]
 exact⟨_,_,rfl,rfl,c,rfl⟩
end DI
namespace DI
open PySem L2 TK
theorem MT {F:Int->List Int} {d:Int} {s:ae} (h:d∈cO):aw (gI F) (.int d) s=ok (mD (F d)) s:=by
 unfold cO at h
 obtain⟨i,hi,rfl⟩:=List.mem_map.mp h
 rw[List.mem_range] at hi
 obtain⟨x,e1,e2⟩:=mv (xs:=cO.map λd=>mD (F d)) (i:=(i:Int)) (by omega) (by show (i:Int)<31;omega)
 have:x=mD (F i):=by
  rw[List.getElem?_map,Int.toNat_natCast] at e2
  have e3:cO[i]?=some (i:Int):=by unfold cO;rw[List.getElem?_map,List.getElem?_range hi];rfl
  rw[e3] at e2
  exact(Option.some.inj e2).symm
 subst this
 simp only[aw,iP,res,gI,e1,bG]
noncomputable def wL (F:Int->List Int) (k:Int):List Int:=cO.filter λd=>decide (k∈F d)
theorem MU {F:Int->List Int} {k:Int} {s:ae}:sx [gI F,.int k] s=ok (lI (wL F k)) s:=by
 refine Wp.eq ?_
 unfold sx
 simp only[VC]
 refine Wp.of (ei (n:=31) rfl (by decide)) ⟨by rw[cZ];exact le_size (by decide),?_⟩
 rw[yg]
 refine Wp.of (fO (λd=>decide (k∈F d)) (λd=>.int d) cO λd hd=>⟨[some (.int d),some (.int k),some (gI F)],rfl,?_,λ_=>rfl⟩) ⟨rfl,rfl⟩
 refine Wp.eq ?_
 simp only[VC,MT hd,md,and_self]
noncomputable def kN (ps:List Pg) (m k:Int) (ds:List Int):Bool :=
 (shown ps m k).all (λd=>decide (d∈ds))&&(!(ds.any λd=>decide (d∈cm ps m k)||decide (d∈bJ ps m k))&&ds.all λd=>decide (d+1∈ds)||(decide (d+1∈bJ ps m k)||decide (d+1=31)))
theorem MV {ps:List Pg} {m k:Int} {ds:List Int} {s:ae} (hl:ps.length<=1000) (hd:ds.length<=1000):sv [bD ps,.int m,.int k,lI ds] s=ok (.bl (kN ps m k ds)) s:=by
 refine Wp.eq ?_
 unfold sv kN
 simp only[VC]
 refine Wp.of (tN hl) ?_
 refine Wp.of (n6 hl).2 ?_
 refine Wp.of (n6 hl).1 ?_
 try simp only[VC]
 refine Wp.of (gU (ds:=(shown ps m k).map D.int) rfl) ⟨jw (by rw[List.length_map];exact Nat.le_trans pU hl),?_⟩
 refine Wp.of (fO (λ_=>true) (λd=>.bl (decide (d∈ds))) (shown ps m k) λd _=>⟨[some (.int d),some (lI ds)],rfl,rfl,λ_=>?_⟩) ?_
 ·refine Wp.eq ?_
  simp only[VC,kn,and_self]
 rw[filter_tt]
 refine Wp.of (kW _ _ _) ?_
 simp only[VC]
 cases h1:(shown ps m k).all λd=>decide (d∈ds) with
 |false=>simp
 |true =>
  simp only[if_true,Bool.true_and]
  refine Wp.of (gU (ds:=ds.map D.int) rfl) ⟨jw (by rw[List.length_map];exact hd),?_⟩
  refine Wp.of (fO (λ_=>true) (λd=>.bl (decide (d∈cm ps m k)||decide (d∈bJ ps m k))) ds λd _=>⟨[some (.int d),some (lI (cm ps m k)),some (lI (bJ ps m k))],rfl,rfl,λ_=>?_⟩) ?_
  ·refine Wp.eq ?_
   simp only[VC,kn]
   cases decide (d∈cm ps m k)<;>simp
  rw[filter_tt]
  refine Wp.of (wI _ _ _) ?_
  simp only[VC]
  cases h2:ds.any λd=>decide (d∈cm ps m k)||decide (d∈bJ ps m k) with
  |true=>simp
  |false =>
   simp only[Bool.not_false,if_true,Bool.true_and]
   refine Wp.of (gU (ds:=ds.map D.int) rfl) ⟨jw (by rw[List.length_map];exact hd),?_⟩
   refine Wp.of (fO (λ_=>true) (λd=>.bl (decide (d+1∈ds)||(decide (d+1∈bJ ps m k)||decide (d+1=31)))) ds λd _=>⟨[some (.int d),some (lI ds),some (lI (bJ ps m k))],rfl,rfl,λ_=>?_⟩) ?_
   ·refine Wp.eq ?_
    simp only[VC,kn]
    cases decide (d+1∈ds) with
    |true=>simp
    |false=>cases decide (d+1∈bJ ps m k)<;>simp[Bool.beq_eq_decide_eq]<;>rfl
   rw[filter_tt]
   exact Wp.of (kW _ _ _) ⟨rfl,rfl⟩
theorem MW {ps:List Pg} {m:Int} {F:Int->List Int} {s:ae} (hl:ps.length<=1000) (hf:∀p∈ps,fY p) (hb:gH ps=true) (hm:0<=m/\m<4) (hF:∀d,cJ 8 (F d)) (hg:∀k∈k8,kN ps m k (wL F k)=true):pO [bD ps,.int m,gI F] s=ok (.bl true) s:=by
 refine Wp.eq ?_
 unfold pO
 simp only[VC]
 refine Wp.of (wN hl hf hb) (Wp.of (wc hm) ?_)
 refine Wp.of (show gM [gI F,.ty "tuple"] s=ok (.bl true) s from rfl) ?_
 simp only[VC,Bool.not_true,Bool.false_eq_true,if_false]
 refine Wp.of (show fB [gI F] s=ok (.int 31) s by unfold fB gI;simp only[res];rfl) ?_
 simp only[VC]
 rw[if_neg (by decide)]
 refine Wp.of (j9 (ds:=cO.map λd=>mD (F d)) rfl) ⟨by rw[List.length_map];exact le_size (by decide),?_⟩
 refine Wp.of (comp_map (λd=>mD (F d)) (λ_=>true) (λd=>.bl (gX (F d))) cO λd _=>⟨[some (mD (F d))],rfl,rfl,λ_=>?_⟩) ?_
 ·refine Wp.eq ?_
  simp only[VC]
  exact Wp.of (wJ (by have:=(hF d).len;omega)) ⟨rfl,rfl⟩
 rw[filter_tt]
 refine Wp.of (kW _ _ _) ?_
 rw[List.all_eq_true.mpr λd _=>vV (hF d) (Nat.le_refl _)]
 simp only[VC,if_true]
 refine Wp.of (ei (n:=8) rfl (by decide)) ⟨by rw[cZ];exact le_size (by decide),?_⟩
 rw[uV]
 refine Wp.of (fO (λ_=>true) (λk=>.bl (kN ps m k (wL F k))) k8 λk _=>⟨[some (.int k),some (bD ps),some (.int m),some (gI F)],rfl,rfl,λ_=>?_⟩) ?_
 ·refine Wp.eq ?_
  simp only[VC]
  refine Wp.of MU ?_
  exact Wp.of (MV hl (Nat.le_trans (List.length_filter_le _ _) (by decide))) ⟨rfl,rfl⟩
 rw[filter_tt]
 refine Wp.of (kW _ _ _) ?_
 rw[List.all_eq_true.mpr hg]
 exact⟨rfl,rfl⟩
theorem E4 (p:Int->Bool):cJ 8 (k8.filter p):=by
 have:cJ 8 k8:=⟨λx hx=>ow.mp hx,by decide⟩
 exact this.filter p
theorem MX {d:Int}:d∈cO↔0<=d/\d<31:=by
 unfold cO
 rw[List.mem_map]
 constructor
 ·rintro ⟨i,hi,rfl⟩
  rw[List.mem_range] at hi
  omega
 ·intro h
  exact⟨d.toNat,by rw[List.mem_range];omega,by omega⟩
theorem my {ps:List Pg} {m k:Int} {ds:List Int} {G:Nat->Bool} (hd:jb ps) (e:∀d:Nat,d<=30->((d:Int)∈ds↔G d=true)) (iM:∀d∈ds,0<=d/\d<31) (h1:∀d,d<=30->sN ps m k d=true->G d=true) (h2:∀d,d<=30->G d=true->lN ps m k d=false/\mN ps m k d=false) (h3:∀d,d+1<=30->G d=true->mN ps m k (d+1)=false->G (d+1)=true):kN ps m k ds=true:=by
 unfold kN
 simp only[Bool.and_eq_true,List.all_eq_true,decide_eq_true_eq,Bool.not_eq_true',List.any_eq_false,Bool.or_eq_true,not_or]
 refine⟨λd h=>?_,λd h=>?_,λd h=>?_⟩
 ·have d0:=hd.of h
  have:=(e d.toNat (by omega)).mpr (h1 d.toNat (by omega) (by simp only[sN,decide_eq_true_eq];rw[show ((d.toNat:Nat):Int)=d by omega];exact h))
  rwa [show ((d.toNat:Nat):Int)=d by omega] at this
 ·have d0:=iM d h
  have z:=h2 d.toNat (by omega) ((e d.toNat (by omega)).mp (by rw[show ((d.toNat:Nat):Int)=d by omega];exact h))
  simp only[lN,mN,decide_eq_false_iff_not,show ((d.toNat:Nat):Int)=d by omega] at z
  exact z
 ·have d0:=iM d h
  have e1:((d.toNat:Nat):Int)=d:=by omega
  have g:=(e d.toNat (by omega)).mp (by rw[e1];exact h)
  by_cases hl:d+1=31
  ·exact .inr (.inr hl)
  ·cases hm:mN ps m k (d.toNat+1) with
   |true =>
    simp only[mN,decide_eq_true_eq] at hm
    rw[show ((d.toNat+1:Nat):Int)=d+1 by omega] at hm
    exact .inr (.inl hm)
   |false =>
    have:=(e (d.toNat+1) (by omega)).mpr (h3 d.toNat (by omega) g hm)
    rw[show ((d.toNat+1:Nat):Int)=d+1 by omega] at this
    exact .inl this
theorem ua {F:Int->List Int} {k:Int} {d:Int}:d∈wL F k↔(0<=d/\d<31)/\k∈F d:=by
 unfold wL
 rw[List.mem_filter,MX,decide_eq_true_eq]
theorem Jf {ps:List Pg} {m k:Int} (hd:jb ps) (N:kX (sN ps m k) (lN ps m k) (mN ps m k)) (hk:k∈k8):kN ps m k (wL (mx ps m) k)=true:=by
 refine my (G:=λd=>pr (sN ps m k) (mN ps m k) d) hd (λd h=>?_) (λd h=>(ua.mp h).1) (λd h hs=>?_) (λd h hp=>?_) (λd h hp hm=>?_)
 ·rw[ua]
  unfold mx
  rw[List.mem_filter,ML h]
  exact⟨λz=>z.2.2,λz=>⟨by omega,hk,z⟩⟩
 ·cases d<;>simp[pr,hs]
 ·have:=ux N h hp
  unfold t0 at this
  simp only[Bool.and_eq_true,Bool.not_eq_true'] at this
  exact⟨this.2,this.1⟩
 ·simp[pr,hp,hm]
theorem Kg {ps:List Pg} {m k:Int} (hd:jb ps) (N:kX (sN ps m k) (lN ps m k) (mN ps m k)) (hk:k∈k8):kN ps m k (wL (qD ps m) k)=true:=by
 refine my (G:=λd=>!ab (lN ps m k) (mN ps m k) d) hd (λd h=>?_) (λd h=>(ua.mp h).1) (λd h hs=>?_) (λd h hp=>?_) (λd h hp hm=>?_)
 ·rw[ua]
  unfold qD
  rw[List.mem_filter,MM h]
  exact⟨λz=>z.2.2,λz=>⟨by omega,hk,z⟩⟩
 ·have:pr (sN ps m k) (mN ps m k) d=true:=by cases d<;>simp[pr,hs]
  simp[yf N h this]
 ·unfold ab at hp
  simp only[Bool.not_eq_true',Bool.or_eq_false_iff] at hp
  exact hp.2
 ·unfold ab at hp |-
  rw[yd _ _ h] at hp
  simp only[Bool.not_eq_true',Bool.or_eq_false_iff,Bool.and_eq_false_iff,hm,Bool.not_false,reduceCtorEq,or_false] at hp |-
  exact⟨hp.1.1,hp.1.2,trivial⟩
end DI
namespace DI
open PySem L2 TK
noncomputable def jW (ps:List Pg) (m k:Int):Bool:=(List.range 31).all λd=>(bw (sN ps m k) (lN ps m k) (mN ps m k) d).1||(bw (sN ps m k) (lN ps m k) (mN ps m k) d).2
theorem Ec {ps:List Pg} {m k:Int}:jW ps m k=true↔kX (sN ps m k) (lN ps m k) (mN ps m k):=by
 unfold jW
 rw[List.all_eq_true]
 constructor
 ·intro h
  refine Je λd hd e=>?_
  have:=h d (by rw[List.mem_range];omega)
  rw[e] at this
  cases this
 ·intro N d hd
  rw[List.mem_range] at hd
  have:=MQ N (show d<=30 by omega)
  generalize bw (sN ps m k) (lN ps m k) (mN ps m k) d=x at this
  obtain⟨f,t⟩:=x
  cases f<;>cases t<;>first|rfl|exact(this rfl).elim
theorem wO {α:Type} (f:α->D) (h:∀x,lay (f x)=true):∀l:List α,cV (l.map f)=true
 | []=>rfl
 |x::l=>by rw[List.map_cons,cV,h x,wO f h l];rfl
theorem Lx (x:Bool×Bool):lay (yW x)=true:=by
 obtain⟨f,t⟩:=x
 cases f<;>cases t<;>rfl
theorem Kh {ps:List Pg} {m k:Int} {s:ae}:cL (.tup []) (uW ps m k) s=ok (.bl (jW ps m k)) s:=by
 unfold cL uW
 simp only[lq,res,inD]
 rw[if_pos (by unfold mE;rw[show lay (.tup [])=true from rfl,wO _ (λd=>Lx _),Bool.and_self,Bool.true_and];rfl)]
 simp only[Option.map_some,bG]
 congr 2
 unfold jW
 rw[List.any_map,List.not_any_eq_all_not]
 congr 1
 funext d
 simp only[Function.comp]
 generalize bw (sN ps m k) (lN ps m k) (mN ps m k) d=x
 obtain⟨f,t⟩:=x
 cases f<;>cases t<;>rfl
theorem Ki {ps:List Pg} {s:ae} (hl:ps.length<=24) (h:Laid ps):pR [bD ps] s=ok (.lst ((iA ps).map fD)) s:=by
 refine Wp.eq ?_
 unfold pR
 simp only[VC]
 refine Wp.of (DU (by omega) λp hp=>sR (h.pg p hp)) ?_
 rw[h.gG hl]
 simp only[VC,Bool.not_true,Bool.false_eq_true,if_false]
 exact Wp.of (Cv (wb (h.gG hl))) ⟨rfl,rfl⟩
theorem eq_nil {ds:List D} {s:ae} (h:cV ds=true):aT (.lst ds) (.lst []) s=ok (.bl ds.isEmpty) s:=by
 have e:jB (.lst ds) (.lst [])=some ds.isEmpty:=by
  unfold jB
  rw[if_neg (by simp[nk]),if_pos (by simp only[lay,h,cV,dep,cG,Bool.and_self,Bool.true_and,decide_eq_true_eq];exact decide_eq_true (Nat.le_trans (Nat.min_le_right _ 1) (show 1<=100 by decide)))]
  cases ds<;>rfl
 show (match jB (.lst ds) (.lst []) with|some b=>ok (D.bl b) s|none=>none)=_
 rw[e]
theorem Laid.pick {ps:List Pg} (h:Laid ps) {c:Nat} (hc:0<c):Laid (cR c ps):=by
 refine⟨λp hp=>h.pg p (JR hp),?_⟩
 unfold cR
 rw[List.pairwise_filterMap]
 refine List.pairwise_lt_range.imp λ{i j} dA b hb b' eV=>?_
 obtain⟨l1,e1⟩:=List.getElem?_eq_some_iff.mp hb
 obtain⟨l2,e2⟩:=List.getElem?_eq_some_iff.mp eV
 have:=List.pairwise_iff_getElem.mp h.up _ _ l1 l2 (Nat.mul_lt_mul_of_pos_right dA hc)
 rw[e1,e2] at this
 exact this
theorem MY {a b:Bool} {s:ae}:gK (.lst [.bl a,.bl a]) (.lst [.bl b,.bl b]) s=ok (.bl (!decide (a=b))) s:=by
 cases a<;>cases b<;>rfl
theorem Kj {ps:List Pg} {s:ae} {sc:D} {k0:Int} {k:Nat} {a5 a6 a7:Option D} {Q:Fl->ae->Prop} (hl:ps.length<=24) (hg:∀p∈ps,G7 p)
  (q:∀(b5 b6:Option D) (c:List Cell),Q (.nx [some sc,some (.int k0),some (.aj k),some (bD ps),some (.bl (m4.all λm=>k8.all λk=>jW ps m k)),b5,b6,a7]) (s++c)) :
  Wp ((cw (bE (af (eC (.int 4)) ai)) (gN 5) (cw (bE (af (eC (.int 8)) ai)) (gN 6) (aO (cv (aa 4) (e2 cL (bZ ai) (ax mq (af (aa 3) (af (aa 5) (af (aa 6) ai)))))) (gN 4)))) [some sc,some (.int k0),some (.aj k),some (bD ps),some (.bl true),a5,a6,a7] s) Q:=by
 have inner:∀{m:Int} {g:Bool} {s:ae} {a6:Option D} {Q:Fl->ae->Prop},(∀(b6:Option D) (c:List Cell),Q (.nx [some sc,some (.int k0),some (.aj k),some (bD ps),some (.bl (g&&k8.all λk=>jW ps m k)),some (.int m),b6,a7]) (s++c)) ->
   Wp ((cw (bE (af (eC (.int 8)) ai)) (gN 6) (aO (cv (aa 4) (e2 cL (bZ ai) (ax mq (af (aa 3) (af (aa 5) (af (aa 6) ai)))))) (gN 4))) [some sc,some (.int k0),some (.aj k),some (bD ps),some (.bl g),some (.int m),a6,a7] s) Q:=λ{m g s a6 Q} q=>by
  rw[wp_sFor]
  refine Wp.of (ei (n:=8) rfl (by decide)) ?_
  rw[uV]
  refine Wp.fX (λi env s'=>i<=8->∃b6 c,env=[some sc,some (.int k0),some (.aj k),some (bD ps),some (.bl (g&&(k8.take i).all λk=>jW ps m k)),some (.int m),b6,a7]/\s'=s++c) _ (λ_=>⟨a6,[],by simp,by simp⟩) (λi d env s' hd hI=>?_) (λenv s' hI=>?_)
  ·have hi:i<8:=by
    have:=(List.getElem?_eq_some_iff.mp hd).1
    rw[List.length_map] at this
    exact this
   obtain⟨b6,c,rfl,rfl⟩:=hI (by omega)
   have hx:k8[i]?=some (i:Int):=by unfold k8;rw[List.getElem?_map,List.getElem?_range hi];rfl
   rw[List.getElem?_map,hx] at hd
   cases hd
   refine⟨_,rfl,?_⟩
   have tk:k8.take (i+1)=k8.take i++[(i:Int)]:=by rw[List.take_succ,hx];rfl
   simp only[List.set_cons_succ,List.set_cons_zero,wp_sAsg,wp_eAnd,wp_loc0,wp_locS,wp_isBl,asg_N]
   rw[tk,List.all_append,<- Bool.and_assoc]
   generalize (g&&(k8.take i).all λk=>jW ps m k)=r
   cases r with
   |false =>
    simp only[Bool.false_eq_true,if_false,Bool.false_and]
    exact λ_=>⟨_,c,rfl,rfl⟩
   |true =>
    simp only[if_true,Bool.true_and,wp_e2,wp_tup,wp_aNil,wp_call,wp_aCons,wp_loc0,wp_locS]
    refine⟨le_size (by simp),?_⟩
    refine(Oo (m:=m) (k:=i) (by omega) λp hp=>⟨(hg p hp).day,(hg p hp).fY,(hg p hp).apart⟩).mono λx s2 hx=>?_
    obtain⟨rfl,c2,rfl⟩:=hx
    refine Wp.of Kh ?_
    exact λ_=>⟨some (.int i),c++c2,by simp,by simp⟩
  ·obtain⟨b6,c,rfl,rfl⟩:=hI (by rw[List.length_map];exact Nat.le_refl _)
   rw[List.length_map,show k8.take k8.length=k8 from List.take_length]
   exact q _ c
 rw[wp_sFor]
 refine Wp.of (ei (n:=4) rfl (by decide)) ?_
 rw[show bR 0 4=m4.map D.int from rfl]
 refine Wp.fX (λi env s'=>i<=4->∃b5 b6 c,env=[some sc,some (.int k0),some (.aj k),some (bD ps),some (.bl ((m4.take i).all λm=>k8.all λk=>jW ps m k)),b5,b6,a7]/\s'=s++c) _ (λ_=>⟨a5,a6,[],by simp,by simp⟩) (λi d env s' hd hI=>?_) (λenv s' hI=>?_)
 ·have hi:i<4:=by
   have:=(List.getElem?_eq_some_iff.mp hd).1
   rw[List.length_map] at this
   exact this
  obtain⟨b5,b6,c,rfl,rfl⟩:=hI (by omega)
  have hx:m4[i]?=some (i:Int):=by unfold m4;rw[List.getElem?_map,List.getElem?_range hi];rfl
  rw[List.getElem?_map,hx] at hd
  cases hd
  refine⟨_,rfl,?_⟩
  have tk:m4.take (i+1)=m4.take i++[(i:Int)]:=by rw[List.take_succ,hx];rfl
  simp only[List.set_cons_succ,List.set_cons_zero]
  refine inner λb6 c2=>?_
  exact λ_=>⟨some (.int i),b6,c++c2,by rw[tk,List.all_append];simp,by simp⟩
 ·obtain⟨b5,b6,c,rfl,rfl⟩:=hI (by rw[List.length_map];exact Nat.le_refl _)
  rw[List.length_map,show m4.take m4.length=m4 from List.take_length]
  exact q _ _ c
theorem Kk {ps:List Pg} {s:ae} {sc:D} {k0:Int} {k:Nat} {a4 a5 a6 a7:Option D} {Q:Fl->ae->Prop} (hl:ps.length<=24) (hf:Laid ps) (h:bo s k)
  (q:∀(b4 b5 b6 b7:Option D) (s':ae),bo s' k->Q (.nx [some sc,some (.int k0),some (.aj k),some (bD ps),b4,b5,b6,b7]) s') :
  Wp ((ay (aO (eC (.bl true)) (gN 4)) (ay (cw (bE (af (eC (.int 4)) ai)) (gN 5) (cw (bE (af (eC (.int 8)) ai)) (gN 6) (aO (cv (aa 4) (e2 cL (bZ ai) (ax mq (af (aa 3) (af (aa 5) (af (aa 6) ai)))))) (gN 4)))) (ay (bX (aH (e2 gK (fy (af (ax nU (af (aa 3) ai)) (af (e2 aT (ax pR (af (aa 3) ai)) (fy ai)) ai))) (fy (af (aa 4) (af (aa 4) ai))))) (aQ (eC (.bl false))) cu) (bX (dP (aa 4)) (ay (aO (ax bu (af (aa 2) (af (eC (.int 4)) ai))) (gN 5)) (cw (aW (fy (af (ax nM (af (aa 3) (af (aa 5) ai))) (af (ax nQ (af (aa 3) (af (aa 5) ai))) ai)))) (gN 7) (bX (aH (e2 qh (ax pO (af (aa 3) (af (aa 5) (af (aa 7) ai)))) (eC (.bl true)))) (aQ (eC (.bl false))) cu))) cu)))) [some sc,some (.int k0),some (.aj k),some (bD ps),a4,a5,a6,a7] s) Q:=by
 have fin:∀p∈ps,fY p:=λp hp=>sR (hf.pg p hp)
 have hD:jb ps:=wb (hf.gG hl)
 rw[wp_sSeq,wp_sAsg]
 simp only[wp_C,asg_N,List.set_cons_succ,List.set_cons_zero,aft_nx]
 rw[wp_sSeq]
 refine Kj hl (λp hp=>MR (hf.pg p hp)) λb5 b6 c=>?_
 have key:(m4.all λm=>k8.all λk=>jW ps m k)=(iA ps).isEmpty:=by
  rw[Bool.eq_iff_iff,List.isEmpty_iff]
  constructor
  ·intro h
   rw[List.all_eq_true] at h
   refine Im hD λm hm k hk=>Ec.mp ?_
   have:=h m hm
   rw[List.all_eq_true] at this
   exact this k hk
  ·intro h
   have hb:gH ps=true:=by unfold gH;rw[hf.gG hl,h];rfl
   rw[List.all_eq_true]
   intro m hm
   rw[List.all_eq_true]
   intro k hk
   exact Ec.mpr (xm hb (EV.mp hm) (ow.mp hk))
 have hB:gH ps=(iA ps).isEmpty:=by unfold gH;rw[hf.gG hl];rfl
 rw[key,<- hB]
 have h1:=h.app c
 generalize s++c=t at h1
 rw[aft_nx,wp_sSeq,wp_sIf]
 simp only[wp_tBl,wp_e2,wp_lst,wp_aCons,wp_aNil,wp_call,wp_loc0,wp_locS]
 refine Wp.of (DW (by omega) fin) (Wp.of (Ki hl hf) ⟨le_size (by simp),Wp.of (eq_nil (wO _ (λx=>rfl) _)) ?_⟩)
 rw[List.isEmpty_map,<- hB]
 refine⟨le_size (by simp only[List.length_cons,List.length_nil];decide),le_size (by simp only[List.length_cons,List.length_nil];decide),Wp.of MY ?_⟩
 simp only[wp_isBl,decide_true,Bool.not_true,Bool.false_eq_true,if_false,wp_sNil,aft_nx]
 rw[wp_sIf]
 simp only[wp_tru,wp_locS,wp_loc0,wp_truB]
 cases hb:gH ps with
 |false =>
  simp only[Bool.false_eq_true,if_false,wp_sNil]
  exact q _ _ _ _ _ h1
 |true =>
  simp only[if_true]
  rw[wp_sSeq,wp_sAsg]
  simp only[wp_call,wp_aCons,wp_aNil,wp_locS,wp_loc0,wp_C]
  refine(dN h1 (by decide) (by decide)).mono λd s1 hd=>?_
  obtain⟨m,rfl,m0,m1,h2,e1⟩:=hd
  simp only[asg_N,List.set_cons_succ,List.set_cons_zero,aft_nx]
  rw[wp_sFor]
  have it:Wp (aW (fy (af (ax nM (af (aa 3) (af (aa 5) ai))) (af (ax nQ (af (aa 3) (af (aa 5) ai))) ai))) [some sc,some (.int k0),some (.aj k),some (bD ps),some (.bl true),some (.int m),b6,a7] s1) λds s'=>ds=[gI (mx ps m),gI (qD ps m)]/\bo s' k:=by
   unfold aW
   rw[bj]
   simp only[wp_lst,wp_aCons,wp_aNil,wp_call,wp_loc0,wp_locS]
   refine(Lw (by omega) fin hb ⟨m0,m1⟩).mono λx s2 hx=>?_
   obtain⟨rfl,c2,rfl⟩:=hx
   refine(MS (by omega) fin hb ⟨m0,m1⟩).mono λx s3 hx=>?_
   obtain⟨rfl,c3,rfl⟩:=hx
   refine⟨le_size (by simp only[List.length_cons,List.length_nil];decide),?_⟩
   simp only[wp_ok]
   exact⟨by first|trivial|rfl,(h2.app c2).app c3⟩
  refine it.mono λds s2 hd=>?_
  obtain⟨rfl,h3⟩:=hd
  refine Wp.fX (λi env s'=>∃b7,env=[some sc,some (.int k0),some (.aj k),some (bD ps),some (.bl true),some (.int m),b6,b7]/\bo s' k) _ ⟨_,rfl,h3⟩ (λi d env s' hd hI=>?_) (λenv s' hI=>?_)
  ·obtain⟨b7,rfl,g1⟩:=hI
   have hF:∃F,d=gI F/\(∀d,cJ 8 (F d))/\∀k∈k8,kN ps m k (wL F k)=true:=by
    match i,hd with
    |0,hd=>cases hd;exact⟨_,rfl,λd=>E4 _,λk hk=>Jf hD (xm hb ⟨m0,m1⟩ (ow.mp hk)) hk⟩
    |1,hd=>cases hd;exact⟨_,rfl,λd=>E4 _,λk hk=>Kg hD (xm hb ⟨m0,m1⟩ (ow.mp hk)) hk⟩
    |j+2,hd=>cases hd
   obtain⟨F,rfl,f1,f2⟩:=hF
   refine⟨_,rfl,?_⟩
   rw[wp_sIf]
   simp only[wp_tBl,wp_e2,wp_call,wp_aCons,wp_aNil,wp_locS,wp_loc0,wp_C,List.set_cons_succ,List.set_cons_zero]
   refine Wp.of (MW (by omega) fin hb ⟨m0,m1⟩ f1 f2) (Wp.of (show qh (.bl true) (.bl true) s'=ok (.bl false) s' from rfl) ?_)
   simp only[wp_isBl,Bool.false_eq_true,if_false,wp_sNil]
   exact⟨_,rfl,g1⟩
  ·obtain⟨b7,rfl,g1⟩:=hI
   exact q _ _ _ _ _ g1
theorem Ly (W:World) (ns:List Int) (hn:ns.length<=63):∃s,uu W [.bF ns] []=some (.ok (.bl true),s):=by
 suffices h:Wp (uu W [.bF ns] []) λd _=>d=.bl true by
  obtain⟨d,s,e,rfl⟩:=h
  exact⟨s,e⟩
 unfold uu
 simp only[wp_fn,List.length_cons,List.length_nil,Nat.reduceAdd,Nat.reduceSub,List.replicate,List.map_cons,List.map_nil,List.cons_append,List.nil_append,true_and,wp_sSeq,wp_sFor]
 have hr:∃n:Nat,n<=1000/\bE (af (eB mC (af (eC (.int 1)) (af (eB qx (af (eB fB (af (aa 0) ai)) (af (eC (.int 3)) ai))) ai))) ai) [some (.bF ns),none,none,none,none,none,none,none] []=ok (bR 0 n) []:=by
  have e:∃n:Nat,n<=1000/\(af (eB mC (af (eC (.int 1)) (af (eB qx (af (eB fB (af (aa 0) ai)) (af (eC (.int 3)) ai))) ai))) ai) [some (.bF ns),none,none,none,none,none,none,none] []=ok [.int n] []:=by
   refine⟨(if (if (3:Int)<ns.length then (3:Int) else ns.length) > 1 then (if (3:Int)<ns.length then (3:Int) else ns.length) else 1).toNat,by split<;>split<;>omega,?_⟩
   rw[Int.toNat_of_nonneg (by split<;>split<;>omega)]
   rfl
  obtain⟨n,h1,h2⟩:=e
  exact⟨n,h1,ei h2 (by omega)⟩
 obtain⟨n,hn,hr⟩:=hr
 refine Wp.of hr ?_
 refine Wp.fX (λi env s=>∃e1 e2 e3 e4 e5 e6 e7,env=[some (.bF ns),e1,e2,e3,e4,e5,e6,e7]) _ ⟨_,_,_,_,_,_,_,rfl⟩ (λi d env s hd hI=>?_) (λenv s hI=>?_)
 ·obtain⟨e1,e2,e3,e4,e5,e6,e7,rfl⟩:=hI
  rw[gB] at hd
  split at hd
  ·cases hd
   refine⟨_,rfl,?_⟩
   simp only[wp_sSeq,wp_sAsg,asg_N,wp_call,wp_aCons,wp_aNil,wp_loc0,wp_locS,List.set_cons_succ,List.set_cons_zero]
   refine(Lj (by omega)).mono λd s1 hd=>?_
   obtain⟨rfl,h1,c1,rfl⟩:=hd
   generalize s.length=k at h1
   rw[aft_nx,wp_sFor]
   refine Wp.mono (Q:=λds s2=>∃p1 p2 p3:List Pg,ds=[bD p1,bD p2,bD p3]/\(p1.length<=24/\Laid p1)/\(p2.length<=24/\Laid p2)/\(p3.length<=24/\Laid p3)/\bo s2 k) ?_ λds s2 hd=>?_
   ·unfold aW
    rw[bj]
    simp only[wp_lst,wp_aCons,wp_aNil,wp_sl,wp_call,wp_loc0,wp_locS,wp_pNo,wp_e1,wp_tup]
    refine(D3 h1).mono λd s2 hd=>?_
    obtain⟨p1,rfl,f1,l1,h2,x2,z1⟩:=hd
    refine(D3 h2).mono λd s3 hd=>?_
    obtain⟨p2,rfl,f2,l2,h3,x3,z2⟩:=hd
    refine Wp.of (show uq 2 (bD p2) s3=ok (bD (cR 2 p2)) s3 by show ok (D.tup (cR 2 (p2.map Pg.d))) s3=_;rw[Lv]) ?_
    refine(MK h3).mono λd s4 hd=>?_
    obtain⟨p3,rfl,f3,l3,h4,x4,z3⟩:=hd
    rw[xk (i:=24) rfl]
    refine Wp.of (Ot (n:=24)) ?_
    refine⟨le_size (by simp only[List.length_cons,List.length_nil];decide),?_⟩
    simp only[wp_ok]
    exact⟨_,_,_,rfl,⟨l1,z1⟩,⟨Nat.le_trans (v8 2 p2 (by decide)) (by omega),z2.pick (by decide)⟩,⟨by rw[List.length_take];omega,z3.sub (List.take_sublist _ _)⟩,h4⟩
   ·obtain⟨p1,p2,p3,rfl,g1,g2,g3,h2⟩:=hd
    refine Wp.fX (λj env s=>∃e3 e4 e5 e6 e7,env=[some (.bF ns),some (.int (0+(i:Int))),some (.aj k),e3,e4,e5,e6,e7]/\bo s k) _ ⟨_,_,_,_,_,rfl,h2⟩ (λj d env s hd hI=>?_) (λenv s hI=>?_)
    ·obtain⟨e3,e4,e5,e6,e7,rfl,hs⟩:=hI
     have hg:∃ps:List Pg,d=bD ps/\ps.length<=24/\Laid ps:=by
      match j,hd with
      |0,hd=>cases hd;exact⟨_,rfl,g1⟩
      |1,hd=>cases hd;exact⟨_,rfl,g2⟩
      |2,hd=>cases hd;exact⟨_,rfl,g3⟩
      |j+3,hd=>cases hd
     obtain⟨ps,rfl,gl,gf⟩:=hg
     refine⟨_,rfl,?_⟩
     exact Kk gl gf hs λb4 b5 b6 b7 s' Sx=>⟨_,_,_,_,_,rfl,Sx⟩
    ·obtain⟨e3,e4,e5,e6,e7,rfl,hs⟩:=hI
     exact⟨_,_,_,_,_,_,_,rfl⟩
  ·cases hd
 ·obtain⟨e1,e2,e3,e4,e5,e6,e7,rfl⟩:=hI
  simp only[VC]
end DI
namespace DI.iQ
open PySem L2 DI
def Df (K:Frag) (x:Str) (st:Stmt):Prop:=∃(f:Addr) (oc:Value) (od:Option Addr) (sl:Array (Option Value)) (kV dc pm:Value) (an:Option Addr) (cd ct:Value),PySem.W.nsIn K mainGlobals x=some (some (.ref f))/\K.lookup f=some ⟨oc,od,.func (PySem.W.fnOf x x (l9 st) (kb st) (aV st) .none kV dc pm an cd ct),sl⟩/\PySem.W.codeIn K cd x=true/\PySem.W.keepIn K (.ref f)=true
theorem Px {K:Frag} {x:Str} {st:Stmt} {f:Addr} {oc:Value} {od:Option Addr} {sl:Array (Option Value)} {kV dc pm:Value} {an:Option Addr} {cd ct:Value} (a:PySem.W.nsIn K mainGlobals x=some (some (.ref f))) (l:K.lookup f=some ⟨oc,od,.func (PySem.W.fnOf x x (l9 st) (kb st) (aV st) .none kV dc pm an cd ct),sl⟩) (c:PySem.W.codeIn K cd x=true) (k:PySem.W.keepIn K (.ref f)=true):Df K x st:=⟨f,oc,od,sl,kV,dc,pm,an,cd,ct,a,l,c,k⟩
theorem oH {K:Frag} {x:Str} {i:Int} {t:Tok} (e:PySem.W.nsIn K mainGlobals x=some (some (.int i t))):∃t,PySem.W.nsIn K mainGlobals x=some (some (.int i t)):=⟨t,e⟩
theorem bK {K:Frag} {h:Heap} {mg:Str->Option Value} {x:Str} {st:Stmt} {ps:List Str} (X:K.In h) (G:h.Ns mainGlobals mg) (D:Df K x st) (hb:∀(kV doc pm:Value) (an:Option Addr) (aX ct:Value) (us:List Value),us.length=ps.length->bindArgs (PySem.W.fnOf x x (l9 st) (kb st) (aV st) .none kV doc pm an aX ct) ⟨us,[]⟩=pure (ps.zip us)):∃f fd,Gd K mg x st ps f fd:=by
 obtain⟨f,oc,od,sl,kV,dc,pm,an,cd,ct,a,l,c,k⟩:=D
 have F:=Ej (st:=st) l c k
 exact⟨f,_,PySem.W.mg_of X G a,F,F.binds hb⟩
theorem fu {P:List Value->Prop} (h:∀a0:Value,P [a0]) (us:List Value) (hl:us.length=1):P us:=by
 cases us with
 |nil=>simp at hl
 |cons a0 nJ =>
 cases nJ with
 |cons _ _=>simp at hl
 |nil =>
 exact h a0
theorem iD {P:List Value->Prop} (h:∀a0 a1:Value,P [a0,a1]) (us:List Value) (hl:us.length=2):P us:=by
 cases us with
 |nil=>simp at hl
 |cons a0 nJ =>
 cases nJ with
 |nil=>simp at hl
 |cons a1 rX =>
 cases rX with
 |cons _ _=>simp at hl
 |nil =>
 exact h a0 a1
theorem ko {P:List Value->Prop} (h:∀a0 a1 a2:Value,P [a0,a1,a2]) (us:List Value) (hl:us.length=3):P us:=by
 cases us with
 |nil=>simp at hl
 |cons a0 nJ =>
 cases nJ with
 |nil=>simp at hl
 |cons a1 rX =>
 cases rX with
 |nil=>simp at hl
 |cons a2 Ak =>
 cases Ak with
 |cons _ _=>simp at hl
 |nil =>
 exact h a0 a1 a2
theorem FE {P:List Value->Prop} (h:∀a0 a1 a2 a3:Value,P [a0,a1,a2,a3]) (us:List Value) (hl:us.length=4):P us:=by
 cases us with
 |nil=>simp at hl
 |cons a0 nJ =>
 cases nJ with
 |nil=>simp at hl
 |cons a1 rX =>
 cases rX with
 |nil=>simp at hl
 |cons a2 Ak =>
 cases Ak with
 |nil=>simp at hl
 |cons a3 Sy =>
 cases Sy with
 |cons _ _=>simp at hl
 |nil =>
 exact h a0 a1 a2 a3
theorem all_mk {P:Program} {w:World} {K:Frag} {h:Heap} {mg:Str->Option Value} {fa:Addr} (X:K.In h) (G:h.Ns mainGlobals mg) (Sz:mg "law"=some (.ref fa))
  (d0:Df K "_law_cell_at" (top 43))
  (d1:Df K "_law_state" (top 44))
  (d2:Df K "_law_take" (top 45))
  (d3:Df K "_law_marks" (top 46))
  (d4:Df K "_law_near" (top 48))
  (d5:Df K "_law_lived" (top 49))
  (d6:Df K "_law_book" (top 50))
  (d7:Df K "is_rising" (top 13))
  (d8:Df K "is_number" (top 8))
  (d9:Df K "is_below" (top 9))
  (Al:Df K "is_mark" (top 10))
  (Am:Df K "are_marks" (top 19))
  (An:Df K "are_apart" (top 21))
  (Ao:Df K "is_sheet" (top 20))
  (Ap:Df K "is_mould" (top 11))
  (Aq:Df K "is_day" (top 12))
  (Ar:Df K "is_page" (top 22))
  (As:Df K "are_laid" (top 23))
  (Au:Df K "days_seen" (top 29))
  (Av:Df K "days_mended" (top 30))
  (Aw:Df K "is_any_behind" (top 28))
  (Ax:Df K "clashes" (top 27))
  (Ay:Df K "faults_of" (top 26))
  (Az:Df K "is_book" (top 25))
  (AA:Df K "need_book" (top 31))
  (AB:Df K "need_mould" (top 14))
  (AD:Df K "days_present" (top 38))
  (AE:Df K "days_absent" (top 39))
  (AF:Df K "marks_on" (top 37))
  (AG:Df K "sure_sheets" (top 36))
  (AH:Df K "least_life" (top 34))
  (cO:Df K "most_life" (top 35))
  (AI:Df K "faults" (top 24))
  (AJ:Df K "goes_with" (top 41))
  (AK:Df K "days_with" (top 40))
  (AL:Df K "is_life" (top 33))
  (AM:Df K "_law_leads" (top 53))
  (AN:Df K "_law_gone" (top 52))
  (AO:Df K "_law_may" (top 51))
  (dl:Df K "law" (top 54))
  (xn:∃t,PySem.W.nsIn K mainGlobals "MARKS"=some (some (.int (8) t)))
  (wQ:∃t,PySem.W.nsIn K mainGlobals "MOULDS"=some (some (.int (4) t)))
  (xN:∃t,PySem.W.nsIn K mainGlobals "DAYS"=some (some (.int (31) t)))
  (xo:∃t,PySem.W.nsIn K mainGlobals "PAGES"=some (some (.int (24) t)))
  (yi:∃t,PySem.W.nsIn K mainGlobals "HAS"=some (some (.int (0) t)))
  (xp:∃t,PySem.W.nsIn K mainGlobals "LACKS"=some (some (.int (1) t)))
  (yj:PySem.W.nsIn K mainGlobals "all"=some none)
  (yk:PySem.W.nsIn K mainGlobals "any"=some none)
  (xO:PySem.W.nsIn K mainGlobals "bool"=some none)
  (yl:PySem.W.nsIn K mainGlobals "int"=some none)
  (vH:PySem.W.nsIn K mainGlobals "isinstance"=some none)
  (ym:PySem.W.nsIn K mainGlobals "len"=some none)
  (xP:PySem.W.nsIn K mainGlobals "list"=some none)
  (yn:PySem.W.nsIn K mainGlobals "max"=some none)
  (yo:PySem.W.nsIn K mainGlobals "min"=some none)
  (xq:PySem.W.nsIn K mainGlobals "range"=some none)
  (vW:PySem.W.nsIn K mainGlobals "reversed"=some none)
  (yp:PySem.W.nsIn K mainGlobals "set"=some none)
  (wR:PySem.W.nsIn K mainGlobals "sorted"=some none)
  (xr:PySem.W.nsIn K mainGlobals "tuple"=some none)
  (yq:PySem.W.nsIn K mainGlobals "zip"=some none)
  : ∃fd:FuncData,(∀(s:Shared) (v:Value),BindsTo s fd ⟨[v],[]⟩ [("_law_script",v)])/\∀base:Heap,K.In base->base.Ns mainGlobals mg->aS P w K mg base aY 11 fa fd ["_law_script"] (uj K):=by
 have g0:=bK (ps:=["_law_script","_law_k"]) X G d0 λ_ _ _ _ _ _=>iD λ_ _=>rfl
 have g1:=bK (ps:=["_law_script","_law_k"]) X G d1 λ_ _ _ _ _ _=>iD λ_ _=>rfl
 have g2:=bK (ps:=["_law_state_here","_law_many"]) X G d2 λ_ _ _ _ _ _=>iD λ_ _=>rfl
 have g3:=bK (ps:=["_law_state_here","_law_most"]) X G d3 λ_ _ _ _ _ _=>iD λ_ _=>rfl
 have g4:=bK (ps:=["_law_state_here"]) X G d4 λ_ _ _ _ _ _=>fu λ_=>rfl
 have g5:=bK (ps:=["_law_state_here","_law_mended"]) X G d5 λ_ _ _ _ _ _=>iD λ_ _=>rfl
 have g6:=bK (ps:=["_law_state_here"]) X G d6 λ_ _ _ _ _ _=>fu λ_=>rfl
 have g7:=bK (ps:=["things"]) X G d7 λ_ _ _ _ _ _=>fu λ_=>rfl
 have g8:=bK (ps:=["thing"]) X G d8 λ_ _ _ _ _ _=>fu λ_=>rfl
 have g9:=bK (ps:=["thing","many"]) X G d9 λ_ _ _ _ _ _=>iD λ_ _=>rfl
 have SA:=bK (ps:=["thing"]) X G Al λ_ _ _ _ _ _=>fu λ_=>rfl
 have SD:=bK (ps:=["thing"]) X G Am λ_ _ _ _ _ _=>fu λ_=>rfl
 have SE:=bK (ps:=["marks","others"]) X G An λ_ _ _ _ _ _=>iD λ_ _=>rfl
 have SF:=bK (ps:=["thing"]) X G Ao λ_ _ _ _ _ _=>fu λ_=>rfl
 have SG:=bK (ps:=["thing"]) X G Ap λ_ _ _ _ _ _=>fu λ_=>rfl
 have SH:=bK (ps:=["thing"]) X G Aq λ_ _ _ _ _ _=>fu λ_=>rfl
 have SI:=bK (ps:=["thing"]) X G Ar λ_ _ _ _ _ _=>fu λ_=>rfl
 have SJ:=bK (ps:=["thing"]) X G As λ_ _ _ _ _ _=>fu λ_=>rfl
 have SK:=bK (ps:=["pages","mould","mark","half"]) X G Au λ_ _ _ _ _ _=>FE λ_ _ _ _=>rfl
 have SM:=bK (ps:=["pages","mould","mark"]) X G Av λ_ _ _ _ _ _=>ko λ_ _ _=>rfl
 have SN:=bK (ps:=["days","day","later"]) X G Aw λ_ _ _ _ _ _=>ko λ_ _ _=>rfl
 have SO:=bK (ps:=["pages","mould","mark"]) X G Ax λ_ _ _ _ _ _=>ko λ_ _ _=>rfl
 have SQ:=bK (ps:=["pages"]) X G Ay λ_ _ _ _ _ _=>fu λ_=>rfl
 have SR:=bK (ps:=["thing"]) X G Az λ_ _ _ _ _ _=>fu λ_=>rfl
 have SS:=bK (ps:=["thing"]) X G AA λ_ _ _ _ _ _=>fu λ_=>rfl
 have SU:=bK (ps:=["thing"]) X G AB λ_ _ _ _ _ _=>fu λ_=>rfl
 have SV:=bK (ps:=["book","mould","mark"]) X G AD λ_ _ _ _ _ _=>ko λ_ _ _=>rfl
 have SW:=bK (ps:=["book","mould","mark"]) X G AE λ_ _ _ _ _ _=>ko λ_ _ _=>rfl
 have SX:=bK (ps:=["days_by_mark","day"]) X G AF λ_ _ _ _ _ _=>iD λ_ _=>rfl
 have SY:=bK (ps:=["book","mould"]) X G AG λ_ _ _ _ _ _=>iD λ_ _=>rfl
 have S0:=bK (ps:=["book","mould"]) X G AH λ_ _ _ _ _ _=>iD λ_ _=>rfl
 have S6:=bK (ps:=["book","mould"]) X G cO λ_ _ _ _ _ _=>iD λ_ _=>rfl
 have S7:=bK (ps:=["laid"]) X G AI λ_ _ _ _ _ _=>fu λ_=>rfl
 have S8:=bK (ps:=["book","mould","mark","days"]) X G AJ λ_ _ _ _ _ _=>FE λ_ _ _ _=>rfl
 have S9:=bK (ps:=["life","mark"]) X G AK λ_ _ _ _ _ _=>iD λ_ _=>rfl
 have Ta:=bK (ps:=["book","mould","thing"]) X G AL λ_ _ _ _ _ _=>ko λ_ _ _=>rfl
 have Tb:=bK (ps:=["_law_later","_law_one","_law_free"]) X G AM λ_ _ _ _ _ _=>ko λ_ _ _=>rfl
 have Tc:=bK (ps:=["_law_ahead","_law_one","_law_free"]) X G AN λ_ _ _ _ _ _=>ko λ_ _ _=>rfl
 have Td:=bK (ps:=["_law_laid","_law_mould","_law_mark"]) X G AO λ_ _ _ _ _ _=>ko λ_ _ _=>rfl
 have j8:∃t,mg "MARKS"=some (.int (8) t):=by obtain⟨t,e⟩:=xn;exact⟨t,PySem.W.mg_of X G e⟩
 have sM:∃t,mg "MOULDS"=some (.int (4) t):=by obtain⟨t,e⟩:=wQ;exact⟨t,PySem.W.mg_of X G e⟩
 have ju:∃t,mg "DAYS"=some (.int (31) t):=by obtain⟨t,e⟩:=xN;exact⟨t,PySem.W.mg_of X G e⟩
 have wG:∃t,mg "PAGES"=some (.int (24) t):=by obtain⟨t,e⟩:=xo;exact⟨t,PySem.W.mg_of X G e⟩
 have qi:∃t,mg "HAS"=some (.int (0) t):=by obtain⟨t,e⟩:=yi;exact⟨t,PySem.W.mg_of X G e⟩
 have pS:∃t,mg "LACKS"=some (.int (1) t):=by obtain⟨t,e⟩:=xp;exact⟨t,PySem.W.mg_of X G e⟩
 have Py:=PySem.W.mg_none_of X G yj
 have Pz:=PySem.W.mg_none_of X G yk
 have Ou:=PySem.W.mg_none_of X G xO
 have PB:=PySem.W.mg_none_of X G yl
 have HV:=PySem.W.mg_none_of X G vH
 have PC:=PySem.W.mg_none_of X G ym
 have Ov:=PySem.W.mg_none_of X G xP
 have PD:=PySem.W.mg_none_of X G yn
 have PH:=PySem.W.mg_none_of X G yo
 have MZ:=PySem.W.mg_none_of X G xq
 have Jg:=PySem.W.mg_none_of X G vW
 have PJ:=PySem.W.mg_none_of X G yp
 have Lz:=PySem.W.mg_none_of X G wR
 have M0:=PySem.W.mg_none_of X G xr
 have PK:=PySem.W.mg_none_of X G yq
 obtain⟨f,oc,od,sl,kV,dc,pm,an,cd,ct,a,l,c,k⟩:=dl
 have e:=Sz.symm.trans (PySem.W.mg_of X G a)
 cases e
 have F:=Ej (st:=(top 54)) l c k
 have GL:Gd K mg "law" (top 54) ["_law_script"] _ _:=⟨PySem.W.mg_of X G a,F,F.binds λ_ _ _ _ _ _=>fu λ_=>rfl⟩
 exact⟨_,λs v=>.of_eq rfl,λbase _ _=>NV (Oe ⟨Py,Pz,Ou,PB,HV,PC,Ov,PD,PH,MZ,Jg,PJ,Lz,M0,PK,j8,sM,ju,wG,qi,pS,g0,g1,g2,g3,g4,g5,g6,g7,g8,g9,SA,SD,SE,SF,SG,SH,SI,SJ,SK,SM,SN,SO,SQ,SR,SS,SU,SV,SW,SX,SY,S0,S6,S7,S8,S9,Ta,Tb,Tc,Td⟩ GL) (Ly w)⟩
theorem walk {l:PySem.W.OpenLaw} {q:Program} {loose:List Str} {XP:(Str->Option Value)->Heap->Prop} {YP:World->Heap->Prop} {d:DefRec} {K:Params->Frag} (hn:l.most=some 63) (rq:d.params.defaults=[])
  (hY:∀(w:World) (h:Heap),YP w h->(K w.params).In h)
  (F:∀(w:World) (mg:Str->Option Value) (fa:Addr) (h:Heap),(K w.params).In h->h.Ns mainGlobals mg->mg d.name=some (.ref fa) ->
   ∃fd:FuncData,(∀(s:Shared) (u:Value),BindsTo s fd ⟨[u],[]⟩ [("_law_script",u)])/\∀base:Heap,(K w.params).In base->base.Ns mainGlobals mg->aS l.prog w (K w.params) mg base aY 11 fa fd ["_law_script"] (uj (K w.params))) :
  PySem.W.WalkO q loose XP YP l.row.toRowW d [] (λf vs=>PySem.call f vs) :=
 L2.LX (n:=63) (k:=11) (x:="_law_script") (CX:=λ_=>aY) (sp:=λw=>uj (K w.params)) hn (by decide) rq ⟨rfl,by decide,by decide,rfl⟩ hY F (λ_ _ a ns hl _ hS=>⟨a,ns,rfl,hS,hl,λ_=>rfl⟩) λ_ _ _ _ _ z=>z
end DI.iQ
open PySem PySem.W PyProof.Rows
theorem PySem.W.Fast.te6520522160368611441 : True := trivial
theorem PySem.W.Fast.te16633137558936052410:True:=trivial
set_option maxRecDepth 100000 in
set_option maxHeartbeats 0 in
theorem PySem.Challenge.cw_twinmoulds_k03_whole_lives_where_no_faul_holds : PySem.Challenge.rw_twinmoulds_k03_whole_lives_where_no_faul.Holds := by
 w_on;o_law;k_head;(case hw=>w_witness2)
 k_fill
 refine DI.iQ.walk (l:=PySem.Challenge.rw_twinmoulds_k03_whole_lives_where_no_faul) rfl rfl (λw h Y=>PySem.W.kIn_of Y) ?F
 case F =>
  intro w mg fa h KX G rz
  refine' DI.iQ.all_mk KX G rz ?d0 ?d1 ?d2 ?d3 ?d4 ?d5 ?d6 ?d7 ?d8 ?d9 ?Al ?Am ?An ?Ao ?Ap ?Aq ?Ar ?As ?Au ?Av ?Aw ?Ax ?Ay ?Az ?AA ?AB ?AD ?AE ?AF ?AG ?AH ?cO ?AI ?AJ ?AK ?AL ?AM ?AN ?AO ?dl ?xn ?wQ ?xN ?xo ?yi ?xp ?yj ?yk ?xO ?yl ?vH ?ym ?xP ?yn ?yo ?xq ?vW ?yp ?wR ?xr ?yq
  (case d0|d1|d2|d3|d4|d5|d6|d7|d8|d9|Al|Am|An|Ao|Ap|Aq|Ar|As|Au|Av|Aw|Ax|Ay|Az|AA|AB|AD|AE|AF|AG|AH|cO|AI|AJ|AK|AL|AM|AN|AO|dl=>refine' DI.iQ.Px ?a ?l ?c ?k;(case a=>k_is);(case l=>k_is);(case c=>k_is);(case k=>k_is))
  (case xn=>refine' DI.iQ.oH ?e;(case e=>k_is))
  (case wQ=>refine' DI.iQ.oH ?e;(case e=>k_is))
  (case xN=>refine' DI.iQ.oH ?e;(case e=>k_is))
  (case xo=>refine' DI.iQ.oH ?e;(case e=>k_is))
  (case yi=>refine' DI.iQ.oH ?e;(case e=>k_is))
  (case xp=>refine' DI.iQ.oH ?e;(case e=>k_is))
  (case yj|yk|xO|yl|vH|ym|xP|yn|yo|xq|vW|yp|wR|xr|yq=>k_is)
