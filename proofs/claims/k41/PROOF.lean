import PyProof.Rows.All
import Wide.All
import OpenK.AllK
import Wide.FinOn
import Lean
import PyProof.EqAt
import PyProof.EqKinds
import PyProof.TupleCall
import PyProof.NeData
import PyProof.P3In
import PyProof.FactsAll.set
import PyProof.CollectWalk
import PyProof.FactsAll.range
import PyProof.MinMaxWalk
import KE.KMinKey
import PyProof.WalkInts
import PyProof.Rows.CallKwBuiltin
import KE.KSortTup
import PyProof.Rows.Range3
import PyProof.ListRange
import PyProof.DictCompW
import PyProof.DictWalks
import PyProof.Rows.CompDC
import PyProof.SumAny
import PyProof.TupleOfGen
import PyProof.CollectIter
import PySem.Challenge.RW_twinmoulds_k41_rows_and_strangers_looked
set_option bootstrap.genMatcherCode false
set_option genInjectivity false
set_option genSizeOfSpec false
set_option Elab.async false
set_option linter.all false
set_option maxRecDepth 100000
set_option maxHeartbeats 4000000
local macro_rules | `(tactic| omega) => `(tactic| lia)
open PySem.W (Frag)
namespace L2
open PySem PySem.Spec PyProof.Rows
noncomputable abbrev Key:=Sum Int Str
noncomputable def mU:Key->Value->Bool
 | .inl k,v=>Value.isInt k v
 | .inr x,v=>Value.isStrOf x v
noncomputable def Q4 (w:World):Key->Int
 | .inl k=>hashInt k
 | .inr x=>hashStr w x
theorem iT:∀{k:Key} {v:Value},mU k v=true->(∃i t,k=Sum.inl i/\v=Value.int i t)\/(∃x t,k=Sum.inr x/\v=Value.str x t)
 | .inl i,v,h=>by
  obtain⟨t,e⟩:=Value.isInt_shape (k:=i) (v:=v) h
  exact .inl ⟨i,t,rfl,e⟩
 | .inr x,v,h=>by
  obtain⟨t,e⟩:=Value.isStrOf_shape (x:=x) (v:=v) h
  exact .inr ⟨x,t,rfl,e⟩
theorem JF (i:Int) (t:Tok):mU (.inl i) (.int i t)=true:=by simp[mU,Value.isInt]
theorem JG (x:Str) (t:Tok):mU (.inr x) (.str x t)=true:=by simp[mU,Value.isStrOf]
theorem NP (a b:Int):decide ((Sum.inl a:Key)=Sum.inl b)=(a==b):=by
 by_cases e:a=b
 ·subst e;simp
 ·have h:¬ (Sum.inl a:Key)=Sum.inl b:=λq=>e (Sum.inl.inj q)
  rw[decide_eq_false h]
  exact(beq_eq_false_iff_ne.mpr e).symm
theorem NQ (a b:Str):decide ((Sum.inr a:Key)=Sum.inr b)=decide (a=b):=by
 by_cases e:a=b
 ·subst e;simp
 ·have h:¬ (Sum.inr a:Key)=Sum.inr b:=λq=>e (Sum.inr.inj q)
  rw[decide_eq_false h,decide_eq_false e]
theorem NR (a:Int) (b:Str):decide ((Sum.inl a:Key)=Sum.inr b)=false:=decide_eq_false (λq=>nomatch q)
theorem NS (a:Str) (b:Int):decide ((Sum.inr a:Key)=Sum.inl b)=false:=decide_eq_false (λq=>nomatch q)
noncomputable def cK (prog:Program) (w:World):PySem.KeyKind prog w Key where
 is:=mU
 hash:=Q4 w
 inj:=λv a b ha hb=>by
  rcases iT ha with ⟨i,t,rfl,rfl⟩ | ⟨x,t,rfl,rfl⟩
  ·rcases iT hb with ⟨j,u,rfl,e⟩ | ⟨y,u,rfl,e⟩
   ·injection e with e1 _;rw[e1]
   ·exact nomatch e
  ·rcases iT hb with ⟨j,u,rfl,e⟩ | ⟨y,u,rfl,e⟩
   ·exact nomatch e
   ·injection e with e1 _;rw[e1]
 byValue:=λk v h=>by
  rcases iT h with ⟨i,t,rfl,rfl⟩ | ⟨x,t,rfl,rfl⟩<;>rfl
 pyHash:=λhv h=>by
  rcases iT hv with ⟨i,t,rfl,rfl⟩ | ⟨x,t,rfl,rfl⟩
  ·exact wpAny_pyHash_int h
  ·exact wpAny_pyHash_str h
 eqBool:=λhu hv h=>by
  rcases iT hu with ⟨i,t,rfl,rfl⟩ | ⟨x,t,rfl,rfl⟩
  ·rcases iT hv with ⟨j,u,rfl,rfl⟩ | ⟨y,u,rfl,rfl⟩
   ·rw[NP] at h;exact wpAny_eqBool_int h
   ·rw[NR] at h;exact SeqAt.EqAt.int_str i t y u _ _ _ _ h
  ·rcases iT hv with ⟨j,u,rfl,rfl⟩ | ⟨y,u,rfl,rfl⟩
   ·rw[NS] at h;exact SeqAt.EqAt.str_int x t j u _ _ _ _ h
   ·rw[NQ] at h;exact wpAny_eqBool_str h
 «strs»:=λk x t v h=>by
  rcases iT h with ⟨i,u,rfl,e⟩ | ⟨y,u,rfl,e⟩
  ·exact nomatch e
  ·injection e with e1 _
   subst e1
   cases v<;>rfl
theorem Cf (prog:Program) (w:World) (i:Int) (t:Tok):(cK prog w).is (.inl i) (.int i t)=true:=JF i t
theorem Io (prog:Program) (w:World) (x:Str) (t:Tok):(cK prog w).is (.inr x) (.str x t)=true:=JG x t
end L2
namespace L2
open PySem PySem.Spec PyProof.Rows
set_option genInjectivity true in
inductive V where
 |ay|bl (b:Bool)|int (i:Int)|str (x:Str)|hW (b:Array UInt8)|rS (b:UInt64)|ref (a:Addr)|ty (n:String)
 deriving DecidableEq
noncomputable def RelV:V->Value->Prop
 | .ay,u=>u=Value.none
 | .bl b,u=>u=Value.bool b
 | .int i,u=>∃t,u=Value.int i t
 | .str x,u=>∃t,u=Value.str x t
 | .hW b,u=>∃t,u=Value.bytes b t
 | .rS b,u=>∃t,u=Value.float b t
 | .ref a,u=>u=Value.ref a
 | .ty n,u=>u=Value.type n
noncomputable abbrev Vals:List V->List Value->Prop:=Paired RelV
theorem Vals.length {xs:List V} {us:List Value} (r:Vals xs us):xs.length=us.length:=Paired.length r
theorem Vals.get:∀{xs:List V} {us:List Value} {i:Nat} {x:V},Vals xs us->xs[i]?=some x->∃u,us[i]?=some u/\RelV x u
 |_,_,_,_,.nil,e=>by simp at e
 |_,_,0,_,.cons r _,e=>by simp at e;subst e;exact⟨_,rfl,r⟩
 |_,_,i+1,x,.cons _ t,e=>by
  obtain⟨u,h1,h2⟩:=Vals.get (i:=i) (x:=x) t (by simpa using e)
  exact⟨u,by simpa using h1,h2⟩
theorem Vals.set {x:V} {u:Value} (r:RelV x u):∀{xs:List V} {us:List Value} (i:Nat),Vals xs us->Vals (xs.set i x) (us.set i u)
 |_,_,_,.nil=>.nil
 |_,_,0,.cons _ t=>.cons r t
 |_,_,i+1,.cons q t=>.cons q (Vals.set r i t)
theorem Vals.append:∀{xs ys:List V} {us ws:List Value},Vals xs us->Vals ys ws->Vals (xs++ys) (us++ws)
 |_,_,_,_,.nil,s=>s
 |_,_,_,_,.cons r t,s=>.cons r (Vals.append t s)
theorem Vals.take:∀{xs:List V} {us:List Value} (n:Nat),Vals xs us->Vals (xs.take n) (us.take n)
 |_,_,0,_=>.nil
 |_,_,_ + 1,.nil=>.nil
 |_,_,n+1,.cons r t=>.cons r (Vals.take n t)
theorem Vals.drop:∀{xs:List V} {us:List Value} (n:Nat),Vals xs us->Vals (xs.drop n) (us.drop n)
 |_,_,0,r=>r
 |_,_,_ + 1,.nil=>.nil
 |_,_,n+1,.cons _ t=>Vals.drop n t
noncomputable def jQ:Option V->Option Value->Prop
 |some v,some u=>RelV v u
 |none,none=>True
 |_,_=>False
noncomputable def KV {κ:Type}:List (κ×V)->List (κ×Value)->Prop:=Paired λ(p:κ×V) (q:κ×Value)=>p.1=q.1/\RelV p.2 q.2
noncomputable def kV:Key->V
 | .inl i=>.int i
 | .inr x=>.str x
inductive HO where
 |lst (xs:List V)
 |tup (xs:List V)
 |dK (ai:List (Key×V))|dT (ai:List (List Key×V))
 |set (S:Int->Bool) (n:Nat)
 |ins (C dx:Addr) (fs:List (Str×V))
 |own (x:Addr)
 |xd (fs:List (Str×V))
 |met (f x:Addr)
 |bF (lo hi:Int)
 |cW (o:Obj) (u:HO)
 |nv (ps:Array Value)
 |ext (φ:Heap->Prop)
noncomputable abbrev Hp:=Addr->Option HO
noncomputable def upd (H:Hp) (a:Addr) (o:HO):Hp:=λb=>if b=a then some o else H b
theorem ck {H:Hp} {a:Addr} {o:HO}:upd H a o a=some o:=by unfold upd;rw[if_pos rfl]
theorem bc {H:Hp} {a b:Addr} {o:HO} (h:b≠a):upd H a o b=H b:=by unfold upd;rw[if_neg h]
theorem Py {H:Hp} {a b:Addr} {o u:HO} (h:H a=some o) (h':H b=some u) (d:o≠u):a≠b:=by
 intro e;subst e;rw[h] at h';exact d (Option.some.inj h')
theorem dg {H:Hp} {a b:Addr} {o:HO} (h:H a=some o) (h':H b=none):a≠b:=by
 intro e;subst e;rw[h] at h';cases h'
section
variable (P:Program) (w:World)
noncomputable def cb (H:Hp) (h:Heap) (a:Addr):HO->Prop
 | .lst xs=>xs.length<=sizeLine/\∃(its:List Value) (n:Nat),Vals xs its/\h.get? a=some { cls:=.type "list",data:=.seq its.toArray n }
 | .tup xs=>xs.length<=sizeLine/\∃its:List Value,Vals xs its/\IsTup h a its.toArray
 | .dK ai=>ai.length<=sizeLine/\(a==sysModules)=false/\∃vs,KV ai vs/\h.DictOf (cK P w) a vs
 | .dT ai=>ai.length<=sizeLine/\(a==sysModules)=false/\∃xs:List (List Key×Addr×Value),
   Paired (λ(p:List Key×V) (q:List Key×Addr×Value)=>p.1=q.1/\H q.2.1=some (.tup (p.1.map kV))/\RelV p.2 q.2.2) ai xs /\
   ∃o es ep,h.get? a=some o/\o.ExactDict/\o.data=.dict es ep/\es.toList=xs.map (entryOfKey (tupleKind (cK P w)))/\(xs.map (·.1)).Nodup
 | .set S n=>h.SetOf (intKind P w) a S n
 | .ins C dx fs=>H dx=some (.own a)/\fs.length<=1000/\dx≠a/\h.get? a=some (PySem.W.instObj C dx) /\
   ∃mA,h.Ns1 dx mA/\(∀f,jQ (fs.lookup f) (mA f))/\PySem.Within mA (fs.map (·.1))
 | .own _=>∃o,h.get? a=some o
 | .xd fs=>∃mA,h.Ns1 a mA/\∀f,jQ (fs.lookup f) (mA f)
 | .bF lo hi=>∃t u v,h.get? a=some { cls:=.type "range",data:=.fields #[.int lo t,.int hi u,.int 1 v] }
 | .cW o u=>h.get? a=some o/\cb H h a u
 | .nv ps=>h.get? a=some { cls:=.none,data:=.fields ps }
 | .met f x=>h.get? a=some (PySem.W.methodObj (.ref f) (.ref x))
 | .ext φ=>φ h/\(∃o,h.get? a=some o)/\∀h1 h2:Heap,φ h1->(∀o,h1.get? a=some o->h2.get? a=some o)->φ h2
def bK (H:Hp) (h:Heap):Prop:=∀a o,H a=some o->cb P w H h a o
end
section
variable {P:Program} {w:World} {H H':Hp} {h h':Heap} {a:Addr} {o:HO}
theorem cb.lt (x:cb P w H h a o):a<h.objs.size:=by
 cases o with
 |lst xs=>obtain⟨_,_,_,_,e⟩:=x;exact Heap.lt_size e
 |tup xs=>obtain⟨_,_,_,p⟩:=x;exact p.lt
 |dK ai=>obtain⟨_,_,_,_,o,_,_,e,_⟩:=x;exact Heap.lt_size e
 |dT ai=>obtain⟨_,_,_,_,o,_,_,e,_⟩:=x;exact Heap.lt_size e
 |set S n=>obtain⟨o,_,_,_,e,_⟩:=x;exact Heap.lt_size e
 |ins C dx fs=>obtain⟨_,_,_,e,_⟩:=x;exact Heap.lt_size e
 |own y=>obtain⟨_,e⟩:=x;exact Heap.lt_size e
 |xd fs=>obtain⟨_,⟨_,_,_,e,_⟩,_⟩:=x;exact Heap.lt_size e
 |bF lo hi=>obtain⟨_,_,_,e⟩:=x;exact Heap.lt_size e
 |cW ob u=>obtain⟨e,_⟩:=x;exact Heap.lt_size e
 |nv ps=>exact Heap.lt_size (show h.get? a=some _ from x)
 |met f y=>exact Heap.lt_size (show h.get? a=some _ from x)
 |ext φ=>obtain⟨_,⟨_,e⟩,_⟩:=x;exact Heap.lt_size e
theorem Paired.zo {α β:Type} {F G:α->β->Prop}:∀{l₁:List α} {FT:List β},Paired F l₁ FT->(∀a b,F a b->G a b)->Paired G l₁ FT
 |_,_,.nil,_=>.nil
 |_,_,.cons r t,f=>.cons (f _ _ r) (Paired.zo t f)
theorem cb.gv (x:cb P w H h a o) (k:∀b u,(b=a\/H b=some (.own a))->h.get? b=some u->h'.get? b=some u)
  (ho:∀b,H b=some (.own a)->H' b=some (.own a)) (ht:∀b xs,H b=some (.tup xs)->H' b=some (.tup xs)):cb P w H' h' a o:=by
 induction o with
 |lst xs=>obtain⟨z,its,n,r,e⟩:=x;exact⟨z,its,n,r,k _ _ (.inl rfl) e⟩
 |tup xs=>obtain⟨z,its,r,ob,e,c⟩:=x;exact⟨z,its,r,ob,k _ _ (.inl rfl) e,c⟩
 |dK ai=>obtain⟨z,y,vs,r,ob,es,ep,e,c⟩:=x;exact⟨z,y,vs,r,ob,es,ep,k _ _ (.inl rfl) e,c⟩
 |dT ai =>
  obtain⟨z,y,xs,r,ob,es,ep,e,c⟩:=x
  exact⟨z,y,xs,Paired.zo r λp q z=>⟨z.1,ht _ _ z.2.1,z.2.2⟩,ob,es,ep,k _ _ (.inl rfl) e,c⟩
 |set S n=>obtain⟨ob,es,ep,t,e,c⟩:=x;exact⟨ob,es,ep,t,k _ _ (.inl rfl) e,c⟩
 |ins C dx fs =>
  obtain⟨d,z,ne,e,mA,⟨od,es,ep,e2,c⟩,r⟩:=x
  exact⟨ho _ d,z,ne,k _ _ (.inl rfl) e,mA,⟨od,es,ep,k _ _ (.inr d) e2,c⟩,r⟩
 |own y=>obtain⟨ob,e⟩:=x;exact⟨ob,k _ _ (.inl rfl) e⟩
 |xd fs=>obtain⟨mA,⟨od,es,ep,e,c⟩,r⟩:=x;exact⟨mA,⟨od,es,ep,k _ _ (.inl rfl) e,c⟩,r⟩
 |bF lo hi=>obtain⟨t,u,v,e⟩:=x;exact⟨t,u,v,k _ _ (.inl rfl) e⟩
 |cW ob u ih=>obtain⟨e,q⟩:=x;exact⟨k _ _ (.inl rfl) e,ih q⟩
 |nv ps =>
  have e:h.get? a=some { cls:=.none,data:=.fields ps }:=x
  show h'.get? a=some { cls:=.none,data:=.fields ps }
  exact k a _ (.inl rfl) e
 |met f y =>
  have e:h.get? a=some (PySem.W.methodObj (.ref f) (.ref y)):=x
  show h'.get? a=some (PySem.W.methodObj (.ref f) (.ref y))
  exact k a _ (.inl rfl) e
 |ext φ=>obtain⟨p,⟨o,e⟩,st⟩:=x;exact⟨st _ _ p λo q=>k _ _ (.inl rfl) q,⟨o,k _ _ (.inl rfl) e⟩,st⟩
theorem bK.lt (x:bK P w H h) (e:H a=some o):a<h.objs.size:=(x a o e).lt
theorem bK.fresh (x:bK P w H h) (e:h.objs.size<=a):H a=none:=by
 cases q:H a with
 |none=>rfl
 |some u=>exact absurd (Nat.lt_of_lt_of_le (x.lt q) e) (Nat.lt_irrefl _)
theorem bK.kept (x:bK P w H h) (k:∀b u,h.get? b=some u->h'.get? b=some u):bK P w H h':=λa o e =>
 (x a o e).gv (λb u _ q=>k b u q) (λ_ q=>q) λ_ _ q=>q
theorem bK.laid (x:bK P w H h) (k:∀b u,h.get? b=some u->h'.get? b=some u) (hp:h.objs.size<=a) (new:cb P w (upd H a o) h' a o):bK P w (upd H a o) h':=λb u e=>by
 have hn:=x.fresh hp
 by_cases hb:b=a
 ·subst hb;rw[ck] at e;cases e;exact new
 ·rw[bc hb] at e
  exact(x b u e).gv (λc v _ q=>k c v q) (λc q=>by rw[bc (dg q hn)];exact q) λc xs q=>by rw[bc (dg q hn)];exact q
end
def Rd (H:Hp) (a:Addr) (u:HO):Prop:=H a=some u\/∃o,H a=some (.cW o u)
theorem Rd.ok {P:Program} {w:World} {H:Hp} {h:Heap} {a:Addr} {u:HO} (r:Rd H a u) (x:bK P w H h):cb P w H h a u:=by
 rcases r with r | ⟨o,r⟩
 ·exact x a u r
 ·obtain⟨_,q⟩:=x a _ r
  exact q
noncomputable def rT:Option HO->Prop
 |some (.lst _)=>True
 |some (.dK _)=>True
 |some (.dT _)=>True
 |some (.set _ _)=>True
 |some (.ins _ _ _)=>True
 |some (.ext _)=>True
 |_=>False
section
variable {P:Program} {w:World} {H:Hp} {h h':Heap} {x e:Addr} {o':HO}
theorem bK.write (ok:bK P w H h) (mu:rT (H x)) (he:e=x\/H e=some (.own x)) (k:∀b u,b≠e->h.get? b=some u->h'.get? b=some u) (pq:∃u,h'.get? e=some u)
  (new:cb P w (upd H x o') h' x o'):bK P w (upd H x o') h':=λb u q=>by
 have FU:∀c y,H c=some (.own y)->c≠x:=λc y r z=>by subst z;rw[r] at mu;exact mu
 have Q5:∀c xs,H c=some (.tup xs)->c≠x:=λc xs r z=>by subst z;rw[r] at mu;exact mu
 by_cases hb:b=x
 ·subst hb;rw[ck] at q;cases q;exact new
 ·rw[bc hb] at q
  by_cases ny:b=e
  ·have q':H b=some (.own x):=by
    rcases he with z|z
    ·exact absurd (ny.trans z) hb
    ·rw[ny];exact z
   rw[q] at q';cases q'
   obtain⟨v,hv⟩:=pq
   exact⟨v,by rw[ny];exact hv⟩
  ·refine(ok b u q).gv (λc v hc r=>k c v ?_ r) (λc r=>by rw[bc (FU c b r)];exact r) λc xs r=>by rw[bc (Q5 c xs r)];exact r
   rcases hc with rfl|hc
   ·exact ny
   ·rintro rfl
    rcases he with z|z
    ·exact FU c b hc z
    ·rw[hc] at z;cases z;exact hb rfl
end
structure Un (fs ex:List Addr) (H H':Hp) (h h':Heap):Prop where
 keep:∀b o,h.get? b=some o->H b=none->b∉fs->b∉ex->h'.get? b=some o
 slot:∀b o,h.get? b=some o->H b=none->b∈fs->b∉ex->∃sl,h'.get? b=some { o with slots:=sl }
 free:∀b o,h.get? b=some o->H b=none->b∉ex->H' b=none
 there:∀b o,h.get? b=some o->b∉ex->∃o',h'.get? b=some o'
 iC:∀b xs,H b=some (.tup xs)->H' b=some (.tup xs)
 gU:∀b o u,H b=some (.cW o u)->H' b=some (.cW o u)
 jf:∀b ps,H b=some (.nv ps)->∃more,H' b=some (.nv (ps++more))
section
variable {fs Sn ex Vk:List Addr} {H H1 H2:Hp} {h h1 h2 h':Heap} {a x e:Addr} {o:HO}
theorem Un.any (u:Un fs ex H H1 h h1) {b:Addr} {ob:Obj} (q:h.get? b=some ob) (n:H b=none) (hx:b∉ex):∃sl,h1.get? b=some { ob with slots:=sl }:=by
 by_cases hb:b∈fs
 ·exact u.slot b ob q n hb hx
 ·exact⟨ob.slots,u.keep b ob q n hb hx⟩
theorem Un.kept (k:∀b u,h.get? b=some u->h'.get? b=some u):Un fs ex H H h h' :=
 ⟨λb ob q _ _ _=>k b ob q,λb ob q _ _ _=>⟨ob.slots,k b ob q⟩,λ_ _ _ n _=>n,λb ob q _=>⟨ob,k b ob q⟩,λ_ _ q=>q,λ_ _ _ q=>q,λ_ ps q=>⟨#[],by rw[q];simp⟩⟩
theorem Un.refl:Un fs ex H H h h:=Un.kept λ_ _ q=>q
theorem Un.laid (k:∀b u,h.get? b=some u->h'.get? b=some u) (hp:h.objs.size<=a) (hn:H a=none):Un fs ex H (upd H a o) h h' where
 keep:=λb u q _ _ _=>k b u q
 slot:=λb u q _ _ _=>⟨u.slots,k b u q⟩
 free:=λb u q n _=>by rw[bc (Nat.ne_of_lt (Nat.lt_of_lt_of_le (Heap.lt_size q) hp))];exact n
 there:=λb u q _=>⟨u,k b u q⟩
 iC:=λb xs q=>by rw[bc (dg q hn)];exact q
 gU:=λb u xs q=>by rw[bc (dg q hn)];exact q
 jf:=λb ps q=>⟨#[],by rw[bc (dg q hn),q];simp⟩
theorem Un.write (mu:rT (H x)) (he:e=x\/H e=some (.own x)) (k:∀b u,b≠e->h.get? b=some u->h'.get? b=some u) (pq:∃u,h'.get? e=some u):Un fs ex H (upd H x o) h h':=by
 have hx:∀b,H b=none->b≠x:=λb n z=>by subst z;rw[n] at mu;exact mu
 have hb:∀b,H b=none->b≠e:=λb n z=>by
  subst z
  rcases he with r|r
  ·exact hx b n r
  ·rw[n] at r;cases r
 have hm:∀b u,H b=some u->¬ rT (some u)->b≠x:=λb u q nm z=>by subst z;rw[q] at mu;exact nm mu
 refine⟨λb u q n _ _=>k b u (hb b n) q,λb u q n _ _=>⟨u.slots,k b u (hb b n) q⟩,λb u q n _=>by rw[bc (hx b n)];exact n,λb u q _=>?_,
  λb xs q=>by rw[bc (hm b _ q λz=>z)];exact q,λb u xs q=>by rw[bc (hm b _ q λz=>z)];exact q,λb ps q=>⟨#[],by rw[bc (hm b _ q λz=>z),q];simp⟩⟩
 by_cases ny:b=e
 ·subst ny;exact pq
 ·exact⟨u,k b u ny q⟩
end
noncomputable def v5 (h:Heap) (H:Hp):List Addr:=(List.range h.objs.size).filter λa=>(H a).isSome
noncomputable def kK (h:Heap) (H:Hp):Heap:=PySem.W.hideAll h (v5 h H)
theorem JH (h:Heap) (H:Hp):(kK h H).objs.size=h.objs.size:=PySem.W.hideAll_size _ _
theorem KA {h:Heap} {H:Hp} {b:Addr} {o:Obj} (e:h.get? b=some o) (n:H b=none):(kK h H).get? b=some o :=
 PySem.W.hideAll_get _ e λhm=>by
  have q:(H b).isSome=true:=(List.mem_filter.mp hm).2
  rw[n] at q;simp at q
theorem Ma {h:Heap} {H:Hp} {b:Addr} {o:Obj} (e:(kK h H).get? b=some o):h.get? b=some o/\H b=none:=by
 have e':h.get? b=some o:=PySem.W.of_hideAll (v5 h H) e
 refine⟨e',?_⟩
 cases q:H b with
 |none=>rfl
 |some x =>
  have hm:b∈v5 h H:=List.mem_filter.mpr ⟨List.mem_range.mpr (Heap.lt_size e'),by simp[q]⟩
  have z:(kK h H).get? b=none:=PySem.W.hideAll_none (v5 h H) hm
  rw[z] at e;cases e
noncomputable def Mb (g h:Heap) (L:Addr):List (Addr×Obj):=(List.range h.objs.size).filterMap λa=>if a=L\/(g.get? a).isSome=true then none else (h.get? a).map λo=>(a,o)
noncomputable def rest (g h:Heap) (L d:Addr):List (Addr×Obj):=(Mb g h L).filter λp=>decide (p.1≠d)
end L2
namespace L2
open PySem PySem.Spec PyProof.Rows
structure Mod (K:Frag) (mg:Str->Option Value) (base:Heap):Prop where
 v7:K.In base
 glob:base.Ns mainGlobals mg
 blt:∃mb,base.Ns builtinsNs mb/\∀x:Str,x≠"__name__"->mb x=bootBuiltins x
 nolimit:base.NoLimit
structure Cx where
 prog:Program
 w:World
 K:Frag
 mg:Str->Option Value
 base:Heap
 A:Around
 N:List Str
 cF:Shared
 qZ:Hp
 env:Env
 outer:List Env
 stack:List Env
 ex:List Addr
 fn:Str->Bool
 calm:Bool
 pn:List (Addr×Obj)
 xe:Value->Shared->Prop
noncomputable def fu (l:List Env):List Addr:=l.filterMap (·.frame)
noncomputable abbrev Cx.fs (X:Cx):List Addr:=fu X.outer
def nA (sc:Scope) (x:Str):Prop:=sc.names.lookup x=some .local\/sc.names.lookup x=some .cell\/sc.names.lookup x=some .free
def Loc (sc:Scope) (x:Str):Prop:=sc.names.lookup x=some .local\/sc.names.lookup x=some .cell
def Look (env:Env) (h:Heap) (m:Str->Option Value) (x:Str) (u:Value):Prop :=
 (env.kindOf x=some .local/\m x=some u)\/((env.kindOf x=some .cell\/env.kindOf x=some .free)/\∃c,env.cells.lookup x=some c/\h.IsCell c (some u))
structure Cx.Ok (X:Cx):Prop where
 mod:Mod X.K X.mg X.base
 kind:X.env.scope.kind=.function
 glob:X.env.globals=mainGlobals
 blt:X.env.builtins=builtinsNs
 above:X.cF.heap.objs.size<=X.env.locals
 inj:∀x y c,X.env.cells.lookup x=some c->X.env.cells.lookup y=some c->x=y
 has:∀x,(X.env.kindOf x=some .cell\/X.env.kindOf x=some .free)->∃c,X.env.cells.lookup x=some c
 nB:∀x c,X.fn x=true->X.env.cells.lookup x=some c->X.cF.heap.objs.size<=c
 hd:X.calm=true->X.A.handled=none
 frames:X.A.frames=some X.stack
 pw:X.stack=X.outer\/(X.stack=X.env::X.outer/\X.env.frame=some X.env.locals)
 v8:∀b∈X.ex,b≠X.env.locals/\∀x c,X.env.cells.lookup x=some c->c≠b
 bs:∀b o,X.base.get? b=some o->X.cF.heap.get? b=some o/\X.qZ b=none
 hZ:X.base.objs.size<=X.cF.heap.objs.size
 kL:∀b o,X.base.get? b=some o->b∉X.ex
 oV:∀b∈X.ex,b∉X.fs
 gW:X.cF.heap.FunFrames X.base X.outer
 l6:∀b∈X.fs,X.qZ b=none
structure Inv (X:Cx) (pins:List (Addr×Obj)) (σ:List (Option V)) (H:Hp) (s:Shared):Prop where
 ok:X.Ok
 os:s.os=X.cF.os
 bare:AllBare s.gens
 base:Un X.fs X.ex X.qZ H X.cF.heap s.heap
 loc:∃m,s.heap.Ns X.env.locals m/\∀(i:Nat) (x:Str) (v:V),X.N[i]?=some x->σ[i]?=some (some v)->nA X.env.scope x->∃u,RelV v u/\Look X.env s.heap m x u
 cell:∀x c,X.env.cells.lookup x=some c->∃v,s.heap.IsCell c v
 free:H X.env.locals=none
 gM:∀x c,X.env.cells.lookup x=some c->H c=none
 pin:∀p∈X.pn++pins,s.heap.get? p.1=some p.2/\H p.1=none/\p.1≠X.env.locals/\p.1∉X.fs/\∀v,p.2.data≠.cell v
 au:bK X.prog X.w H s.heap
 len:σ.length=X.N.length
section
variable {X:Cx} {pins:List (Addr×Obj)} {σ:List (Option V)} {H H':Hp} {s:Shared} {h':Heap}
theorem Cx.Ok.Q6 (ok:X.Ok) {b:Addr} {o:Obj} (e:X.base.get? b=some o):b∉X.fs:=λhb=>by
 have:=(ok.gW.mem hb).1
 rw[e] at this;cases this
theorem Inv.bs (I:Inv X pins σ H s):∀b o,X.base.get? b=some o->s.heap.get? b=some o/\H b=none:=λb o e =>
 ⟨I.base.keep b o (I.ok.bs b o e).1 (I.ok.bs b o e).2 (I.ok.Q6 e) (I.ok.kL b o e),I.base.free b o (I.ok.bs b o e).1 (I.ok.bs b o e).2 (I.ok.kL b o e)⟩
theorem Inv.bk (I:Inv X pins σ H s):∀b o,X.base.get? b=some o->s.heap.get? b=some o:=λb o e=>(I.bs b o e).1
theorem Inv.mod (I:Inv X pins σ H s):Mod X.K X.mg X.base:=I.ok.mod
theorem Inv.pA (I:Inv X pins σ H s):X.K.In s.heap:=I.ok.mod.v7.keeps I.bk
theorem Inv.lt (I:Inv X pins σ H s):X.env.locals<s.heap.objs.size:=let ⟨_,hn,_⟩:=I.loc;hn.lt
theorem Inv.sz (I:Inv X pins σ H s):X.cF.heap.objs.size<=s.heap.objs.size:=Nat.le_trans I.ok.above (Nat.le_of_lt I.lt)
theorem Inv.rf (I:Inv X pins σ H s) {a:Addr} (h:s.heap.objs.size<=a):a∉X.fs:=λhb=>by
 obtain⟨_,o,ho,_⟩:=I.ok.gW.mem hb
 exact absurd (Nat.lt_of_lt_of_le (Heap.lt_size ho) (Nat.le_trans I.sz h)) (Nat.lt_irrefl _)
theorem Inv.nC (I:Inv X pins σ H s):∀x c,X.env.cells.lookup x=some c->c≠X.env.locals:=λx c e z=>by
 obtain⟨v,o,ho,hd⟩:=I.cell x c e
 obtain⟨m,⟨o',es,ep,dP,cH,_⟩,_⟩:=I.loc
 rw[z,dP] at ho;cases ho;rw[cH] at hd;cases hd
theorem Inv.gW (I:Inv X pins σ H s):s.heap.FunFrames X.base X.outer:=by
 have all:∀(l:List Env),(∀b∈fu l,b∈X.fs)->X.cF.heap.FunFrames X.base l->s.heap.FunFrames X.base l:=by
  intro l
  induction l with
  |nil=>intro _ _;trivial
  |cons env r ih =>
   intro hs hl
   obtain⟨hk,⟨L,o,hf,hn,ho,hd⟩,hr⟩:=hl
   have hL:L∈X.fs:=hs L (by unfold fu;rw[List.filterMap_cons,hf];exact List.mem_cons_self)
   obtain⟨sl,e⟩:=I.base.slot L o ho (I.ok.l6 L hL) hL λz=>I.ok.oV L z hL
   exact⟨hk,⟨L,_,hf,hn,e,hd⟩,ih (λb hb=>hs b (by unfold fu;rw[List.filterMap_cons,hf];exact List.mem_cons_of_mem _ hb)) hr⟩
 exact all X.outer (λ_ hb=>hb) I.ok.gW
theorem Inv.stack (I:Inv X pins σ H s):s.heap.FunFrames X.base X.stack:=by
 rcases I.ok.pw with e | ⟨e,hf⟩
 ·rw[e];exact I.gW
 ·rw[e]
  obtain⟨m,hn,_⟩:=I.loc
  refine .cons (by rw[I.ok.kind];decide) hf hn ?_ I.gW
  exact Heap.get?_none_of_le (Nat.le_trans I.ok.hZ I.ok.above)
theorem Inv.kB (I:Inv X pins σ H s):∀b∈fu X.stack,b∈X.env.locals::X.fs:=λb hb=>by
 rcases I.ok.pw with e | ⟨e,hf⟩
 ·rw[e] at hb;exact List.mem_cons_of_mem _ hb
 ·rw[e] at hb
  unfold fu at hb
  rw[List.filterMap_cons,hf] at hb
  exact hb
theorem Inv.xP (I:Inv X pins σ H s):∀b∈fu X.stack,H b=none:=λb hb=>by
 rcases List.mem_cons.mp (I.kB b hb) with e|hb
 ·rw[e];exact I.free
 ·obtain⟨_,o,ho,_⟩:=I.ok.gW.mem hb
  exact I.base.free b o ho (I.ok.l6 b hb) λz=>I.ok.oV b z hb
theorem Inv.step {g':Array GenState} {t':Nat} {d':Drawn} {ch:List Addr} (I:Inv X pins σ H s)
  (j3:∀b∈ch,(b∈X.ex\/X.cF.heap.objs.size<=b)/\b≠X.env.locals/\(∀x c,X.env.cells.lookup x=some c->c≠b)/\∀p∈X.pn++pins,p.1≠b)
  (keep:∀b o,b≠X.env.locals->b∉X.fs->b∉ch->s.heap.get? b=some o->H b=none->h'.get? b=some o)
  (slot:∀b o,b≠X.env.locals->b∈X.fs->b∉ch->s.heap.get? b=some o->H b=none->∃sl,h'.get? b=some { o with slots:=sl }) (free:∀b o,b∉ch->s.heap.get? b=some o->H b=none->H' b=none)
  (there:∀b o,b∉ch->s.heap.get? b=some o->∃o',h'.get? b=some o')
  (iC:∀b xs,H b=some (.tup xs)->H' b=some (.tup xs)) (gU:∀b o u,H b=some (.cW o u)->H' b=some (.cW o u)) (jf:∀b ps,H b=some (.nv ps)->∃more,H' b=some (.nv (ps++more)))
  (ns:∀m,s.heap.Ns X.env.locals m->h'.Ns X.env.locals m) (au:bK X.prog X.w H' h') (hg:AllBare g') :
  Inv X pins σ H' { s with heap:=h',gens:=g',drawn:=d',toks:=t' }:=by
 have Gw:∀b o,X.cF.heap.get? b=some o->b≠X.env.locals:=λb o e=>Nat.ne_of_lt (Nat.lt_of_lt_of_le (Heap.lt_size e) I.ok.above)
 have v9:∀b o,X.cF.heap.get? b=some o->b∉X.ex->b∉ch:=λb o e hx hb=>by
  rcases(j3 b hb).1 with z|z
  ·exact hx z
  ·exact absurd (Nat.lt_of_lt_of_le (Heap.lt_size e) z) (Nat.lt_irrefl _)
 have cellK:∀x c,X.env.cells.lookup x=some c->∀v,s.heap.IsCell c v->h'.IsCell c v:=λx c e v ⟨o,ho,hd⟩=>by
  have rV:c∉ch:=λz=>(j3 c z).2.2.1 x c e rfl
  by_cases hc:c∈X.fs
  ·obtain⟨sl,q⟩:=slot c o (I.nC x c e) hc rV ho (I.gM x c e)
   exact⟨_,q,hd⟩
  ·exact⟨o,keep c o (I.nC x c e) hc rV ho (I.gM x c e),hd⟩
 refine⟨I.ok,I.os,hg,⟨λb o e n hb hx=>?_,λb o e n hb hx=>?_,λb o e n hx=>?_,λb o e hx=>?_,λb xs e=>iC b xs (I.base.iC b xs e),λb o xs e=>gU b o xs (I.base.gU b o xs e),λb ps e=>?_⟩,?_,λx c e=>?_,?_,λx c e=>?_,λp hp=>?_,au,I.len⟩
 ·exact keep b o (Gw b o e) hb (v9 b o e hx) (I.base.keep b o e n hb hx) (I.base.free b o e n hx)
 ·obtain⟨sl,e1⟩:=I.base.slot b o e n hb hx
  obtain⟨So,e2⟩:=slot b _ (Gw b o e) hb (v9 b o e hx) e1 (I.base.free b o e n hx)
  exact⟨So,e2⟩
 ·obtain⟨o',e1⟩:=I.base.there b o e hx
  exact free b o' (v9 b o e hx) e1 (I.base.free b o e n hx)
 ·obtain⟨o',e1⟩:=I.base.there b o e hx
  exact there b o' (v9 b o e hx) e1
 ·obtain⟨m1,e1⟩:=I.base.jf b ps e
  obtain⟨m2,e2⟩:=jf b _ e1
  exact⟨m1++m2,by rw[e2,Array.append_assoc]⟩
 ·obtain⟨m,hn,hl⟩:=I.loc
  refine⟨m,ns m hn,λi x v e1 e2 e3=>?_⟩
  obtain⟨u,r,l⟩:=hl i x v e1 e2 e3
  refine⟨u,r,?_⟩
  rcases l with l | ⟨k,c,e,z⟩
  ·exact .inl l
  ·exact .inr ⟨k,c,e,cellK x c e _ z⟩
 ·obtain⟨v,z⟩:=I.cell x c e
  exact⟨v,cellK x c e v z⟩
 ·obtain⟨m,⟨o,_,_,ho,_⟩,_⟩:=I.loc
  exact free _ o (λz=>(j3 _ z).2.1 rfl) ho I.free
 ·obtain⟨v,o,ho,hd⟩:=I.cell x c e
  exact free c o (λz=>(j3 c z).2.2.1 x c e rfl) ho (I.gM x c e)
 ·obtain⟨e,n,ne,nf,d⟩:=I.pin p hp
  have rV:p.1∉ch:=λz=>(j3 p.1 z).2.2.2 p hp rfl
  exact⟨keep p.1 p.2 ne nf rV e n,free p.1 p.2 rV e n,ne,nf,d⟩
theorem Inv.un {t':Nat} (I:Inv X pins σ H s) (u:Un X.fs [] H H' s.heap h') (au:bK X.prog X.w H' h'):Inv X pins σ H' { s with heap:=h',toks:=t' }:=by
 obtain⟨m,⟨o,es,ep,ho,r⟩,_⟩:=id I.loc
 obtain⟨sl,hL⟩:=u.any ho I.free (by simp)
 exact I.step (g':=s.gens) (d':=s.drawn) (ch:=[]) (λ_ z=>nomatch z) (λb o _ hb _ e n=>u.keep b o e n hb (by simp)) (λb o _ hb _ e n=>u.slot b o e n hb (by simp)) (λb o _ e n=>u.free b o e n (by simp)) (λb o _ e=>u.there b o e (by simp)) u.iC u.gU u.jf (λm' hm=>by
  obtain⟨o',fv,Ab,dP,r'⟩:=hm
  rw[ho] at dP;cases dP
  exact⟨_,fv,Ab,hL,r'⟩) au I.bare
theorem Inv.call {g':Array GenState} {t':Nat} {d':Drawn} {ch:List Addr} (I:Inv X pins σ H s) (u:Un (fu X.stack) ch H H' s.heap h') (au:bK X.prog X.w H' h') (hg:AllBare g')
  (j3:∀b∈ch,(b∈X.ex\/X.cF.heap.objs.size<=b)/\b≠X.env.locals/\(∀x c,X.env.cells.lookup x=some c->c≠b)/\∀p∈X.pn++pins,p.1≠b) :
  Inv X pins σ H' { s with heap:=h',gens:=g',drawn:=d',toks:=t' }:=by
 obtain⟨m,⟨o,es,ep,ho,r⟩,_⟩:=id I.loc
 obtain⟨sl,hL⟩:=u.any ho I.free λz=>(j3 _ z).2.1 rfl
 exact I.step (ch:=ch) j3 (λb o hL hb hc e n=>u.keep b o e n (λz=>(List.mem_cons.mp (I.kB b z)).elim hL hb) hc) (λb o _ _ hc e n=>u.any e n hc) (λb o hc e n=>u.free b o e n hc) (λb o hc e=>u.there b o e hc) u.iC u.gU u.jf (λm' hm=>by
  obtain⟨o',fv,Ab,dP,r'⟩:=hm
  rw[ho] at dP;cases dP
  exact⟨_,fv,Ab,hL,r'⟩) au hg
theorem Inv.turned {t':Nat} {it:Addr} (I:Inv X pins σ H s) (k:∀b o,b≠it->s.heap.get? b=some o->h'.get? b=some o) (hn:H it=none) (hL:it≠X.env.locals)
  (h1:it∈X.ex\/X.cF.heap.objs.size<=it) (h2:∀x c,X.env.cells.lookup x=some c->c≠it) (h3:∀p∈X.pn++pins,p.1≠it):Inv X pins σ H { s with heap:=h',toks:=t' }:=by
 have Gx:∀b u,H b=some u->b≠it:=λb u e z=>by rw[z,hn] at e;cases e
 refine I.step (g':=s.gens) (d':=s.drawn) (ch:=[it]) (λb hb=>?_) (λb o _ _ hc e _=>k b o (λz=>hc (by simp[z])) e) (λb o _ _ hc e _=>⟨o.slots,k b o (λz=>hc (by simp[z])) e⟩) (λ_ _ _ _ n=>n)
  (λb o hc e=>⟨o,k b o (λz=>hc (by simp[z])) e⟩) (λ_ _ e=>e) (λ_ _ _ e=>e) (λb ps e=>⟨#[],by rw[e];simp⟩) (λm hm=>?_) (λb u e=>?_) I.bare
 ·have e:b=it:=by simpa using hb
  subst e
  exact⟨h1,hL,h2,h3⟩
 ·obtain⟨o,es,ep,ho,r⟩:=hm
  exact⟨o,es,ep,k _ o (Ne.symm hL) ho,r⟩
 ·refine(I.au b u e).gv (λc v hc q=>k c v ?_ q) (λ_ q=>q) λ_ _ q=>q
  rcases hc with z|z
  ·rw[z];exact Gx b u e
  ·exact Gx c _ z
theorem Inv.tok (I:Inv X pins σ H s) (t:Nat):Inv X pins σ H { s with toks:=t }:=I.un (h':=s.heap) (t':=t) Un.refl I.au
theorem Inv.kept {t':Nat} (I:Inv X pins σ H s) (k:∀b u,s.heap.get? b=some u->h'.get? b=some u):Inv X pins σ H { s with heap:=h',toks:=t' }:=I.un (Un.kept k) (I.au.kept k)
theorem Inv.laid {a:Addr} {o:HO} {t':Nat} (I:Inv X pins σ H s) (k:∀b u,s.heap.get? b=some u->h'.get? b=some u) (hp:s.heap.objs.size<=a) (new:cb X.prog X.w (upd H a o) h' a o) :
  Inv X pins σ (upd H a o) { s with heap:=h',toks:=t' }:=I.un (Un.laid k hp (I.au.fresh hp)) (I.au.laid k hp new)
theorem Inv.write {x e:Addr} {o:HO} {t':Nat} (I:Inv X pins σ H s) (mu:rT (H x)) (he:e=x\/H e=some (.own x)) (k:∀b u,b≠e->s.heap.get? b=some u->h'.get? b=some u) (pq:∃u,h'.get? e=some u)
  (new:cb X.prog X.w (upd H x o) h' x o):Inv X pins σ (upd H x o) { s with heap:=h',toks:=t' }:=I.un (Un.write mu he k pq) (I.au.write mu he k pq new)
theorem Inv.jG {pins':List (Addr×Obj)} (I:Inv X pins σ H s) (h:∀p∈pins',s.heap.get? p.1=some p.2/\H p.1=none/\p.1≠X.env.locals/\p.1∉X.fs/\∀v,p.2.data≠.cell v):Inv X pins' σ H s :=
 ⟨I.ok,I.os,I.bare,I.base,I.loc,I.cell,I.free,I.gM,λp hp=>(List.mem_append.mp hp).elim (λz=>I.pin p (List.mem_append_left _ z)) (h p),I.au,I.len⟩
theorem Dd {N:List Str} (hN:N.Nodup) {i j:Nat} {x:Str} (a:N[i]?=some x) (b:N[j]?=some x):i=j:=by
 obtain⟨h1,e1⟩:=List.getElem?_eq_some_iff.mp a
 obtain⟨h2,e2⟩:=List.getElem?_eq_some_iff.mp b
 exact(List.getElem_inj hN).mp (e1.trans e2.symm)
theorem JI {M:Model} {A:Around} {E:Value->Shared->Prop} {i:Nat} {x:Str} {v:V} {u:Value} {Q:Unit->Shared->Prop} (I:Inv X pins σ H s) (hN:X.N.Nodup) (hi:X.N[i]?=some x) (hx:Loc X.env.scope x) (r:RelV v u)
  (h:∀s',Inv X pins (σ.set i (some v)) H s'->(∃a,Heap.SameBut a s.heap s'.heap/\(a=X.env.locals\/X.env.cells.lookup x=some a))->Q () s') (hf:X.fn x=true\/X.env.scope.names.lookup x=some .local:=by first|exact .inl rfl|exact .inr rfl|assumption):wpAny M A (storeName X.env x u) Q E s:=by
 obtain⟨m,hn,hl⟩:=id I.loc
 have Q7:(X.env.scope.kind==.class||(X.env.scope.kind==.module&&X.env.locals != X.env.globals))=false:=by rw[I.ok.kind];rfl
 have FV:i < σ.length:=by rw[I.len];exact(List.getElem?_eq_some_iff.mp hi).1
 have nC:=I.nC
 have tracked:∀{a:Addr} {h':Heap},(∃o,s.heap.get? a=some o/\H a=none)->Heap.SameBut a s.heap h'->bK X.prog X.w H h':=λ{a h'} ha hs b ob e=>by
  obtain⟨_,_,Fd⟩:=ha
  refine(I.au b ob e).gv (λc w' hc q=>(hs.2 c ?_).trans q) (λ_ q=>q) λ_ _ q=>q
  rintro rfl
  rcases hc with rfl|hc
  ·rw[Fd] at e;cases e
  ·rw[Fd] at hc;cases hc
 rcases hx with hk|hk
 ·refine wpAny_storeName_local hk hn (λh' Ac hs=>?_) Q7
  obtain⟨oL,_,_,rW,_⟩:=id hn
  refine h _ ⟨I.ok,I.os,I.bare,⟨λb o e n hb hx=>?_,λb o e n hb hx=>?_,I.base.free,λb o e hx=>?_,I.base.iC,I.base.gU,I.base.jf⟩,⟨_,Ac,λj y v' e1 e2 e3=>?_⟩,λy c e=>?_,I.free,I.gM,λp hp=>?_,tracked ⟨oL,rW,I.free⟩ hs,by simpa using I.len⟩ ⟨_,hs,.inl rfl⟩
  ·exact(hs.2 b (Nat.ne_of_lt (Nat.lt_of_lt_of_le (Heap.lt_size e) I.ok.above))).trans (I.base.keep b o e n hb hx)
  ·obtain⟨sl,e1⟩:=I.base.slot b o e n hb hx
   exact⟨sl,(hs.2 b (Nat.ne_of_lt (Nat.lt_of_lt_of_le (Heap.lt_size e) I.ok.above))).trans e1⟩
  ·obtain⟨o',e1⟩:=I.base.there b o e hx
   exact⟨o',(hs.2 b (Nat.ne_of_lt (Nat.lt_of_lt_of_le (Heap.lt_size e) I.ok.above))).trans e1⟩
  ·by_cases hj:j=i
   ·subst hj
    rw[hi] at e1;cases e1
    rw[List.getElem?_set_self FV] at e2
    cases e2
    exact⟨u,r,.inl ⟨hk,by simp⟩⟩
   ·rw[List.getElem?_set_ne (Ne.symm hj)] at e2
    obtain⟨u',r',q⟩:=hl j y v' e1 e2 e3
    refine⟨u',r',?_⟩
    rcases q with ⟨k,e⟩ | ⟨k,c,e,z⟩
    ·refine .inl ⟨k,?_⟩
     have:y≠x:=λe=>hj (Dd hN e1 (e ▸ hi))
     simp[this,e]
    ·exact .inr ⟨k,c,e,z.sameBut hs (nC y c e)⟩
  ·obtain⟨w',z⟩:=I.cell y c e
   exact⟨w',z.sameBut hs (nC y c e)⟩
  ·obtain⟨e,n,ne,nf,d⟩:=I.pin p hp
   exact⟨(hs.2 p.1 ne).trans e,n,ne,nf,d⟩
 ·have Ad:X.fn x=true:=by
   rcases hf with z|z
   ·exact z
   ·rw[z] at hk;cases hk
  obtain⟨c,hc⟩:=I.ok.has x (.inl hk)
  obtain⟨w',z⟩:=I.cell x c hc
  refine wpAny_storeName_cell I.ok.kind hk hc z (λh' j4 hs=>?_)
  obtain⟨oc,kU,Q8⟩:=id z
  refine h { s with heap:=h' } ⟨I.ok,I.os,I.bare,⟨λb o e n hb hx=>?_,λb o e n hb hx=>?_,I.base.free,λb o e hx=>?_,I.base.iC,I.base.gU,I.base.jf⟩,⟨m,hn.sameBut hs (Ne.symm (nC x c hc)),λj y v' e1 e2 e3=>?_⟩,λy c' e=>?_,I.free,I.gM,λp hp=>?_,tracked ⟨oc,kU,I.gM x c hc⟩ hs,by simpa using I.len⟩ ⟨c,hs,.inr hc⟩
  ·exact(hs.2 b (Nat.ne_of_lt (Nat.lt_of_lt_of_le (Heap.lt_size e) (I.ok.nB x c Ad hc)))).trans (I.base.keep b o e n hb hx)
  ·obtain⟨sl,e1⟩:=I.base.slot b o e n hb hx
   exact⟨sl,(hs.2 b (Nat.ne_of_lt (Nat.lt_of_lt_of_le (Heap.lt_size e) (I.ok.nB x c Ad hc)))).trans e1⟩
  ·obtain⟨o',e1⟩:=I.base.there b o e hx
   exact⟨o',(hs.2 b (Nat.ne_of_lt (Nat.lt_of_lt_of_le (Heap.lt_size e) (I.ok.nB x c Ad hc)))).trans e1⟩
  ·by_cases hj:j=i
   ·subst hj
    rw[hi] at e1;cases e1
    rw[List.getElem?_set_self FV] at e2
    cases e2
    exact⟨u,r,.inr ⟨.inl hk,c,hc,j4⟩⟩
   ·rw[List.getElem?_set_ne (Ne.symm hj)] at e2
    obtain⟨u',r',q⟩:=hl j y v' e1 e2 e3
    refine⟨u',r',?_⟩
    rcases q with q | ⟨k,c',e,z'⟩
    ·exact .inl q
    ·refine .inr ⟨k,c',e,z'.sameBut hs ?_⟩
     rintro rfl
     exact hj (Dd hN e1 (I.ok.inj _ _ _ e hc ▸ hi))
  ·by_cases wb:c'=c
   ·subst wb;exact⟨_,j4⟩
   ·obtain⟨w2,z2⟩:=I.cell y c' e
    exact⟨w2,z2.sameBut hs wb⟩
  ·obtain⟨e,n,ne,nf,d⟩:=I.pin p hp
   refine⟨(hs.2 p.1 ?_).trans e,n,ne,nf,d⟩
   intro q
   rw[q,kU] at e
   have q':oc=p.2:=Option.some.inj e
   exact d w' (by rw[<- q'];exact Q8)
theorem mK {M:Model} {A:Around} {E:Value->Shared->Prop} {i:Nat} {x:Str} {v:V} {u:Value} {Q:Unit->Shared->Prop} (I:Inv X pins σ H s) (hN:X.N.Nodup) (hi:X.N[i]?=some x) (hx:Loc X.env.scope x) (r:RelV v u)
  (h:∀s',Inv X pins (σ.set i (some v)) H s'->Q () s') (hf:X.fn x=true\/X.env.scope.names.lookup x=some .local:=by first|exact .inl rfl|exact .inr rfl|assumption):wpAny M A (storeName X.env x u) Q E s :=
 JI I hN hi hx r (λs' I' _=>h s' I') hf
theorem Inv.yO {s':Shared} {ch:List Addr} (I:Inv X pins σ H s) (ho:s'.os=s.os) (u:Un (fu X.stack) ch H H' s.heap s'.heap) (au:bK X.prog X.w H' s'.heap) (hg:AllBare s'.gens)
  (j3:∀b∈ch,(b∈X.ex\/X.cF.heap.objs.size<=b)/\b≠X.env.locals/\(∀x c,X.env.cells.lookup x=some c->c≠b)/\∀p∈X.pn++pins,p.1≠b):Inv X pins σ H' s':=by
 obtain⟨h',g',d',t',o'⟩:=s'
 have e:o'=s.os:=ho
 subst e
 exact I.call (g':=g') (t':=t') (d':=d') u au hg j3
end
noncomputable abbrev XK:=Value->Option Addr->Hp->Prop
noncomputable abbrev St:=List (Option V)
noncomputable abbrev VK:=V->Hp->Prop
noncomputable abbrev TE:=St->Hp->VK->Prop
noncomputable abbrev TT:=St->Hp->(Bool->Hp->Prop)->Prop
noncomputable abbrev TA:=St->Hp->(List V->Hp->Prop)->Prop
structure Ends where
 nx:St->Hp->Prop
 rt:VK
 bk:St->Hp->Prop:=λ_ _=>False
 ct:St->Hp->Prop:=λ_ _=>False
noncomputable abbrev TS:=Ends->St->Hp->Prop
def EP (X:Cx) (pins:List (Addr×Obj)) (σ:St) (Q:VK) (u:Value) (s':Shared):Prop:=∃v H',Inv X pins σ H' s'/\RelV v u/\Q v H'
def TP (X:Cx) (pins:List (Addr×Obj)) (σ:St) (Q:Bool->Hp->Prop) (b:Bool) (s':Shared):Prop:=∃H',Inv X pins σ H' s'/\Q b H'
def AP (X:Cx) (pins:List (Addr×Obj)) (σ:St) (Q:List V->Hp->Prop) (us:List Value) (s':Shared):Prop:=∃vs H',Inv X pins σ H' s'/\Vals vs us/\Q vs H'
def SP (X:Cx) (pins:List (Addr×Obj)) (D:Ends) (f:Flow) (s':Shared):Prop :=
 match f with
 | .next=>∃ aO H',Inv X pins aO H' s'/\D.nx aO H'
 | .brk=>∃ aO H',Inv X pins aO H' s'/\D.bk aO H'
 | .cont=>∃ aO H',Inv X pins aO H' s'/\D.ct aO H'
 | .ret u=>∃v aO H',Inv X pins aO H' s'/\RelV v u/\D.rt v H'
def PE (X:Cx) (e:Expr) (t:TE):Prop :=
 ∀(pins:List (Addr×Obj)) (s:Shared) (σ:St) (H:Hp) (Q:VK),Inv X pins σ H s->t σ H Q->wpAny (model X.prog X.w) X.A (eval e X.env) (EP X pins σ Q) X.xe s
def PT (X:Cx) (e:Expr) (t:TT):Prop :=
 ∀(pins:List (Addr×Obj)) (s:Shared) (σ:St) (H:Hp) (Q:Bool->Hp->Prop),Inv X pins σ H s->t σ H Q->wpAny (model X.prog X.w) X.A (isTrue e X.env (eval e X.env)) (TP X pins σ Q) X.xe s
def PW (X:Cx) (e:Expr) (t:TT):Prop :=
 ∀(whole:Sem Value) (pins:List (Addr×Obj)) (s:Shared) (σ:St) (H:Hp) (Q:Bool->Hp->Prop),Inv X pins σ H s->t σ H Q->wpAny (model X.prog X.w) X.A (isTrue e X.env whole) (TP X pins σ Q) X.xe s
theorem PW.pt {X:Cx} {e:Expr} {t:TT} (h:PW X e t):PT X e t:=h _
def PA (X:Cx) (es:List Expr) (t:TA):Prop :=
 ∀(pos:Pos) (pins:List (Addr×Obj)) (s:Shared) (σ:St) (H:Hp) (Q:List V->Hp->Prop),Inv X pins σ H s->t σ H Q->wpAny (model X.prog X.w) X.A (spliced (backTo pos (starEach es X.env))) (AP X pins σ Q) X.xe s
def PS (X:Cx) (st:Stmt) (t:TS):Prop :=
 ∀(pins:List (Addr×Obj)) (s:Shared) (σ:St) (H:Hp) (D:Ends),Inv X pins σ H s->t D σ H->wpAny (model X.prog X.w) X.A (exec st X.env) (SP X pins D) X.xe s
def cO (X:Cx) (st:List Stmt) (t:TS):Prop :=
 ∀(pins:List (Addr×Obj)) (s:Shared) (σ:St) (H:Hp) (D:Ends),Inv X pins σ H s->t D σ H->wpAny (model X.prog X.w) X.A (execs st X.env) (SP X pins D) X.xe s
theorem aA {α:Type} {t:Sem α} {Q Q':α->Shared->Prop} {M:Model} {A:Around} {E:Value->Shared->Prop} {s:Shared} (h:wpAny M A t Q E s) (hQ:∀a s,Q a s->Q' a s):wpAny M A t Q' E s:=wpAny_mono h hQ λ_ _ x=>x
end L2
namespace L2
open PySem PySem.Spec PyProof.Rows
section
variable {X:Cx}
noncomputable def Q9 (i:Nat):TE:=fun σ H Q=>∃v,σ[i]?=some (some v)/\Q v H
noncomputable def tC (v:V):TE:=λ_ H Q=>Q v H
theorem Es {i:Nat} {x:Str} {pos:Pos} (hN:X.N[i]?=some x) (hv:nA X.env.scope x) (hd:(x==("__debug__":Str))=false:=by decide) (fP:(x==("__classdict__":Str))=false:=by decide):PE X (.Name x pos) (Q9 i):=by
 intro pins s σ H Q I h
 obtain⟨v,e,h⟩:=h
 obtain⟨m,hn,hl⟩:=I.loc
 obtain⟨u,r,l⟩:=hl i x v hN e hv
 have fin:EP X pins σ Q u s:=⟨v,H,I,r,h⟩
 rcases l with ⟨hk,hm⟩ | ⟨hk,c,hc,lK⟩
 ·exact wpAny_Name (wpAny_loadName_local I.ok.kind hk hn hm fin) hd
 ·rcases hk with hk|hk
  ·exact wpAny_Name (wpAny_loadName_cell I.ok.kind hk hc lK fin) hd
  ·exact wpAny_Name (wpAny_loadName_free I.ok.kind hk hc lK fin fP) hd
theorem uU {i j pos}:PE X (.Constant (.int i) j pos) (tC (.int i)):=λ_ _ _ H _ I h=>wpAny_Constant_int ⟨.int i,H,I.tok _,⟨_,rfl⟩,h⟩
theorem Pz {b j pos}:PE X (.Constant (.bool b) j pos) (tC (.bl b)):=λ_ _ _ H _ I h=>Constant_bool ⟨.bl b,H,I,rfl,h⟩
theorem NT {j pos}:PE X (.Constant .none j pos) (tC .ay):=λ_ _ _ H _ I h=>Constant_none ⟨.ay,H,I,rfl,h⟩
theorem NU {x j pos}:PE X (.Constant (.str x) j pos) (tC (.str x)):=λ_ _ _ H _ I h=>Calls.Constant_str ⟨.str x,H,I.tok _,⟨_,rfl⟩,h⟩
def Gl (X:Cx) (x:Str):Prop:=X.env.kindOf x=some .globalImplicit
theorem DN {E:Value->Shared->Prop} {pins:List (Addr×Obj)} {s:Shared} {σ:St} {H:Hp} {x:Str} {u:Value} {pos:Pos} {Q:Value->Shared->Prop} (I:Inv X pins σ H s) (hg:Gl X x) (hm:X.mg x=some u) (h:Q u s)
  (hd:(x==("__debug__":Str))=false:=by decide):wpAny (model X.prog X.w) X.A (eval (.Name x pos) X.env) Q E s :=
 Calls.Name_function_global I.ok.kind hg (Calls.loadGlobal_global (by rw[I.ok.glob];exact I.mod.glob.keeps I.bk) hm h) hd
theorem lE {E:Value->Shared->Prop} {pins:List (Addr×Obj)} {s:Shared} {σ:St} {H:Hp} {x:Str} {u:Value} {pos:Pos} {Q:Value->Shared->Prop} (I:Inv X pins σ H s) (hg:Gl X x) (hm:X.mg x=none) (hv:bootBuiltins x=some u) (h:Q u s)
  (hn:x≠"__name__":=by decide) (hd:(x==("__debug__":Str))=false:=by decide):wpAny (model X.prog X.w) X.A (eval (.Name x pos) X.env) Q E s:=by
 obtain⟨mb,h1,h2⟩:=I.mod.blt
 exact Calls.Name_function_global I.ok.kind hg (Calls.loadGlobal_builtin (by rw[I.ok.glob];exact I.mod.glob.keeps I.bk) hm (by rw[I.ok.blt];exact h1.keeps I.bk) ((h2 x hn).trans hv) h) hd
theorem Mc {x:Str} {v:V} {u:Value} {pos:Pos} (hg:Gl X x) (hm:X.mg x=some u) (r:RelV v u) (hd:(x==("__debug__":Str))=false:=by decide):PE X (.Name x pos) (tC v) :=
 λ_ _ _ H _ I h=>DN I hg hm ⟨v,H,I,r,h⟩ hd
theorem xQ {x:Str} {v:V} {u:Value} {pos:Pos} (hg:Gl X x) (hm:X.mg x=none) (hv:bootBuiltins x=some u) (r:RelV v u) (hn:x≠"__name__":=by decide) (hd:(x==("__debug__":Str))=false:=by decide):PE X (.Name x pos) (tC v) :=
 λ_ _ _ H _ I h=>lE I hg hm hv ⟨v,H,I,r,h⟩ hn hd
variable {a b:Expr} {ta tb:TE} {pos:Pos}
variable {tA wc:TT} {rest:List Expr}
noncomputable def gw (t u:TT):TT:=fun σ H Q=>t σ H λc H1=>if c=true then u σ H1 Q else Q false H1
noncomputable def dZ (t u:TT):TT:=fun σ H Q=>t σ H λc H1=>if c=true then Q true H1 else u σ H1 Q
noncomputable def cG (t:TT):TT:=fun σ H Q=>t σ H λc H1=>Q (!c) H1
theorem Md (ha:PT X a tA):PW X (.BoolOp .And [a] pos) tA:=by
 intro wh pins s σ H Q I h
 refine isTrue_and (aA (ha pins s σ H Q I h) λc s1 e=>?_)
 cases c with
 |true=>exact isTrue_and_nil e
 |false=>exact e
theorem NV (ha:PT X a tA):PW X (.BoolOp .Or [a] pos) tA:=by
 intro wh pins s σ H Q I h
 refine isTrue_or (aA (ha pins s σ H Q I h) λc s1 e=>?_)
 cases c with
 |false=>exact isTrue_or_nil e
 |true=>exact e
theorem NW (ha:PT X a tA) (hb:PW X (.BoolOp .And (b::rest) pos) wc):PW X (.BoolOp .And (a::b::rest) pos) (gw tA wc):=by
 intro wh pins s σ H Q I h
 refine isTrue_and (aA (ha pins s σ H _ I h) λc s1 ⟨H1,I1,q1⟩=>?_)
 cases c with
 |true=>exact hb wh pins s1 σ H1 Q I1 q1
 |false=>exact⟨H1,I1,q1⟩
theorem PB (ha:PT X a tA) (hb:PW X (.BoolOp .Or (b::rest) pos) wc):PW X (.BoolOp .Or (a::b::rest) pos) (dZ tA wc):=by
 intro wh pins s σ H Q I h
 refine isTrue_or (aA (ha pins s σ H _ I h) λc s1 ⟨H1,I1,q1⟩=>?_)
 cases c with
 |true=>exact⟨H1,I1,q1⟩
 |false=>exact hb wh pins s1 σ H1 Q I1 q1
theorem NX (ha:PT X a tA):PT X (.UnaryOp .Not a pos) (cG tA):=by
 intro pins s σ H Q I h
 exact isTrue_not (ha pins s σ H (λc H1=>Q (!c) H1) I h)
noncomputable def PC (ta tb:TE):TE:=fun σ H Q=>ta σ H λx H1=>∃c,x=.bl c/\if c=true then tb σ H1 Q else Q (.bl false) H1
noncomputable def Ra (ta tb:TE):TE:=fun σ H Q=>ta σ H λx H1=>∃c,x=.bl c/\if c=true then Q (.bl true) H1 else tb σ H1 Q
noncomputable def PD (ta:TE):TE:=fun σ H Q=>ta σ H λx H1=>∃c,x=.bl c/\Q (.bl (!c)) H1
theorem NY {op} {t:TE} (h:PE X a t):PE X (.BoolOp op [a] pos) t:=λpins s σ H Q I hw=>BoolOp_one (h pins s σ H Q I hw)
theorem NZ (ha:PE X a ta) (hb:PE X (.BoolOp .And (b::rest) pos) tb):PE X (.BoolOp .And (a::b::rest) pos) (PC ta tb):=by
 intro pins s σ H Q I h
 refine BoolOp_and (aA (ha pins s σ H _ I h) λv s1 ⟨x,H1,I1,r1,q1⟩=>?_)
 obtain⟨c,rfl,q1⟩:=q1
 cases r1
 refine wpAny_truthy_bool ?_
 cases c with
 |true=>exact hb pins s1 σ H1 Q I1 q1
 |false=>exact⟨.bl false,H1,I1,rfl,q1⟩
theorem PH (ha:PE X a ta) (hb:PE X (.BoolOp .Or (b::rest) pos) tb):PE X (.BoolOp .Or (a::b::rest) pos) (Ra ta tb):=by
 intro pins s σ H Q I h
 refine BoolOp_or (aA (ha pins s σ H _ I h) λv s1 ⟨x,H1,I1,r1,q1⟩=>?_)
 obtain⟨c,rfl,q1⟩:=q1
 cases r1
 refine wpAny_truthy_bool ?_
 cases c with
 |false=>exact hb pins s1 σ H1 Q I1 q1
 |true=>exact⟨.bl true,H1,I1,rfl,q1⟩
theorem N0 (ha:PE X a ta):PE X (.UnaryOp .Not a pos) (PD ta):=by
 intro pins s σ H Q I h
 refine UnaryOp_ (aA (ha pins s σ H _ I h) λv s1 ⟨x,H1,I1,r1,q1⟩=>?_)
 obtain⟨c,rfl,q1⟩:=q1
 cases r1
 exact not_of (wpAny_truthy_bool ⟨.bl (!c),H1,I1,rfl,q1⟩)
noncomputable def Sq (t:TT) (ta tb:TE):TE:=fun σ H Q=>t σ H λc H1=>if c=true then ta σ H1 Q else tb σ H1 Q
theorem KC {c:Expr} (hc:PT X c tA) (ha:PE X a ta) (hb:PE X b tb):PE X (.IfExp c a b pos) (Sq tA ta tb):=by
 intro pins s σ H Q I h
 refine wpAny_IfExp (aA (hc pins s σ H _ I h) λd s1 ⟨H1,I1,q1⟩=>?_)
 cases d with
 |true=>exact ha pins s1 σ H1 Q I1 q1
 |false=>exact hb pins s1 σ H1 Q I1 q1
end
end L2
namespace L2
open PySem PySem.Spec PyProof.Rows
def bx (K:Frag) (H:Hp) (a:Addr) (xs:List V):Prop :=
 Rd H a (.lst xs) \/
  ∃(o:Obj) (its:Array Value) (n:Nat),K.lookup a=some o/\o.cls=.type "list"/\o.dict=none/\o.data=.seq its n/\its.size<=sizeLine/\Vals xs its.toList
def aP (K:Frag) (H:Hp) (a:Addr) (xs:List V):Prop :=
 Rd H a (.tup xs) \/
  ∃(o:Obj) (its:Array Value) (n:Nat),K.lookup a=some o/\o.cls=.type "tuple"/\o.data=.seq its n/\its.size<=sizeLine/\Vals xs its.toList
noncomputable def Rb:Value->Option V
 | .none=>some .ay
 | .bool b=>some (.bl b)
 | .int i _=>some (.int i)
 | .str x _=>some (.str x)
 | .bytes b _=>some (.hW b)
 | .float b _=>some (.rS b)
 | .ref a=>some (.ref a)
 | .type n=>some (.ty n)
 |_=>none
theorem RelV.abs {x:V} {u:Value} (r:RelV x u):Rb u=some x:=by
 cases x with
 |ay=>cases r;rfl
 |bl _=>cases r;rfl
 |int _=>obtain⟨t,rfl⟩:=r;rfl
 |str _=>obtain⟨t,rfl⟩:=r;rfl
 |hW _=>obtain⟨t,rfl⟩:=r;rfl
 |rS _=>obtain⟨t,rfl⟩:=r;rfl
 |ref _=>cases r;rfl
 |ty _=>cases r;rfl
theorem RelV.inj {x y:V} {u:Value} (r:RelV x u) (q:RelV y u):x=y:=Option.some.inj (r.abs.symm.trans q.abs)
theorem Vals.inj:∀{xs ys:List V} {us:List Value},Vals xs us->Vals ys us->xs=ys
 |_,_,_,.nil,.nil=>rfl
 |_,_,_,.cons r t,.cons r' t'=>by rw[r.inj r',Vals.inj t t']
section
variable {X:Cx} {pins:List (Addr×Obj)} {σ:St} {H:Hp} {s:Shared} {a:Addr} {xs ys:List V}
theorem bx.of {K:Frag} (h:H a=some (.lst xs)):bx K H a xs:=.inl (.inl h)
theorem aP.of {K:Frag} (h:H a=some (.tup xs)):aP K H a xs:=.inl (.inl h)
theorem Inv.list (I:Inv X pins σ H s) (h:bx X.K H a xs):∃its:List Value,Vals xs its/\PlainL s.heap a its.toArray/\xs.length<=sizeLine:=by
 rcases h with h | ⟨o,its,n,hk,hc,hd,hs,hz,r⟩
 ·obtain⟨z,its,n,r,e⟩:=h.ok I.au
  exact⟨its,r,⟨_,n,e,rfl,rfl,rfl⟩,z⟩
 ·refine⟨its.toList,r,⟨o,n,I.pA a o hk,hc,hd,by simpa using hs⟩,?_⟩
  have e:=r.length
  simp only[Array.length_toList] at e
  omega
theorem Inv.tuple (I:Inv X pins σ H s) (h:aP X.K H a xs):∃its:List Value,Vals xs its/\IsTup s.heap a its.toArray/\xs.length<=sizeLine:=by
 rcases h with h | ⟨o,its,n,hk,hc,hs,hz,r⟩
 ·obtain⟨z,its,r,p⟩:=h.ok I.au
  exact⟨its,r,p,z⟩
 ·refine⟨its.toList,r,⟨o,I.pA a o hk,hc,n,by simpa using hs⟩,?_⟩
  have e:=r.length
  simp only[Array.length_toList] at e
  omega
theorem Inv.KD (I:Inv X pins σ H s) (h:bx X.K H a xs) (h':bx X.K H a ys):xs=ys:=by
 obtain⟨its,r,⟨o,n,e,_,_,d⟩,_⟩:=I.list h
 obtain⟨its',r',⟨o',n',e',_,_,d'⟩,_⟩:=I.list h'
 rw[e] at e';cases e'
 rw[d] at d'
 injection d' with d1 _
 have:its=its':=by simpa using congrArg Array.toList d1
 subst this
 exact r.inj r'
theorem Inv.uj (I:Inv X pins σ H s) (h:aP X.K H a xs) (h':aP X.K H a ys):xs=ys:=by
 obtain⟨its,r,⟨o,e,_,n,d⟩,_⟩:=I.tuple h
 obtain⟨its',r',⟨o',e',_,n',d'⟩,_⟩:=I.tuple h'
 rw[e] at e';cases e'
 rw[d] at d'
 injection d' with d1 _
 have:its=its':=by simpa using congrArg Array.toList d1
 subst this
 exact r.inj r'
end
noncomputable abbrev Cx.jR (X:Cx) (E:Value->Shared->Prop):Cx:={ X with xe:=E }
noncomputable abbrev Cx.rX (X:Cx):Cx:=X.jR λ_ _=>False
theorem Cx.Ok.jR {X:Cx} (ok:X.Ok) (E:Value->Shared->Prop):(X.jR E).Ok :=
 ⟨ok.mod,ok.kind,ok.glob,ok.blt,ok.above,ok.inj,ok.has,ok.nB,ok.hd,ok.frames,ok.pw,ok.v8,ok.bs,ok.hZ,ok.kL,ok.oV,ok.gW,ok.l6⟩
theorem Cx.Ok.lF {X:Cx} {E:Value->Shared->Prop} (ok:(X.jR E).Ok):X.Ok :=
 ⟨ok.mod,ok.kind,ok.glob,ok.blt,ok.above,ok.inj,ok.has,ok.nB,ok.hd,ok.frames,ok.pw,ok.v8,ok.bs,ok.hZ,ok.kL,ok.oV,ok.gW,ok.l6⟩
section
variable {X:Cx} {pins:List (Addr×Obj)} {σ:St} {H:Hp} {s:Shared} {E:Value->Shared->Prop}
theorem Inv.jR (I:Inv X pins σ H s) (E:Value->Shared->Prop):Inv (X.jR E) pins σ H s:=⟨I.ok.jR E,I.os,I.bare,I.base,I.loc,I.cell,I.free,I.gM,I.pin,I.au,I.len⟩
theorem Inv.lF (I:Inv (X.jR E) pins σ H s):Inv X pins σ H s:=⟨I.ok.lF,I.os,I.bare,I.base,I.loc,I.cell,I.free,I.gM,I.pin,I.au,I.len⟩
theorem SP.lF {D:Ends} {f:Flow} {s':Shared} (h:SP (X.jR E) pins D f s'):SP X pins D f s':=by
 cases f with
 |next=>obtain⟨aO,H',I,q⟩:=h;exact⟨aO,H',I.lF,q⟩
 |brk=>obtain⟨aO,H',I,q⟩:=h;exact⟨aO,H',I.lF,q⟩
 |cont=>obtain⟨aO,H',I,q⟩:=h;exact⟨aO,H',I.lF,q⟩
 |ret u=>obtain⟨v,aO,H',I,r,q⟩:=h;exact⟨v,aO,H',I.lF,r,q⟩
theorem cO.rX {st:List Stmt} {t:TS} (h:cO X.rX st t):cO X st t:=λpins s σ H D I hw =>
 wpAny_mono (h pins s σ H D (I.jR _) hw) (λ_ _ q=>q.lF) λ_ _ z=>False.elim z
end
section
variable {X:Cx} {st:Stmt} {rest:List Stmt} {t u:TS} {e:Expr} {te:TE} {pos:Pos}
noncomputable def PJ:TS:=λD σ H=>D.nx σ H
noncomputable def Rc (t u:TS):TS:=λD σ H=>t { D with nx:=u D } σ H
theorem Me:cO X [] PJ:=λ_ _ σ H _ I h=>wpAny_execs_nil ⟨σ,H,I,h⟩
theorem KG (h1:PS X st t) (h2:cO X rest u):cO X (st::rest) (Rc t u):=by
 intro pins s σ H D I h
 refine wpAny_execs_cons (aA (h1 pins s σ H { D with nx:=u D } I h) λf s1 q=>?_)
 cases f with
 |next =>
  obtain⟨aO,H',I',q⟩:=q
  exact h2 pins s1 aO H' D I' q
 |ret v=>exact q
 |brk=>exact q
 |cont=>exact q
theorem Mf (h1:PS X st t):cO X [st] t:=by
 intro pins s σ H D I h
 refine wpAny_execs_cons (aA (h1 pins s σ H D I h) λf s1 q=>?_)
 cases f with
 |next=>exact wpAny_execs_nil q
 |ret v=>exact q
 |brk=>exact q
 |cont=>exact q
theorem Inv.quiet {pins:List (Addr×Obj)} {σ:St} {H:Hp} {s:Shared} (I:Inv X pins σ H s):interactive X.env=false:=by simp[interactive,I.ok.kind]
noncomputable def PK (te:TE):TS:=λD σ H=>te σ H λ_ H1=>D.nx σ H1
theorem Mg (he:PE X e te) (hs:swapsWith e none pos.line X.env=pure false:=by rfl):PS X (.Expr e pos) (PK te):=by
 intro pins s σ H D I h
 exact wpAny_Expr_any (aA (he pins s σ H _ I h) λv s1 ⟨x,H1,I1,r1,q1⟩=>⟨σ,H1,I1,q1⟩) I.quiet hs
noncomputable def Rf (te:TE):TS:=λD σ H=>te σ H D.rt
theorem N1 (he:PE X e te):PS X (.Return (some e) pos) (Rf te):=by
 intro pins s σ H D I h
 exact wpAny_Return_some (aA (he pins s σ H _ I h) λv s1 ⟨x,H1,I1,r1,q1⟩=>⟨x,σ,H1,I1,r1,q1⟩)
noncomputable def Rg (c:TT) (t u:TS):TS:=λD σ H=>c σ H λb H1=>if b=true then t D σ H1 else u D σ H1
theorem PL {c:Expr} {a b:List Stmt} {tc:TT} (hc:PT X c tc) (ha:cO X a t) (hb:cO X b u):PS X (.If c a b pos) (Rg tc t u):=by
 intro pins s σ H D I h
 refine wpAny_If (aA (hc pins s σ H _ I h) λd s1 ⟨H1,I1,q1⟩=>?_)
 cases d with
 |true=>exact ha pins s1 σ H1 D I1 q1
 |false=>exact hb pins s1 σ H1 D I1 q1
end
noncomputable abbrev TG:=V->St->Hp->(St->Hp->Prop)->Prop
noncomputable abbrev fQ:=List V->St->Hp->(St->Hp->Prop)->Prop
def PG (X:Cx) (target:Expr) (t:TG):Prop :=
 ∀(pins:List (Addr×Obj)) (s:Shared) (σ:St) (H:Hp) (v:V) (u:Value) (Q:St->Hp->Prop),Inv X pins σ H s->RelV v u->t v σ H Q ->
  wpAny (model X.prog X.w) X.A (assign target X.env u) (λ_ s'=>∃ aO H',Inv X pins aO H' s'/\Q aO H') X.xe s
def j5 (X:Cx) (ts:List Expr) (t:fQ):Prop :=
 ∀(pins:List (Addr×Obj)) (s:Shared) (σ:St) (H:Hp) (vs:List V) (us:List Value) (Q:St->Hp->Prop),Inv X pins σ H s->Vals vs us->t vs σ H Q ->
  wpAny (model X.prog X.w) X.A (assignInOrder ((assignEach ts X.env).map (·.2)) us) (λ_ s'=>∃ aO H',Inv X pins aO H' s'/\Q aO H') X.xe s
noncomputable abbrev zp:=V->V->V->Hp->(Hp->Prop)->Prop
def FW (X:Cx) (t:zp):Prop :=
 ∀(pins:List (Addr×Obj)) (s:Shared) (σ:St) (H:Hp) (o i v:V) (ov iv u:Value) (Q:Hp->Prop),Inv X pins σ H s->RelV o ov->RelV i iv->RelV v u->t o i v H Q ->
  wpAny (model X.prog X.w) X.A (setItem ov iv u) (λ_ s'=>∃H',Inv X pins σ H' s'/\Q H') X.xe s
section
variable {X:Cx} {pos:Pos}
noncomputable def mV (i:Nat):TG:=λv σ H Q=>Q (σ.set i (some v)) H
theorem c8 {i:Nat} {x:Str} (hN:X.N.Nodup) (hi:X.N[i]?=some x) (hx:Loc X.env.scope x) (hf:X.fn x=true\/X.env.scope.names.lookup x=some .local:=by first|exact .inl rfl|exact .inr rfl|assumption):PG X (.Name x pos) (mV i):=by
 intro pins s σ H v u Q I r h
 exact wpAny_assign_Name (mK I hN hi hx r (λs' I'=>⟨_,H,I',h⟩) hf)
noncomputable def zq:fQ:=λvs σ H Q=>vs=[]/\Q σ H
noncomputable def yP (t:TG) (u:fQ):fQ:=λvs σ H Q=>∃v r,vs=v::r/\t v σ H fun aO H'=>u r aO H' Q
theorem uG:j5 X [] zq:=by
 intro pins s σ H vs us Q I r h
 obtain⟨e,h⟩:=h
 subst e
 cases r
 exact assignInOrder_nil ⟨σ,H,I,h⟩
theorem mL {e:Expr} {es:List Expr} {t:TG} {u:fQ} (h1:PG X e t) (h2:j5 X es u)
  (hs:(assignEach (e::es) X.env).map (·.2)=assign e X.env::(assignEach es X.env).map (·.2):=by rfl):j5 X (e::es) (yP t u):=by
 intro pins s σ H vs us Q I r h
 obtain⟨v,vr,e1,h⟩:=h
 subst e1
 cases r with
 |cons r rr =>
  rw[hs]
  refine assignInOrder_cons (aA (h1 pins s σ H _ _ _ I r h) λ_ s1 ⟨nD,H1,I1,q1⟩=>?_)
  exact h2 pins s1 nD H1 _ _ Q I1 rr q1
noncomputable def zr (K:Frag) (n:Nat) (t:fQ):TG:=λv σ H Q=>∃a xs,v=.ref a/\aP K H a xs/\xs.length=n/\t xs σ H Q
theorem uV {es:List Expr} {k:Nat} {t:fQ} {n:Nat} (hc:X.calm=true) (h:j5 X es t)
  (hn:(assignEach es X.env).length=n:=by rfl) (Ae:(assignEach es X.env).findIdx? (·.1)=none:=by rfl):PG X (.Tuple es k pos) (zr X.K n t):=by
 intro pins s σ H v u Q I r hw
 obtain⟨a,xs,e1,hq,hl,hw⟩:=hw
 subst e1
 cases r
 obtain⟨its,rv,ht,hz⟩:=I.tuple hq
 refine assign_Tuple_tuple (I.ok.hd hc) ht (by simp[hn,<- hl,rv.length]) Ae λh' hx=>?_
 have I1:Inv X pins σ H { s with heap:=h' }:=I.kept (t':=s.toks) λb o e=>hx b o (Nat.ne_of_lt (Heap.lt_size e)) e
 exact h pins _ σ H xs _ Q I1 (by simpa using rv) hw
noncomputable def Rh (to ti:TE) (t:zp):TG:=λv σ H Q=>to σ H λo H1=>ti σ H1 λi H2=>t o i v H2 λH3=>Q σ H3
theorem N2 {o i:Expr} {to ti:TE} {t:zp} (ho:PE X o to) (hi:PE X i ti) (hs:FW X t)
  (ha:∀v,assign (.Subscript o i pos) X.env v=(do
   let ov <- holding [v] (eval o X.env)
   let iv <- holding [v,ov] (eval i X.env)
   standAt pos
   holding [v,ov,iv] (setItem ov iv v)
   release [v,ov,iv] []):=by intro _;rfl):PG X (.Subscript o i pos) (Rh to ti t):=by
 intro pins s σ H v u Q I r h
 rw[ha]
 refine wpAny_bind (wpAny_holding (aA (ho pins s σ H _ I h) λov s1 ⟨x,H1,I1,r1,q1⟩=>?_))
 refine wpAny_bind (wpAny_holding (aA (hi pins s1 σ H1 _ I1 q1) λiv s2 ⟨y,H2,I2,r2,q2⟩=>?_))
 refine wpAny_bind (wpAny_standAt (wpAny_bind (wpAny_holding (aA (hs pins s2 σ H2 x y v ov iv u _ I2 r1 r2 r q2) λ_ s3 ⟨H3,I3,q3⟩=>?_))))
 exact wpAny_release ⟨σ,H3,I3,q3⟩
noncomputable def rg (te:TE) (g:TG):TS:=λD σ H=>te σ H λx H1=>g x σ H1 D.nx
theorem N3 {tg e:Expr} {te:TE} {g:TG} (he:PE X e te) (hg:PG X tg g) (hs:swapsWithSole [tg] e pos.line X.env=pure false:=by rfl) (hw:swappedStores [tg] e X.env=pure none:=by rfl)
  (h1:(assignEach [tg] X.env).map (·.2)=[assign tg X.env]:=by rfl):PS X (.Assign [tg] e pos) (rg te g):=by
 intro pins s σ H D I h
 refine wpAny_Assign_stores (aA (he pins s σ H _ I h) λv s1 ⟨x,H1,I1,r1,q1⟩=>?_) hs hw
 rw[h1]
 exact aA (hg pins s1 σ H1 x v _ I1 r1 q1) λ_ s2 q=>q
theorem N4 {i:Nat} {x:Str} {e:Expr} {te:TE} {pos':Pos} (hN:X.N.Nodup) (hi:X.N[i]?=some x) (hx:Loc X.env.scope x) (he:PE X e te) (hs:swapsWith e (some (.Name x pos')) pos.line X.env=pure false:=by rfl) (hf:X.fn x=true\/X.env.scope.names.lookup x=some .local:=by first|exact .inl rfl|exact .inr rfl|assumption) :
  PS X (.Assign [.Name x pos'] e pos) (rg te (mV i)):=by
 intro pins s σ H D I h
 refine wpAny_Assign_Name (aA (he pins s σ H _ I h) λv s1 ⟨y,H1,I1,r1,q1⟩=>?_) hs
 exact mK I1 hN hi hx r1 (λs2 I2=>⟨_,H1,I2,q1⟩) hf
noncomputable def Ri (i j:Nat) (ta:TA):TS:=λD σ H=>ta σ H λvs H1=>∃v w,vs=[v,w]/\D.nx ((σ.set i (some v)).set j (some w)) H1
theorem N5 {i j:Nat} {x y:Str} {a b:Expr} {ta:TA} {px py pt:Pos} {kt k2 fR} (hc:X.calm=true) (hN:X.N.Nodup) (hi:X.N[i]?=some x) (hj:X.N[j]?=some y) (ia:i≠j)
  (hx:X.env.scope.names.lookup x=some .local) (hy:X.env.scope.names.lookup y=some .local) (ha:PA X [a,b] ta)
  (hw:swappedStores [.Tuple [.Name x px,.Name y py] kt pt] (.Tuple [a,b] k2 fR) X.env=pure (some [x,y]))
  (hs:swapsWithSole [.Tuple [.Name x px,.Name y py] kt pt] (.Tuple [a,b] k2 fR) pos.line X.env=pure false:=by rfl) :
  PS X (.Assign [.Tuple [.Name x px,.Name y py] kt pt] (.Tuple [a,b] k2 fR) pos) (Ri i j ta):=by
 intro pins s σ H D I h
 rw[exec_Assign_arm]
 refine wpAny_bind (wpAny_standAt ?_)
 rw[hs]
 refine wpAny_bind (wpAny_pure ?_)
 rw[if_neg (by decide)]
 refine wpAny_bind (Tuple_ (aA (ha _ pins s σ H _ I h) λus s1 ⟨vs,H1,I1,r1,q1⟩=>?_))
 obtain⟨v,w,e1,q1⟩:=q1
 subst e1
 obtain⟨u1,u2,rfl,rv,ib⟩:∃u1 u2,us=[u1,u2]/\RelV v u1/\RelV w u2:=by
  cases r1 with
  |cons p q =>
   cases q with
   |cons p' q' =>
    cases q'
    exact⟨_,_,rfl,p,p'⟩
 refine wpAny_newObj_type ?_ (by show 2<=sizeLine;decide)
 have I2:Inv X pins σ H1 { s1 with heap:=s1.heap.push { cls:=.type "tuple",data:=.seq [u1,u2].toArray } }:=I1.kept (t':=s1.toks) λb o e=>Heap.get?_push_of_some _ e
 rw[hw]
 refine wpAny_bind (wpAny_pure ?_)
 show wpAny (model X.prog X.w) X.A (do rule "assign.swapped-stores";let items <- unpackItems (.ref s1.heap.objs.size) 2 none;assignInOrder [λv=>bindName X.env y v,λv=>bindName X.env x v] items.reverse;pure Flow.next) _ _ _
 refine wpAny_bind (wpAny_rule (wpAny_bind (unpackItems_tuple (items:=#[u1,u2]) (I.ok.hd hc) (IsTup.new s1.heap _) λh' rY=>?_)))
 have I3:=I2.kept (h':=h') (t':=s1.toks) λb o e=>rY b o (Nat.ne_of_lt (Heap.lt_size e)) e
 show wpAny _ _ (assignInOrder [λv=>bindName X.env y v,λv=>bindName X.env x v] [u2,u1] >>= λ_=>pure Flow.next) _ _ _
 refine wpAny_bind (assignInOrder_cons (wpAny_bindName (mK I3 hN hj (.inl hy) ib (λs2 I4=>?_) (.inr hy))))
 refine assignInOrder_cons (wpAny_bindName (mK I4 hN hi (.inl hx) rv (λs3 I5=>assignInOrder_nil (wpAny_pure ?_)) (.inr hx)))
 rw[List.set_comm _ _ (Ne.symm ia)] at I5
 exact⟨_,H1,I5,q1⟩
end
section
variable {X:Cx} {pos:Pos}
noncomputable def Et (c:TT) (tb:TS):TS:=λD σ H=>∃W:Nat->St->Hp->Prop,(∃m,W m σ H)/\∀m σ H,W m σ H ->
 c σ H λb H1=>if b=true then ∃N:St->Hp->Prop,(∀ aO H',N aO H'->∃m',m' < m/\W m' aO H')/\tb { D with nx:=N,ct:=N,bk:=D.nx } σ H1 else D.nx σ H1
theorem KH {c:Expr} {body:List Stmt} {tc:TT} {tb:TS} (hp:PassesOwn (model X.prog X.w) X.A X.env X.xe) (hc:PT X c tc) (hb:cO X body tb):PS X (.While c body [] pos) (Et tc tb):=by
 intro pins s σ H D I h
 obtain⟨W,⟨m0,w0⟩,turn⟩:=h
 refine wpAny_While (codeAny_whileLoop (λn s'=>∃ aO H',Inv X pins aO H' s'/\W n aO H') ?_ m0 ⟨σ,H,I,w0⟩)
 rintro n s1 ⟨nD,H1,I1,w1⟩
 refine wpAny_passesOwn hp (aA (hc pins s1 nD H1 _ I1 (turn n nD H1 w1)) λb s2 ⟨H2,I2,q2⟩=>?_)
 cases b with
 |true =>
  obtain⟨N,hN,q2⟩:=q2
  rw[if_pos rfl]
  refine wpAny_passesOwn hp (aA (hb pins s2 nD H2 _ I2 q2) λf s3 q3=>?_)
  cases f with
  |next =>
   obtain⟨ee,H3,I3,n3⟩:=q3
   obtain⟨m',hm,w3⟩:=hN ee H3 n3
   exact⟨m',hm,ee,H3,I3,w3⟩
  |cont =>
   obtain⟨ee,H3,I3,n3⟩:=q3
   obtain⟨m',hm,w3⟩:=hN ee H3 n3
   exact⟨m',hm,ee,H3,I3,w3⟩
  |brk=>exact q3
  |ret v=>exact q3
 |false =>
  rw[if_neg Bool.false_ne_true]
  exact wpAny_execs_nil ⟨nD,H2,I2,q2⟩
end
structure It where
 go:Nat->Hp->Prop
 rZ:Nat->Hp->V->Hp->Prop
 stop:Nat->Hp->Prop
def cj (X:Cx) (pins:List (Addr×Obj)) (H:Hp) (b:Addr):Prop :=
 H b=none/\b≠X.env.locals/\b∉X.fs/\(b∈X.ex\/X.cF.heap.objs.size<=b)/\(∀x c,X.env.cells.lookup x=some c->c≠b)/\∀p∈X.pn++pins,p.1≠b
theorem Inv.kM {X:Cx} {pins:List (Addr×Obj)} {σ:St} {H H':Hp} {s:Shared} {b:Addr} (I:Inv X pins σ H s) (hb:s.heap.objs.size<=b) (hn:H' b=none):cj X pins H' b:=by
 refine⟨hn,Nat.ne_of_gt (Nat.lt_of_lt_of_le I.lt hb),I.rf hb,.inr (Nat.le_trans I.sz hb),λx c e z=>?_,λp hp z=>?_⟩
 ·obtain⟨v,q⟩:=I.cell x c e
  exact absurd (Nat.lt_of_lt_of_le q.lt (by rw[z];exact hb)) (Nat.lt_irrefl _)
 ·exact absurd (Nat.lt_of_lt_of_le (Heap.lt_size (I.pin p hp).1) (by rw[z];exact hb)) (Nat.lt_irrefl _)
structure Turn (P:Program) (w:World) (K:Frag) (tg:Expr) (J:It) (fp:List Addr) (it:Addr) (tn:Nat->Heap->Prop):Prop where
 mem:it∈fp
 obj:∀i h,tn i h->∀b∈fp,∃o,h.get? b=some o/\∀v,o.data≠.cell v
 keep:∀i h h',tn i h->(∀b∈fp,∀o,h.get? b=some o->h'.get? b=some o)->tn i h'
 item:∀(X:Cx),X.prog=P->X.w=w->X.K=K->X.calm=true->∀(i:Nat) (pins:List (Addr×Obj)) (s:Shared) (σ:St) (H:Hp) (E:Value->Shared->Prop),Inv X pins σ H s->(∀b∈fp,cj X pins H b)->tn i s.heap->J.go i H ->
  wpAny (model P w) X.A (pyNext (.ref it)) (λr s1=>∃u,r=some u /\
   wpAny (model P w) X.A (letOwnedTupleGo tg (.ref it) u) (λ_ s2=>∃x H',Inv X pins σ H' s2/\RelV x u/\J.rZ i H x H'/\tn (i+1) s2.heap/\∀b∈fp,H' b=none) E s1) E s
 done:∀(X:Cx),X.prog=P->X.w=w->X.K=K->X.calm=true->∀(i:Nat) (pins:List (Addr×Obj)) (s:Shared) (σ:St) (H:Hp) (E:Value->Shared->Prop),Inv X pins σ H s->(∀b∈fp,cj X pins H b)->tn i s.heap->J.stop i H ->
  wpAny (model P w) X.A (pyNext (.ref it)) (λr s1=>r=none/\Inv X pins σ H s1) E s
 self:∀(A:Around) (i:Nat) (s:Shared) (Q:Value->Shared->Prop) (E:Value->Shared->Prop),tn i s.heap->Q (.ref it) s->wpAny (model P w) A (pyIter (.ref it)) Q E s
noncomputable abbrev TI:=St->Hp->(It->Hp->Prop)->Prop
def Gy (X:Cx) (pins:List (Addr×Obj)) (σ:St) (tg:Expr) (R:It->Hp->Prop) (fT:Value) (s2:Shared):Prop :=
 ∃(it:Addr) (fp:List Addr) (tn:Nat->Heap->Prop) (J:It) (H':Hp),fT=.ref it/\Inv X pins σ H' s2/\Turn X.prog X.w X.K tg J fp it tn/\tn 0 s2.heap/\(∀b∈fp,cj X pins H' b)/\R J H'
def PI (X:Cx) (tg iter:Expr) (wi:TI):Prop :=
 ∀(pins:List (Addr×Obj)) (s:Shared) (σ:St) (H:Hp) (R:It->Hp->Prop),Inv X pins σ H s->wi σ H R ->
  wpAny (model X.prog X.w) X.A (eval iter X.env) (λv s1=>wpAny (model X.prog X.w) X.A (pyIter v) (Gy X pins σ tg R) X.xe s1) X.xe s
theorem yQ {M:Model} {A:Around} {E:Value->Shared->Prop} {s:Shared} {tg:Expr} {it:Addr} {u:Value} {o:Obj} {n:String} {vs:Array Value} {Q:Unit->Shared->Prop} (ho:s.heap.get? it=some o) (hc:o.cls=.type n) (hd:o.data=.fields vs)
  (hn:["enumerate","zip","dict_itemiterator","dict_reverseitemiterator","odict_iterator","itertools.zip_longest","itertools.pairwise"].contains n=false) (hQ:Q () s):wpAny M A (letOwnedTupleGo tg (.ref it) u) Q E s:=by
 unfold letOwnedTupleGo
 cases tg<;>first
  |exact wpAny_pure hQ
  |(cases u<;>first
    |exact wpAny_pure hQ
    |(refine wpAny_bind (wpAny_load ho ?_)
      rw[hc,hd]
      show wpAny M A (if (["enumerate","zip","dict_itemiterator","dict_reverseitemiterator","odict_iterator","itertools.zip_longest","itertools.pairwise"].contains n&&vs[0]?==some (rawInt _))=true then _ else _) Q E s
      rw[if_neg (by intro h;rw[hn,Bool.false_and] at h;cases h)]
      exact wpAny_pure hQ))
noncomputable def Af (K:Frag) (a:Addr):It :=
 ⟨λi H=>∃xs x,bx K H a xs/\xs[i]?=some x,λi H x H'=>H'=H/\∀xs,bx K H a xs->xs[i]?=some x,λi H=>∃xs,bx K H a xs/\xs.length<=i⟩
noncomputable def Ag (K:Frag) (a:Addr):It :=
 ⟨λi H=>∃xs x,aP K H a xs/\xs[i]?=some x,λi H x H'=>H'=H/\∀xs,aP K H a xs->xs[i]?=some x,λi H=>∃xs,aP K H a xs/\xs.length<=i⟩
noncomputable def wg (lo:Int) (n:Nat):It:=⟨λi _=>i<n,λi H x H'=>H'=H/\x=.int (lo+i),λi _=>n<=i⟩
theorem JJ {P:Program} {w:World} {K:Frag} {tg:Expr} (a it:Addr):Turn P w K tg (Af K a) [it] it (λi h=>h.IsListIter it a i) where
 mem:=by simp
 obj:=λi h st b hb=>by
  have e:b=it:=by simpa using hb
  subst e
  obtain⟨o,e,c,d⟩:=st
  exact⟨o,e,λv z=>by rw[d] at z;cases z⟩
 keep:=λi h h' st k=>st.at λo e=>k it (by simp) o e
 item:=by
  intro X hP hw hK hc i pins s σ H E I hf st hg
  subst hP hw hK
  obtain⟨xs,x,hq,hx⟩:=hg
  obtain⟨its,rv,p,hz⟩:=I.list hq
  obtain⟨u,hu,ru⟩:=rv.get hx
  obtain⟨f0,f1,f2,f3,f4,f5⟩:=hf it (by simp)
  refine wpAny_pyNext_list_item st p.isList (x:=u) (by simpa using hu) λh' eY sb=>?_
  have I1:Inv X pins σ H { s with heap:=h' }:=I.turned (t':=s.toks) (λb o hb e=>(sb.2 b hb).trans e) f0 f1 f3 f4 f5
  obtain⟨o,e,c,d⟩:=id eY
  exact⟨u,rfl,yQ (s:={ s with heap:=h' }) e c d (by decide) ⟨x,H,I1,ru,⟨rfl,λys hy=>by rw[I.KD hy hq];exact hx⟩,eY,λb hb=>(hf b hb).1⟩⟩
 done:=by
  intro X hP hw hK hc i pins s σ H E I hf st hg
  subst hP hw hK
  obtain⟨xs,hq,hx⟩:=hg
  obtain⟨its,rv,p,hz⟩:=I.list hq
  obtain⟨f0,f1,f2,f3,f4,f5⟩:=hf it (by simp)
  have hl:=rv.length
  exact wpAny_pyNext_list_end (I.ok.hd hc) st p.isList (by simp;omega) λh' eb=>⟨rfl,I.turned (t':=s.toks) (λb o hb e=>eb b o hb e) f0 f1 f3 f4 f5⟩
 self:=λ_ _ _ _ _ st h=>wpAny_pyIter_listiter st h
theorem IQ {P:Program} {w:World} {K:Frag} {tg:Expr} (a it:Addr):Turn P w K tg (Ag K a) [it] it (λi h=>h.IsTupleIter it a i) where
 mem:=by simp
 obj:=λi h st b hb=>by
  have e:b=it:=by simpa using hb
  subst e
  obtain⟨o,e,c,d⟩:=st
  exact⟨o,e,λv z=>by rw[d] at z;cases z⟩
 keep:=λi h h' st k=>st.at λo e=>k it (by simp) o e
 item:=by
  intro X hP hw hK hc i pins s σ H E I hf st hg
  subst hP hw hK
  obtain⟨xs,x,hq,hx⟩:=hg
  obtain⟨its,rv,p,hz⟩:=I.tuple hq
  obtain⟨u,hu,ru⟩:=rv.get hx
  obtain⟨f0,f1,f2,f3,f4,f5⟩:=hf it (by simp)
  refine wpAny_pyNext_tuple_item st (show s.heap.IsTuple a its.toArray from p) (x:=u) (by simpa using hu) λh' eY sb=>?_
  have I1:Inv X pins σ H { s with heap:=h' }:=I.turned (t':=s.toks) (λb o hb e=>(sb.2 b hb).trans e) f0 f1 f3 f4 f5
  obtain⟨o,e,c,d⟩:=id eY
  exact⟨u,rfl,yQ (s:={ s with heap:=h' }) e c d (by decide) ⟨x,H,I1,ru,⟨rfl,λys hy=>by rw[I.uj hy hq];exact hx⟩,eY,λb hb=>(hf b hb).1⟩⟩
 done:=by
  intro X hP hw hK hc i pins s σ H E I hf st hg
  subst hP hw hK
  obtain⟨xs,hq,hx⟩:=hg
  obtain⟨its,rv,p,hz⟩:=I.tuple hq
  obtain⟨f0,f1,f2,f3,f4,f5⟩:=hf it (by simp)
  have hl:=rv.length
  exact wpAny_pyNext_tuple_end (I.ok.hd hc) st (show s.heap.IsTuple a its.toArray from p) (by simp;omega) λh' eb=>⟨rfl,I.turned (t':=s.toks) (λb o hb e=>eb b o hb e) f0 f1 f3 f4 f5⟩
 self:=λ_ _ _ _ _ st h=>wpAny_pyIter_tupleiter st h
theorem IS {P:Program} {w:World} {K:Frag} {tg:Expr} (it:Addr) (lo:Int) (n:Nat):Turn P w K tg (wg lo n) [it] it (λi h=>IsRangeIter h it (lo+(i:Nat)*1) ((n:Int)-(i:Nat)) 1) where
 mem:=by simp
 obj:=λi h st b hb=>by
  have e:b=it:=by simpa using hb
  subst e
  exact⟨_,st,λv z=>by
   have z':Data.fields _=Data.cell v:=z
   cases z'⟩
 keep:=λi h h' st k=>k it (by simp) _ st
 item:=by
  intro X hP hw hK hc i pins s σ H E I hf st hg
  subst hP hw hK
  obtain⟨f0,f1,f2,f3,f4,f5⟩:=hf it (by simp)
  have W:=Walks.range (prog:=X.prog) (w:=X.w) (I.ok.hd hc) it lo 1 n
  refine W.item i s _ _ hg st λv h' tk hv eY kk=>?_
  obtain⟨t,rfl⟩:=hv
  have I1:Inv X pins σ H { s with heap:=h',toks:=tk }:=I.turned (λb o hb e=>kk b o (by simpa using hb) e) f0 f1 f3 f4 f5
  refine⟨_,rfl,yQ (s:={ s with heap:=h',toks:=tk }) (n:="range_iterator") eY rfl rfl (by decide) ⟨.int (lo+i),H,I1,⟨t,?_⟩,⟨rfl,rfl⟩,eY,λb hb=>(hf b hb).1⟩⟩
  rw[Int.mul_one]
 done:=by
  intro X hP hw hK hc i pins s σ H E I hf st hg
  subst hP hw hK
  obtain⟨f0,f1,f2,f3,f4,f5⟩:=hf it (by simp)
  exact wpAny_pyNext_range_end (I.ok.hd hc) st (by have:n<=i:=hg;omega) λh' eb=>⟨rfl,I.turned (t':=s.toks) (λb o hb e=>eb b o hb e) f0 f1 f3 f4 f5⟩
 self:=λ_ _ _ _ _ st h=>wpAny_pyIter_rangeiter st h
end L2
namespace L2
open PySem PySem.Spec PyProof.Rows
section
variable {X:Cx} {tg:Expr}
noncomputable def Fe (K:Frag) (tl:TE):TI:=fun σ H R=>tl σ H λx H1=>∃a,x=.ref a/\(∃xs,bx K H1 a xs)/\R (Af K a) H1
noncomputable def FX (K:Frag) (tl:TE):TI:=fun σ H R=>tl σ H λx H1=>∃a,x=.ref a/\(∃xs,aP K H1 a xs)/\R (Ag K a) H1
theorem Mh {l:Expr} {tl:TE} (hl:PE X l tl):PI X tg l (Fe X.K tl):=by
 intro pins s σ H R I h
 refine aA (hl pins s σ H _ I h) λv s1 ⟨x,H1,I1,r1,q1⟩=>?_
 obtain⟨a,e,⟨xs,hq⟩,q⟩:=q1
 subst e
 cases r1
 obtain⟨its,rv,p,hz⟩:=I1.list hq
 refine wpAny_pyIter_list p.isList ?_
 refine⟨s1.heap.objs.size,[s1.heap.objs.size],_,_,H1,rfl,I1.kept (t':=s1.toks) λb o e=>Heap.get?_push_of_some _ e,JJ a _,⟨_,Heap.get?_push_size _ rfl,rfl,rfl⟩,λb hb=>?_,q⟩
 have e:b=s1.heap.objs.size:=by simpa using hb
 subst e
 exact I1.kM (Nat.le_refl _) (I1.au.fresh (Nat.le_refl _))
theorem N6 {l:Expr} {tl:TE} (hl:PE X l tl):PI X tg l (FX X.K tl):=by
 intro pins s σ H R I h
 refine aA (hl pins s σ H _ I h) λv s1 ⟨x,H1,I1,r1,q1⟩=>?_
 obtain⟨a,e,⟨xs,hq⟩,q⟩:=q1
 subst e
 cases r1
 obtain⟨its,rv,p,hz⟩:=I1.tuple hq
 refine wpAny_pyIter_tuple (show s1.heap.IsTuple a its.toArray from p) ?_
 refine⟨s1.heap.objs.size,[s1.heap.objs.size],_,_,H1,rfl,I1.kept (t':=s1.toks) λb o e=>Heap.get?_push_of_some _ e,IQ a _,⟨_,Heap.get?_push_size _ rfl,rfl,rfl⟩,λb hb=>?_,q⟩
 have e:b=s1.heap.objs.size:=by simpa using hb
 subst e
 exact I1.kM (Nat.le_refl _) (I1.au.fresh (Nat.le_refl _))
theorem KI {pins:List (Addr×Obj)} {σ:St} {H:Hp} {s:Shared} {R:It->Hp->Prop} {E:Value->Shared->Prop} {lo hi:Int} {t u v:Tok} {tk:Nat} (I:Inv X pins σ H s) (h1:-(2 ^ 62)<=lo) (h2:lo<2 ^ 62) (h3:-(2 ^ 62)<=hi) (h4:hi<2 ^ 62)
  (q:R (wg lo (hi-lo).toNat) H):wpAny (model X.prog X.w) X.A (pyIter (.ref s.heap.objs.size)) (Gy X pins σ tg R) E { s with heap:=s.heap.push { cls:=.type "range",data:=.fields #[.int lo t,.int hi u,.int 1 v] },toks:=tk }:=by
 refine wpAny_pyIter_range (IsRange.new ..) (small_one h1 h2 h3 h4) ?_
 have I1:Inv X pins σ H { s with heap:=s.heap.push { cls:=.type "range",data:=.fields #[.int lo t,.int hi u,.int 1 v] },toks:=tk }:=I.kept λb o e=>Heap.get?_push_of_some _ e
 refine⟨(s.heap.push { cls:=.type "range",data:=.fields #[.int lo t,.int hi u,.int 1 v] }).objs.size,[(s.heap.push { cls:=.type "range",data:=.fields #[.int lo t,.int hi u,.int 1 v] }).objs.size],_,_,H,rfl,
  I1.kept (t':=tk) λb o e=>Heap.get?_push_of_some _ e,IS _ lo (hi-lo).toNat,?_,λb hb=>?_,q⟩
 ·have e1:lo+((0:Nat):Int)*1=lo:=by simp
  have e2:(((hi-lo).toNat:Nat):Int)-((0:Nat):Int)=Builtin.Range.rangeSize lo hi 1:=by rw[rangeSize_one];split<;>omega
  show IsRangeIter _ _ (lo+((0:Nat):Int)*1) ((((hi-lo).toNat:Nat):Int)-((0:Nat):Int)) 1
  rw[e1,e2]
  exact Heap.get?_push_size _ rfl
 ·have e:b=(s.heap.push { cls:=.type "range",data:=.fields #[.int lo t,.int hi u,.int 1 v] }).objs.size:=by simpa using hb
  subst e
  exact I1.kM (Nat.le_refl _) (I1.au.fresh (Nat.le_refl _))
noncomputable def PM (ta:TA):TI:=fun σ H R=>ta σ H λvs H1=>∃j:Int,vs=[.int j]/\-(2 ^ 62)<=j/\j<2 ^ 62/\R (wg 0 j.toNat) H1
theorem JK {a:Expr} {ta:TA} {p pos:Pos} (hg:Gl X "range") (hm:X.mg "range"=none) (ha:PA X [a] ta) (hs:starEach [a] X.env=[(false,eval a X.env)]:=by rfl):PI X tg (.Call (.Name "range" p) [a] [] pos) (PM ta):=by
 intro pins s σ H R I h
 refine Call_ (lE I hg hm boot_range (PyProof.Rows.callWith_type1 (aA (ha pos pins s σ H _ I h) λus s1 ⟨vs,H1,I1,r1,q1⟩=>?_) hs rfl))
 obtain⟨j,e,q1,q2,q⟩:=q1
 subst e
 cases r1 with
 |cons r rr =>
  cases rr
  obtain⟨t,rfl⟩:=r
  exact call_range_1 (KI I1 (by omega) (by omega) q1 q2 (by simpa using q))
noncomputable def FY (wi:TI) (g:TG) (tb:TS):TS:=λD σ H=>wi σ H λJ H1=>∃W:Nat->Nat->St->Hp->Prop,(∃m,W 0 m σ H1)/\∀i m σ H,W i m σ H ->
 (J.stop i H/\D.nx σ H)\/(J.go i H/\∃N:St->Hp->Prop,(∀ aO H',N aO H'->∃m',m' < m/\W (i+1) m' aO H')/\∀x H',J.rZ i H x H'->g x σ H' fun iJ H2=>tb { D with nx:=N,ct:=N,bk:=D.nx } iJ H2)
noncomputable def lG (fp:List Addr) (h:Heap):List (Addr×Obj):=fp.filterMap λb=>(h.get? b).map λo=>(b,o)
theorem n9 {fp:List Addr} {h:Heap} {b:Addr} {o:Obj} (hb:b∈fp) (e:h.get? b=some o):(b,o)∈lG fp h:=List.mem_filterMap.mpr ⟨b,hb,by rw[e];rfl⟩
theorem CL {fp:List Addr} {h:Heap} {p:Addr×Obj} (hp:p∈lG fp h):p.1∈fp/\h.get? p.1=some p.2:=by
 obtain⟨b,hb,e⟩:=List.mem_filterMap.mp hp
 cases q:h.get? b with
 |none=>rw[q] at e;cases e
 |some o =>
  rw[q] at e
  have e':(b,o)=p:=Option.some.inj e
  subst e'
  exact⟨hb,q⟩
theorem Inv.pinned {pins:List (Addr×Obj)} {σ:St} {H:Hp} {s:Shared} {fp:List Addr} (I:Inv X pins σ H s) (hf:∀b∈fp,cj X pins H b) (ho:∀b∈fp,∃o,s.heap.get? b=some o/\∀v,o.data≠.cell v):Inv X (pins++lG fp s.heap) σ H s :=
 I.jG λp hp=>(List.mem_append.mp hp).elim (λz=>I.pin p (List.mem_append_right _ z)) λz=>by
  obtain⟨hb,e⟩:=CL z
  obtain⟨f0,f1,f2,_⟩:=hf p.1 hb
  obtain⟨o,e',d⟩:=ho p.1 hb
  rw[e] at e';cases e'
  exact⟨e,f0,f1,f2,d⟩
theorem Inv.ij {pins pl:List (Addr×Obj)} {σ:St} {H:Hp} {s:Shared} (I:Inv X (pins++pl) σ H s):Inv X pins σ H s:=I.jG λp hp=>I.pin p (List.mem_append_right _ (List.mem_append_left _ hp))
theorem N7 {iter:Expr} {body:List Stmt} {wi:TI} {g:TG} {tb:TS} {pos:Pos} (hp:PassesOwn (model X.prog X.w) X.A X.env X.xe) (hc:X.calm=true) (hi:PI X tg iter wi) (hg:PG X tg g) (hb:cO X body tb)
  (hs:∀x,foldedSetIterable iter X.env x=pure x:=by intro _;rfl):PS X (.For tg iter body [] pos) (FY wi g tb):=by
 intro pins s σ H D I h
 refine wpAny_For (aA (hi pins s σ H _ I h) λv s1 h1=>aA h1 λfT s2 h2=>?_) hs
 obtain⟨it,fp,tn,J,H2,e,I2,T,iK,f2,W,⟨m0,w0⟩,turn⟩:=h2
 subst e
 have stat:∀{H':Hp},(∀b∈fp,H' b=none)->∀b∈fp,cj X pins H' b:=λhn b hb=>⟨hn b hb,(f2 b hb).2⟩
 refine codeAny_forLoop_any (λn s'=>∃i aO H',Inv X pins aO H' s'/\tn i s'.heap/\(∀b∈fp,H' b=none)/\W i n aO H') ?_ m0 ⟨0,σ,H2,I2,iK,λb hb=>(f2 b hb).1,w0⟩
 rintro n s3 ⟨i,ee,H3,I3,jq,l7,w3⟩
 rcases turn i n ee H3 w3 with ⟨stop,qn⟩ | ⟨go,N,hN,step⟩
 ·refine wpAny_passesOwn hp (aA (T.done X rfl rfl rfl hc i pins s3 ee H3 X.xe I3 (stat l7) jq stop) λr s4 ⟨hr,I4⟩=>?_)
  subst hr
  exact wpAny_execs_nil ⟨ee,H3,I4,qn⟩
 ·refine wpAny_passesOwn hp (aA (T.item X rfl rfl rfl hc i pins s3 ee H3 X.xe I3 (stat l7) jq go) λr s4 ⟨u,hr,h4⟩=>?_)
  subst hr
  refine wpAny_passesOwn hp (aA h4 λ_ s5 ⟨x,H5,I5,r5,y5,jr,r9⟩=>?_)
  have sd:=I5.pinned (stat r9) (T.obj _ _ jr)
  refine wpAny_passesOwn hp (aA (hg _ s5 ee H5 x u _ sd r5 (step x H5 y5)) λ_ s6 ⟨Sr,H6,I6,q6⟩=>?_)
  refine wpAny_passesOwn hp (aA (hb _ s6 Sr H6 _ I6 q6) λf s7 q7=>?_)
  have again:∀{js:St} {H7:Hp},Inv X (pins++lG fp s5.heap) js H7 s7->N js H7->∃m,m<n/\∃i aO H',Inv X pins aO H' s7/\tn i s7.heap/\(∀b∈fp,H' b=none)/\W i m aO H':=λ{js H7} I7 n7=>by
   obtain⟨m',hm,w7⟩:=hN js H7 n7
   refine⟨m',hm,i+1,js,H7,I7.ij,T.keep _ _ _ jr λb hb o e=>(I7.pin (b,o) (List.mem_append_right _ (List.mem_append_right _ (n9 hb e)))).1,λb hb=>?_,w7⟩
   obtain⟨o,e,d⟩:=T.obj _ _ jr b hb
   exact(I7.pin (b,o) (List.mem_append_right _ (List.mem_append_right _ (n9 hb e)))).2.1
  cases f with
  |next=>obtain⟨js,H7,I7,n7⟩:=q7;exact again I7 n7
  |cont=>obtain⟨js,H7,I7,n7⟩:=q7;exact again I7 n7
  |brk=>obtain⟨js,H7,I7,q7⟩:=q7;exact⟨js,H7,I7.ij,q7⟩
  |ret v=>obtain⟨x7,js,H7,I7,r7,q7⟩:=q7;exact⟨x7,js,H7,I7.ij,r7,q7⟩
end
end L2
namespace L2
open PySem PySem.Spec PyProof.Rows
noncomputable abbrev R2:=V->V->Hp->VK->Prop
def aW (X:Cx) (f:Value->Value->Sem Value) (r:R2):Prop :=
 ∀(pins:List (Addr×Obj)) (s:Shared) (σ:St) (H:Hp) (x y:V) (v u:Value) (Q:VK),Inv X pins σ H s->RelV x v->RelV y u->r x y H Q ->
  wpAny (model X.prog X.w) X.A (f v u) (EP X pins σ Q) X.xe s
def se (X:Cx) (f:Value->Sem Value) (r:V->Hp->VK->Prop):Prop :=
 ∀(pins:List (Addr×Obj)) (s:Shared) (σ:St) (H:Hp) (x:V) (v:Value) (Q:VK),Inv X pins σ H s->RelV x v->r x H Q ->
  wpAny (model X.prog X.w) X.A (f v) (EP X pins σ Q) X.xe s
def bP (X:Cx) (f:Value) (r:List V->Hp->VK->Prop):Prop :=
 ∀(pins:List (Addr×Obj)) (s:Shared) (σ:St) (H:Hp) (xs:List V) (us:List Value) (Q:VK),Inv X pins σ H s->Vals xs us->r xs H Q ->
  wpAny (model X.prog X.w) X.A (call f us) (EP X pins σ Q) X.xe s
def Rj (X:Cx) (r:V->Hp->(Bool->Hp->Prop)->Prop):Prop :=
 ∀(pins:List (Addr×Obj)) (s:Shared) (σ:St) (H:Hp) (x:V) (v:Value) (Q:Bool->Hp->Prop),Inv X pins σ H s->RelV x v->r x H Q ->
  wpAny (model X.prog X.w) X.A (truthy v) (TP X pins σ Q) X.xe s
noncomputable def sg (r:R2) (ta tb:TE):TE:=fun σ H Q=>ta σ H λx H1=>tb σ H1 λy H2=>r x y H2 Q
noncomputable def Gz (r:V->Hp->VK->Prop) (ta:TE):TE:=fun σ H Q=>ta σ H λx H1=>r x H1 Q
noncomputable def rI (C:Int->Int->Prop) (g:Int->Int->V):R2:=λx y H Q=>∃i j,x=.int i/\y=.int j/\C i j/\Q (g i j) H
noncomputable def nE (g:Int->Int->V):R2:=λx y H Q=>∃i j,x=.int i/\y=.int j/\Q (g i j) H
noncomputable def rU (g:Int->V):V->Hp->VK->Prop:=λx H Q=>∃i,x=.int i/\Q (g i) H
section
variable {X:Cx} {a b c:Expr} {ta tb tc:TE} {pos:Pos}
theorem zt (ha:PE X a ta) (hb:PE X b tb) {pins:List (Addr×Obj)} {s:Shared} {σ:St} {H:Hp} {R:V->V->Hp->Prop} (I:Inv X pins σ H s)
  (h:ta σ H λx H1=>tb σ H1 λy H2=>R x y H2) {Q:Value->Shared->Prop} {f:Value->Value->Sem Value}
  (hf:∀v u s2 x y H2,Inv X pins σ H2 s2->RelV x v->RelV y u->R x y H2->wpAny (model X.prog X.w) X.A (f v u) Q X.xe s2) :
  wpAny (model X.prog X.w) X.A (eval a X.env) (λv aZ=>wpAny (model X.prog X.w) X.A (eval b X.env) (λu kN=>wpAny (model X.prog X.w) X.A (f v u) Q X.xe kN) X.xe aZ) X.xe s:=by
 refine aA (ha pins s σ H _ I h) λv s1 ⟨x,H1,I1,r1,q1⟩=>?_
 refine aA (hb pins s1 σ H1 _ I1 q1) λu s2 ⟨y,H2,I2,r2,q2⟩=>?_
 exact hf v u s2 x y H2 I2 r1 r2 q2
theorem PN {op:Operator} {r:R2} (ho:aW X (binaryOp op) r) (ha:PE X a ta) (hb:PE X b tb):PE X (.BinOp a op b pos) (sg r ta tb):=by
 intro pins s σ H Q I h
 exact wpAny_BinOp (zt ha hb I h λv u s2 x y H2 I2 rx ry q=>ho pins s2 σ H2 x y v u Q I2 rx ry q)
theorem Ff {op:UnaryOp} {r:V->Hp->VK->Prop} (ho:se X (unaryOp op) r) (ha:PE X a ta):PE X (.UnaryOp op a pos) (Gz r ta):=by
 intro pins s σ H Q I h
 exact UnaryOp_ (aA (ha pins s σ H _ I h) λv s1 ⟨x,H1,I1,r1,q1⟩=>ho pins s1 σ H1 x v Q I1 r1 q1)
theorem wj {f:Value->Value->Sem Value} {C:Int->Int->Prop} {g:Int->Int->Int}
  (rule:∀(i j:Int) (t u:Tok) (s:Shared) (Q:Value->Shared->Prop) (E:Value->Shared->Prop),C i j->Q (.int (g i j) s.toks) { s with toks:=s.toks+1 }->wpAny (model X.prog X.w) X.A (f (.int i t) (.int j u)) Q E s) :
  aW X f (rI C λi j=>.int (g i j)):=by
 intro pins s σ H x y v u Q I rx ry h
 obtain⟨i,j,rfl,rfl,hc,q⟩:=h
 obtain⟨t,rfl⟩:=rx
 obtain⟨t',rfl⟩:=ry
 exact rule i j t t' s _ _ hc ⟨.int (g i j),H,I.tok _,⟨_,rfl⟩,q⟩
theorem FZ {f:Value->Value->Sem Value} {g:Int->Int->Int}
  (rule:∀(i j:Int) (t u:Tok) (s:Shared) (Q:Value->Shared->Prop) (E:Value->Shared->Prop),Q (.int (g i j) s.toks) { s with toks:=s.toks+1 }->wpAny (model X.prog X.w) X.A (f (.int i t) (.int j u)) Q E s) :
  aW X f (nE λi j=>.int (g i j)):=by
 intro pins s σ H x y v u Q I rx ry h
 obtain⟨i,j,rfl,rfl,q⟩:=h
 obtain⟨t,rfl⟩:=rx
 obtain⟨t',rfl⟩:=ry
 exact rule i j t t' s _ _ ⟨.int (g i j),H,I.tok _,⟨_,rfl⟩,q⟩
theorem zu {f:Value->Value->Sem Value} {g:Int->Int->Bool}
  (rule:∀(i j:Int) (t u:Tok) (s:Shared) (Q:Value->Shared->Prop) (E:Value->Shared->Prop),Q (.bool (g i j)) s->wpAny (model X.prog X.w) X.A (f (.int i t) (.int j u)) Q E s) :
  aW X f (nE λi j=>.bl (g i j)):=by
 intro pins s σ H x y v u Q I rx ry h
 obtain⟨i,j,rfl,rfl,q⟩:=h
 obtain⟨t,rfl⟩:=rx
 obtain⟨t',rfl⟩:=ry
 exact rule i j t t' s _ _ ⟨.bl (g i j),H,I,rfl,q⟩
def Rk (i j:Int):Prop:=0<j/\j<1073741824
def Rl (i j:Int):Prop:=0<=j/\j<=1000000/\i.natAbs<2 ^ 64
def vC (i j:Int):Prop:=(-(2 ^ 64)<i/\i<2 ^ 64)\/(-(2 ^ 64)<j/\j<2 ^ 64)
theorem vC.ok {i j:Int} (h:vC i j):IntMulOk i j:=by
 rcases h with ⟨h1,h2⟩ | ⟨h1,h2⟩
 ·exact .of_left (intBits_le_64 h1 h2)
 ·exact .of_right (intBits_le_64 h1 h2)
theorem N8:aW X (binaryOp .Add) (nE λi j=>.int (i+j)):=FZ λ_ _ _ _ _ _ _ q=>add_int q
theorem N9:aW X (binaryOp .Sub) (nE λi j=>.int (i-j)):=FZ λ_ _ _ _ _ _ _ q=>sub_int q
theorem Oa:aW X (binaryOp .Mult) (rI vC λi j=>.int (i*j)):=wj λ_ _ _ _ _ _ _ hc q=>mul_int q hc.ok
theorem Mi:aW X (binaryOp .FloorDiv) (rI Rk λi j=>.int (i / j)):=wj λi j _ _ _ _ _ hc q=>by
 have h1:(0:Int)<j:=hc.1
 have h2:j<1073741824:=hc.2
 exact floordiv_int (by omega) (by rw[Int.fdiv_eq_ediv_of_nonneg i (by omega)];exact q) (.inl (PyProof.noPylong_small (by omega)))
theorem Ob:aW X (binaryOp .Mod) (rI (λ_ j=>0<j) λi j=>.int (i % j)):=wj λi j _ _ _ _ _ hc q=>by
 have h1:(0:Int)<j:=hc
 exact mod_int' (by omega) (by rw[Int.fmod_eq_emod_of_nonneg i (by omega)];exact q)
theorem Oc:aW X (binaryOp .Pow) (rI Rl λi j=>.int (i ^ j.toNat)):=wj λ_ _ _ _ _ _ _ hc q=>pow_int_small hc.1 hc.2.1 hc.2.2 q
theorem Ss {f:Value->Sem Value} {g:Int->Int}
  (rule:∀(i:Int) (t:Tok) (s:Shared) (Q:Value->Shared->Prop) (E:Value->Shared->Prop),Q (.int (g i) s.toks) { s with toks:=s.toks+1 }->wpAny (model X.prog X.w) X.A (f (.int i t)) Q E s) :
  se X f (rU λi=>.int (g i)):=by
 intro pins s σ H x v Q I rx h
 obtain⟨i,rfl,q⟩:=h
 obtain⟨t,rfl⟩:=rx
 exact rule i t s _ _ ⟨.int (g i),H,I.tok _,⟨_,rfl⟩,q⟩
theorem Eu:se X (unaryOp .USub) (rU λi=>.int (-i)):=Ss λ_ _ _ _ _ q=>neg_int q
end
noncomputable def zw:V->V->Bool
 | .ay,.ay=>true | .ay,.int _=>true | .int _,.ay=>true | .ay,.bl _=>true | .bl _,.ay=>true | .ay,.str _=>true | .str _,.ay=>true
 | .int _,.int _=>true | .bl _,.bl _=>true | .str _,.str _=>true | .hW _,.hW _=>true
 | .int _,.str _=>true | .str _,.int _=>true | .bl _,.str _=>true | .str _,.bl _=>true
 |_,_=>false
noncomputable def Su:R2:=λx y H Q=>zw x y=true/\Q (.bl (decide (x=y))) H
noncomputable def Sv:R2:=λx y H Q=>zw x y=true/\Q (.bl (!decide (x=y))) H
theorem DO {i j:Int}:decide (V.int i=V.int j)=(i==j):=by
 rw[Bool.eq_iff_iff]
 simp
theorem Ew {i j:Bool}:decide (V.bl i=V.bl j)=(i==j):=by
 rw[Bool.eq_iff_iff]
 simp
theorem xR {i j:Str}:decide (V.str i=V.str j)=(i==j):=by
 rw[Bool.eq_iff_iff]
 simp
theorem DP {i j:Array UInt8}:decide (V.hW i=V.hW j)=(i.toList==j.toList):=by
 rw[Bool.eq_iff_iff]
 cases i
 cases j
 simp
section
variable {X:Cx} {a b c:Expr} {ta tb tc:TE} {pos:Pos}
theorem cq {pins:List (Addr×Obj)} {σ:St} {H:Hp} {s:Shared} {Q:VK} {k k':Bool} (I:Inv X pins σ H s) (q:Q (.bl k) H) (e:k=k'):EP X pins σ Q (.bool k') s:=by
 subst e
 exact⟨.bl k,H,I,rfl,q⟩
theorem PQ:aW X (compareOp .Eq) Su:=by
 intro pins s σ H x y v u Q I rx ry h
 obtain⟨hs,q⟩:=h
 cases x with
 |ay =>
  cases rx
  cases y with
  |ay=>cases ry;exact PySem.EqNone.eq_none_none (cq I q (by simp))
  |bl j=>cases ry;exact PySem.EqNone.eq_none_bool (cq I q (by simp))
  |int j=>obtain⟨t',rfl⟩:=ry;exact PySem.EqNone.eq_none_int (cq I q (by simp))
  |str j=>obtain⟨t',rfl⟩:=ry;exact PySem.EqNone.eq_none_str (cq I q (by simp))
  |_=>exact absurd (show false=true from hs) Bool.false_ne_true
 |bl i =>
  cases rx
  cases y with
  |ay=>cases ry;exact PySem.EqNone.eq_bool_none (cq I q (by simp))
  |bl j=>cases ry;exact eq_bool (cq I q Ew)
  |str j=>obtain⟨t',rfl⟩:=ry;exact PySem.EqMixed.eq_bool_str (cq I q (by simp))
  |_=>exact absurd (show false=true from hs) Bool.false_ne_true
 |int i =>
  obtain⟨t,rfl⟩:=rx
  cases y with
  |ay=>cases ry;exact PySem.EqNone.eq_int_none (cq I q (by simp))
  |int j=>obtain⟨t',rfl⟩:=ry;exact eq_int (cq I q DO)
  |str j=>obtain⟨t',rfl⟩:=ry;exact PySem.EqMixed.eq_int_str (cq I q (by simp))
  |_=>exact absurd (show false=true from hs) Bool.false_ne_true
 |str i =>
  obtain⟨t,rfl⟩:=rx
  cases y with
  |ay=>cases ry;exact PySem.EqNone.eq_str_none (cq I q (by simp))
  |bl j=>cases ry;exact PySem.EqMixed.eq_str_bool (cq I q (by simp))
  |int j=>obtain⟨t',rfl⟩:=ry;exact PySem.EqMixed.eq_str_int (cq I q (by simp))
  |str j=>obtain⟨t',rfl⟩:=ry;exact eq_str (cq I q xR)
  |_=>exact absurd (show false=true from hs) Bool.false_ne_true
 |hW i =>
  obtain⟨t,rfl⟩:=rx
  cases y with
  |hW j=>obtain⟨t',rfl⟩:=ry;exact PySem.W.eq_bytes (cq I q DP)
  |_=>exact absurd (show false=true from hs) Bool.false_ne_true
 |_=>cases y<;>exact absurd (show false=true from hs) Bool.false_ne_true
theorem PR:aW X (compareOp .NotEq) Sv:=by
 intro pins s σ H x y v u Q I rx ry h
 obtain⟨hs,q⟩:=h
 cases x with
 |ay =>
  cases rx
  cases y with
  |ay=>cases ry;exact PySem.EqNone.ne_none_none (cq I q (by simp))
  |bl j=>cases ry;exact PySem.EqNone.ne_none_bool (cq I q (by simp))
  |int j=>obtain⟨t',rfl⟩:=ry;exact PySem.EqNone.ne_none_int (cq I q (by simp))
  |str j=>obtain⟨t',rfl⟩:=ry;exact PySem.EqNone.ne_none_str (cq I q (by simp))
  |_=>exact absurd (show false=true from hs) Bool.false_ne_true
 |bl i =>
  cases rx
  cases y with
  |ay=>cases ry;exact PySem.EqNone.ne_bool_none (cq I q (by simp))
  |bl j=>cases ry;exact ne_bool (cq I q (congrArg not Ew))
  |str j=>obtain⟨t',rfl⟩:=ry;exact PySem.EqMixed.ne_bool_str (cq I q (by simp))
  |_=>exact absurd (show false=true from hs) Bool.false_ne_true
 |int i =>
  obtain⟨t,rfl⟩:=rx
  cases y with
  |ay=>cases ry;exact PySem.EqNone.ne_int_none (cq I q (by simp))
  |int j=>obtain⟨t',rfl⟩:=ry;exact ne_int (cq I q (congrArg not DO))
  |str j=>obtain⟨t',rfl⟩:=ry;exact PySem.EqMixed.ne_int_str (cq I q (by simp))
  |_=>exact absurd (show false=true from hs) Bool.false_ne_true
 |str i =>
  obtain⟨t,rfl⟩:=rx
  cases y with
  |ay=>cases ry;exact PySem.EqNone.ne_str_none (cq I q (by simp))
  |bl j=>cases ry;exact PySem.EqMixed.ne_str_bool (cq I q (by simp))
  |int j=>obtain⟨t',rfl⟩:=ry;exact PySem.EqMixed.ne_str_int (cq I q (by simp))
  |str j=>obtain⟨t',rfl⟩:=ry;exact ne_str (cq I q (congrArg not xR))
  |_=>exact absurd (show false=true from hs) Bool.false_ne_true
 |hW i =>
  obtain⟨t,rfl⟩:=rx
  cases y with
  |hW j=>obtain⟨t',rfl⟩:=ry;exact PySem.W.ne_bytes (cq I q (congrArg not DP))
  |_=>exact absurd (show false=true from hs) Bool.false_ne_true
 |_=>cases y<;>exact absurd (show false=true from hs) Bool.false_ne_true
theorem PU:aW X (compareOp .LtE) (nE λi j=>.bl (decide (i<=j))):=zu λ_ _ _ _ _ _ _ q=>le_int q
theorem PV:aW X (compareOp .Gt) (nE λi j=>.bl (decide (j<i))):=zu λ_ _ _ _ _ _ _ q=>gt_int q
theorem PX:aW X (compareOp .GtE) (nE λi j=>.bl (decide (j<=i))):=zu λ_ _ _ _ _ _ _ q=>ge_int q
theorem bU (b:Expr) {op:CmpOp} (h:op≠.In:=by decide) (h2:op≠.NotIn:=by decide):behindInMarks op b=false:=by
 have e1:(op==CmpOp.In)=false:=by cases op<;>first|rfl|exact absurd rfl h
 have e2:(op==CmpOp.NotIn)=false:=by cases op<;>first|rfl|exact absurd rfl h2
 cases b<;>simp[behindInMarks,e1,e2]
theorem Mj {op:CmpOp} {r:R2} (ho:aW X (compareOp op) r) (ha:PE X a ta) (hb:PE X b tb) (hm:behindInMarks op b=false):PE X (.Compare a [op] [b] pos) (sg r ta tb):=by
 intro pins s σ H Q I h
 exact wpAny_Compare1 (zt ha hb I h λv u s2 x y H2 I2 rx ry q=>ho pins s2 σ H2 x y v u Q I2 rx ry q) hm
noncomputable def qJ (t:TE):TT:=fun σ H Q=>t σ H λx H'=>∃k,x=.bl k/\Q k H'
theorem Ml {op:CmpOp} {r:R2} (ho:aW X (compareOp op) r) (ha:PE X a ta) (hb:PE X b tb) (hm:behindInMarks op b=false):PT X (.Compare a [op] [b] pos) (qJ (sg r ta tb)):=by
 intro pins s σ H Q I h
 refine wpAny_isTrue_Compare1 (aA (ha pins s σ H _ I h) λv s1 ⟨x,H1,I1,r1,q1⟩=>aA (hb pins s1 σ H1 _ I1 q1) λu s2 ⟨y,H2,I2,r2,q2⟩ =>
  aA (ho pins s2 σ H2 x y v u _ I2 r1 r2 q2) λc s3 ⟨z,H3,I3,r3,k,e,q3⟩=>?_) hm
 subst e
 cases r3
 exact wpAny_truthy_bool ⟨H3,I3,q3⟩
noncomputable def yp (r r':R2) (ta tb tc:TE):TE:=fun σ H Q=>ta σ H λx H1=>tb σ H1 λy H2=>r x y H2 λz H3=>∃k,z=.bl k /\
 (if k=true then tc σ H3 λw' H4=>r' y w' H4 Q else Q (.bl false) H3)
theorem KJ {op fU:CmpOp} {r r':R2} (ho:aW X (compareOp op) r) (dP:aW X (compareOp fU) r') (ha:PE X a ta) (hb:PE X b tb) (hc:PE X c tc)
  (hm:lastMarks [op,fU] [b,c]=false:=by with_unfolding_all rfl):PE X (.Compare a [op,fU] [b,c] pos) (yp r r' ta tb tc):=by
 intro pins s σ H Q I h
 refine Compare_chain (aA (ha pins s σ H _ I h) λv s1 ⟨x,H1,I1,r1,q1⟩=>chain_link (aA (hb pins s1 σ H1 _ I1 q1) λu s2 ⟨y,H2,I2,r2,q2⟩ =>
  aA (ho pins s2 σ H2 x y v u _ I2 r1 r2 q2) λd s3 ⟨z,H3,I3,r3,k,e,q3⟩=>?_)) hm
 subst e
 cases r3
 refine wpAny_truthy_bool ?_
 cases k with
 |false=>exact ite_ff ⟨.bl false,H3,I3,rfl,q3⟩
 |true=>exact ite_tt (chain_last (aA (hc pins s3 σ H3 _ I3 q3) λw' s4 ⟨z',H4,I4,r4,q4⟩=>dP pins s4 σ H4 y z' u w' Q I4 r2 r4 q4))
theorem KL {op fU:CmpOp} {r r':R2} (ho:aW X (compareOp op) r) (dP:aW X (compareOp fU) r') (ha:PE X a ta) (hb:PE X b tb) (hc:PE X c tc)
  (hm:lastMarks [op,fU] [b,c]=false:=by with_unfolding_all rfl):PT X (.Compare a [op,fU] [b,c] pos) (qJ (yp r r' ta tb tc)):=by
 intro pins s σ H Q I h
 refine isTrue_chain (aA (ha pins s σ H _ I h) λv s1 ⟨x,H1,I1,r1,q1⟩=>test_link (aA (hb pins s1 σ H1 _ I1 q1) λu s2 ⟨y,H2,I2,r2,q2⟩ =>
  aA (ho pins s2 σ H2 x y v u _ I2 r1 r2 q2) λd s3 ⟨z,H3,I3,r3,k,e,q3⟩=>?_)) hm
 subst e
 cases r3
 refine wpAny_truthy_bool ?_
 cases k with
 |false =>
  obtain⟨k',e',q'⟩:=q3
  cases e'
  exact ite_ff ⟨H3,I3,q'⟩
 |true =>
  refine ite_tt (test_last (aA (hc pins s3 σ H3 _ I3 q3) λw' s4 ⟨z',H4,I4,r4,q4⟩=>aA (dP pins s4 σ H4 y z' u w' _ I4 r2 r4 q4) λd' s5 ⟨z2,H5,I5,r5,k2,e2,q5⟩=>?_))
  subst e2
  cases r5
  exact wpAny_truthy_bool ⟨H5,I5,q5⟩
def rj (K:Frag) (x:V) (H:Hp) (k:Bool):Prop :=
 match x with
 | .ay=>k=false
 | .bl b=>k=b
 | .int i=>k=(i != 0)
 | .str y=>y.length<=sizeLine/\k=((y.length:Int) != 0)
 | .hW y=>y.size<=sizeLine/\k=((y.size:Int) != 0)
 | .ref p=>(∃xs,bx K H p xs/\k=!xs.isEmpty)\/(∃xs,aP K H p xs/\k=!xs.isEmpty)\/∃ai,H p=some (.dK ai)/\k=!ai.isEmpty
 |_=>False
theorem IT {κ:Type} {ai:List (κ×V)} {vs:List (κ×Value)} (r:KV ai vs):(!vs.isEmpty)=!ai.isEmpty:=by
 cases r<;>rfl
theorem Cs {xs:List V} {its:List Value} (r:Vals xs its):(!its.toArray.isEmpty)=!xs.isEmpty:=by
 cases r<;>simp
theorem mP:(sizeLine:Nat)<2 ^ 63:=by rw[sizeLine_eq];decide
theorem Od:Rj X (λx H Q=>∃k,rj X.K x H k/\Q k H):=by
 intro pins s σ H x v Q I rx h
 obtain⟨k,e,q⟩:=h
 have hl:=mP
 have hs:sizeLine=16777216:=sizeLine_eq
 cases x with
 |ay =>
  cases rx
  have e':k=false:=e
  subst e'
  exact truthy_none ⟨H,I,q⟩
 |bl b =>
  cases rx
  have e':k=b:=e
  subst e'
  exact wpAny_truthy_bool ⟨H,I,q⟩
 |int i =>
  obtain⟨t,rfl⟩:=rx
  have e':k=(i != 0):=e
  subst e'
  exact PySem.P.truthy_int ⟨H,I,q⟩
 |str y =>
  obtain⟨t,rfl⟩:=rx
  obtain⟨hy,e'⟩:y.length<=sizeLine/\k=((y.length:Int) != 0):=e
  subst e'
  exact PySem.P.truthy_str (by omega) ⟨H,I.tok _,q⟩
 |hW y =>
  obtain⟨t,rfl⟩:=rx
  obtain⟨hy,e'⟩:y.size<=sizeLine/\k=((y.size:Int) != 0):=e
  subst e'
  exact PySem.W.truthy_bytes (by omega) ⟨H,I.tok _,q⟩
 |ref p =>
  cases rx
  have e':(∃xs,bx X.K H p xs/\k=!xs.isEmpty)\/(∃xs,aP X.K H p xs/\k=!xs.isEmpty)\/∃ai,H p=some (.dK ai)/\k=!ai.isEmpty:=e
  rcases e' with ⟨xs,hx,e'⟩ | ⟨xs,hx,e'⟩ | ⟨ai,hx,e'⟩
  ·subst e'
   obtain⟨its,r,pl,hz⟩:=I.list hx
   have hlen:=r.length
   exact wpAny_truthy_list pl.isList (by simp only[List.size_toArray];omega) ⟨H,I.tok _,by rw[Cs r];exact q⟩
  ·subst e'
   obtain⟨its,r,pl,hz⟩:=I.tuple hx
   have hlen:=r.length
   exact truthy_tuple pl (by simp only[List.size_toArray];omega) ⟨H,I.tok _,by rw[Cs r];exact q⟩
  ·subst e'
   obtain⟨hz,hS,vs,r,m⟩:ai.length<=sizeLine/\(p==sysModules)=false/\∃vs,KV ai vs/\s.heap.DictOf (cK X.prog X.w) p vs:=I.au p _ hx
   have hlen:ai.length=vs.length:=Paired.length r
   exact wpAny_truthy_dict hS m (by omega) ⟨H,I.tok _,by rw[IT r];exact q⟩
 |_=>exact(show False from e).elim
theorem KN (ha:PE X a ta) (he:∀whole,isTrue a X.env whole=(do let v <- whole;standAt a.pos;holding [v] (truthy v))) :
  PT X a (fun σ H Q=>ta σ H λx H'=>∃k,rj X.K x H' k/\Q k H'):=by
 intro pins s σ H Q I h
 exact isTrue_plain (aA (ha pins s σ H _ I h) λv s1 ⟨x,H1,I1,r1,q1⟩=>Od pins s1 σ H1 x v Q I1 r1 q1) (he _)
theorem IU:aW X (binaryOp .Add) (λx y H Q=>∃i j,x=.str i/\y=.str j/\i.length+j.length<=sizeLine/\Q (.str (i++j)) H):=by
 intro pins s σ H x y v u Q I rx ry h
 obtain⟨i,j,rfl,rfl,hz,q⟩:=h
 obtain⟨t,rfl⟩:=rx
 obtain⟨t',rfl⟩:=ry
 exact add_str (λt' tk=>⟨.str (i++j),H,I.tok _,⟨_,rfl⟩,q⟩) hz
theorem vals1 {x:V} {us:List Value} (r:Vals [x] us):∃u,us=[u]/\RelV x u:=by
 cases r with
 |cons r1 r2=>cases r2;exact⟨_,rfl,r1⟩
theorem vals2 {x y:V} {us:List Value} (r:Vals [x,y] us):∃u w',us=[u,w']/\RelV x u/\RelV y w':=by
 cases r with
 |cons r1 r2 =>
  cases r2 with
  |cons r3 r4=>cases r4;exact⟨_,_,rfl,r1,r3⟩
theorem JL (hc:X.calm=true):bP X (.builtin "max") (λxs H Q=>∃i j,xs=[.int i,.int j]/\Q (.int (if j > i then j else i)) H):=by
 intro pins s σ H xs us Q I r h
 obtain⟨i,j,rfl,q⟩:=h
 obtain⟨u,w',rfl,⟨t,rfl⟩,⟨t',rfl⟩⟩:=vals2 r
 refine max_two_ints (I.ok.hd hc) λh' tk k=>⟨_,H,I.kept k,?_,q⟩
 by_cases hj:j > i
 ·rw[if_pos hj,if_pos hj];exact⟨_,rfl⟩
 ·rw[if_neg hj,if_neg hj];exact⟨_,rfl⟩
theorem JM (hc:X.calm=true):bP X (.builtin "min") (λxs H Q=>∃i j,xs=[.int i,.int j]/\Q (.int (if j<i then j else i)) H):=by
 intro pins s σ H xs us Q I r h
 obtain⟨i,j,rfl,q⟩:=h
 obtain⟨u,w',rfl,⟨t,rfl⟩,⟨t',rfl⟩⟩:=vals2 r
 refine min_two_ints (I.ok.hd hc) λh' tk k=>⟨_,H,I.kept k,?_,q⟩
 by_cases hj:j<i
 ·rw[if_pos hj,if_pos hj];exact⟨_,rfl⟩
 ·rw[if_neg hj,if_neg hj];exact⟨_,rfl⟩
end
end L2
namespace L2
open PySem PySem.Spec PyProof.Rows
structure Vb (h:Heap) (x dx C:Addr) (mA:Str->Option Value):Prop where
 obj:h.get? x=some (PySem.W.instObj C dx)
 ns:h.Ns1 dx mA
 ne:dx≠x
section
variable {prog:Program} {w:World} {A:Around} {E:Value->Shared->Prop} {s:Shared} {K:Frag} {x dx C f:Addr} {mA:Str->Option Value} {name:Str} {v:Value}
end
theorem jQ.some_of {v:V} {o:Option Value} (r:jQ (some v) o):∃u,o=some u/\RelV v u:=by
 cases o with
 |none=>exact(show False from r).elim
 |some u=>exact⟨u,rfl,r⟩
section
variable {P:Program} {w:World} {H H':Hp} {h h':Heap} {a C dx:Addr} {fs Sn:List (Str×V)}
end
structure Sw (K:Frag) (C:Addr):Prop where
 pg:PySem.W.plainGet K C Str.empty=true
 hd:PySem.W.hasDictIn K C=true
 po:PySem.W.plainOver K C=true
 sa:PySem.W.findIn K (.ref C) "__setattr__"=some (some (.builtin "object.__setattr__"))
structure Vl (K:Frag) (C:Addr) (f:Str) (v:V) (u:Value):Prop where
 at_:PySem.W.findIn K (.ref C) f=some (some u)
 rel:RelV v u
 get:PySem.W.specialIn K u "__get__"=some none
 cp:PySem.W.copiedNames.contains f=false
structure Meth (K:Frag) (C:Addr) (m:Str) (f:Addr):Prop where
 at_:PySem.W.findIn K (.ref C) m=some (some (.ref f))
 fn:PySem.W.isFn K (.ref f)=true
 kp:PySem.W.keepIn K (.ref f)=true
section
variable {X:Cx} {pins:List (Addr×Obj)} {σ:St} {H:Hp} {s:Shared} {a C dx:Addr} {fs:List (Str×V)} {f:Str} {v:V} {A:Around} {E:Value->Shared->Prop}
end
section
variable {X:Cx} {o e value:Expr} {f:Str} {pos pos' rl:Pos} {ta tv:TE}
end
section
variable {X:Cx} {pins:List (Addr×Obj)} {σ:St} {H:Hp} {s:Shared} {A:Around} {E:Value->Shared->Prop} {Q:Value->Shared->Prop} {c:Value} {b:Bool}
inductive jg (K:Frag) (H:Hp):V->Value->Prop where
 |ay:jg K H .ay (.type "NoneType")
 |bl (x:Bool):jg K H (.bl x) (.type "bool")
 |int (i:Int):jg K H (.int i) (.type "int")
 |str (x:Str):jg K H (.str x) (.type "str")
 |rS (x:UInt64):jg K H (.rS x) (.type "float")
 |lst {a:Addr} {xs:List V} (e:H a=some (.lst xs)):jg K H (.ref a) (.type "list")
 |cW {a:Addr} {o:Obj} {xs:List V} (e:H a=some (.cW o (.lst xs))):jg K H (.ref a) (.type "list")
 |tup {a:Addr} {xs:List V} (e:H a=some (.tup xs)):jg K H (.ref a) (.type "tuple")
 |dK {a:Addr} {ai:List (Key×V)} (e:H a=some (.dK ai)):jg K H (.ref a) (.type "dict")
 |dT {a:Addr} {ai:List (List Key×V)} (e:H a=some (.dT ai)):jg K H (.ref a) (.type "dict")
 |ins {a C dx:Addr} {fs:List (Str×V)} (e:H a=some (.ins C dx fs)) (cl:Sw K C) (ha:PySem.W.findIn K (.ref C) "__class__"=some (some (.builtin "object.__class__")))
   (hn:PySem.W.specialIn K (.builtin "object.__class__") "__get__"=some (some (.builtin "getset_descriptor.__get__"))) (Vm:PySem.W.takesIn K (.builtin "object.__class__")=some true)
   (hm:PySem.W.mroIn K C (.type "object")=some true):jg K H (.ref a) (.ref C)
end
end L2
namespace L2
open PySem PySem.Spec PyProof.Rows
structure bV (k:Nat) (A:Around):Prop where
 hd:A.handled=none
 dp:A.depth+3*k+5<recursionLimit
 un:A.units+16*k+200<cLine
 gd:A.guards=some []
theorem bV.mono {j k:Nat} {A:Around} (r:bV k A) (h:j<=k):bV j A:=⟨r.hd,by have:=r.dp;omega,by have:=r.un;omega,r.gd⟩
theorem bV.deeper {k:Nat} {A:Around} (r:bV (k+1) A) (env:Env):bV k (A.deeper env) :=
 ⟨r.hd,by have:=r.dp;show A.depth+1+3*k+5 < _;omega,by have:=r.un;show A.units+3+16*k+200 < _;omega,r.gd⟩
theorem bV.depth {k:Nat} {A:Around} (r:bV k A):A.depth<recursionLimit:=by have:=r.dp;omega
noncomputable def Rm:TA:=λ_ H Q=>Q [] H
noncomputable def PY (ta:TE) (tr:TA):TA:=fun σ H Q=>ta σ H λx H1=>tr σ H1 λxs H2=>Q (x::xs) H2
section
variable {X:Cx} {e:Expr} {es:List Expr} {te:TE} {t:TA} {pos:Pos}
theorem kC:PA X [] Rm:=λ_ _ _ _ H Q I h=>Calls.spliced_nil ⟨[],H,I,.nil,h⟩
theorem iU (ha:PE X e te) (hr:PA X es t) (hs:starEach (e::es) X.env=(false,eval e X.env)::starEach es X.env:=by rfl):PA X (e::es) (PY te t):=by
 intro pos pins s σ H Q I h
 rw[hs]
 show wpAny _ _ (spliced ((false,eval e X.env)::backTo pos (starEach es X.env))) _ _ s
 refine Calls.spliced_cons (aA (ha pins s σ H _ I h) λu s1 ⟨x,H1,I1,r1,q1⟩=>?_)
 exact aA (hr pos pins s1 σ H1 _ I1 q1) λus s2 ⟨xs,H2,I2,r2,q2⟩=>⟨x::xs,H2,I2,.cons r1 r2,q2⟩
noncomputable def Rn (t:TA):TE:=fun σ H Q=>t σ H λxs H1=>xs.length<=sizeLine/\∀p,H1 p=none->Q (.ref p) (upd H1 p (.tup xs))
noncomputable def Ro (t:TA):TE:=fun σ H Q=>t σ H λxs H1=>xs.length<=sizeLine/\∀p,H1 p=none->Q (.ref p) (upd H1 p (.lst xs))
theorem Oe {x1} (h:PA X es t):PE X (.Tuple es x1 pos) (Rn t):=by
 intro pins s σ H Q I hq
 refine wpAny_Tuple_spliced (aA (h pos pins s σ H _ I hq) λus s1 ⟨xs,H1,I1,r,z,q⟩=>⟨by rw[<- r.length];exact z,?_⟩)
 have hf:H1 s1.heap.objs.size=none:=I1.au.fresh (Nat.le_refl _)
 refine⟨.ref s1.heap.objs.size,upd H1 s1.heap.objs.size (.tup xs),I1.laid (t':=s1.toks) (λb u e=>Heap.get?_push_of_some _ e) (Nat.le_refl _) ?_,rfl,q _ hf⟩
 exact⟨z,us,r,⟨_,Heap.get?_push_size _ rfl,rfl,_,rfl⟩⟩
theorem Ey (h:PA X es t):PE X (.List es pos) (Ro t):=by
 intro pins s σ H Q I hq
 refine wpAny_List_spliced (aA (h pos pins s σ H _ I hq) λus s1 ⟨xs,H1,I1,r,z,q⟩=>⟨by rw[<- r.length];exact z,?_⟩)
 have hf:H1 s1.heap.objs.size=none:=I1.au.fresh (Nat.le_refl _)
 refine⟨.ref s1.heap.objs.size,upd H1 s1.heap.objs.size (.lst xs),I1.laid (t':=s1.toks) (λb u e=>Heap.get?_push_of_some _ e) (Nat.le_refl _) ?_,rfl,q _ hf⟩
 exact⟨z,us,0,r,Heap.get?_push_size _ rfl⟩
end
noncomputable abbrev Sp:=List V->Hp->VK->XK->Prop
noncomputable abbrev iL:=List Env->Hp->Shared->XK->Value->Shared->Prop
structure vD (P:Program) (w:World) (K:Frag) (mg:Str->Option Value) (base:Heap) (A:Around) (outer:List Env) (s:Shared) (H:Hp):Prop where
 frames:A.frames=some outer
 mod:Mod K mg base
 bs:∀b o,base.get? b=some o->s.heap.get? b=some o/\H b=none
 hZ:base.objs.size<=s.heap.objs.size
 gW:s.heap.FunFrames base outer
 l6:∀b∈fu outer,H b=none
 au:bK P w H s.heap
 bare:AllBare s.gens
def CE (outer:List Env) (P:Program) (w:World) (H:Hp) (s:Shared) (Q:VK) (u:Value) (s':Shared):Prop :=
 ∃v H',s'.os=s.os/\AllBare s'.gens/\Un (fu outer) [] H H' s.heap s'.heap/\bK P w H' s'.heap/\RelV v u/\Q v H'
def CR (CX:iL) (outer:List Env) (P:Program) (w:World) (H:Hp) (s:Shared) (Q:VK) (E:XK) (r:Result) (s':Shared):Prop :=
 match r with
 | .ok (.ret u)=>CE outer P w H s Q u s'
 | .ok _=>False
 | .error e=>CX outer H s E e s'
structure bg (P:Program) (w:World) (K:Frag) (mg:Str->Option Value) (base:Heap) (CX:iL) (k:Nat) (f:Addr) (fd:FuncData) (ps:List Str) (sp:Sp):Prop where
 len:∀vs H Q E,sp vs H Q E->vs.length=ps.length
 run:∀(A:Around) (outer:List Env) (s:Shared) (H:Hp) (args:Args) (us:List Value) (vs:List V) (Q:VK) (E:XK),bV k A->vD P w K mg base A outer s H->BindsTo s fd args (ps.zip us)->Vals vs us->sp vs H Q E ->
  codeAny (model P w) A (.call (.ref f) args) (CR CX outer P w H s Q E) s
theorem bg.imp {P:Program} {w:World} {K:Frag} {mg:Str->Option Value} {base:Heap} {CX:iL} {k:Nat} {f:Addr} {fd:FuncData} {ps:List Str} {sp GA:Sp} (F:bg P w K mg base CX k f fd ps sp)
  (h:∀vs H Q E,GA vs H Q E->sp vs H Q E):bg P w K mg base CX k f fd ps GA :=
 ⟨λvs H Q E q=>F.len vs H Q E (h _ _ _ _ q),λA outer s H args us vs Q E hr he hb hv hs=>F.run A outer s H args us vs Q E hr he hb hv (h _ _ _ _ hs)⟩
section
variable {X:Cx} {pins:List (Addr×Obj)} {σ:St} {H:Hp} {s s':Shared}
theorem Inv.lR (I:Inv X pins σ H s):vD X.prog X.w X.K X.mg X.base X.A X.stack s H :=
 ⟨I.ok.frames,I.ok.mod,I.bs,Nat.le_trans I.ok.hZ I.sz,I.stack,I.xP,I.au,I.bare⟩
theorem Inv.after {Q:VK} {u:Value} (I:Inv X pins σ H s) (h:CE X.stack X.prog X.w H s Q u s'):EP X pins σ Q u s':=by
 obtain⟨v,H',os,bare,un,au,r,q⟩:=h
 obtain⟨hh,g,d,t,Ah⟩:=s'
 obtain rfl:Ah=s.os:=os
 exact⟨v,H',I.call (h':=hh) (g':=g) (d':=d) (t':=t) (ch:=[]) un au bare (λb z=>absurd z (by simp)),r,q⟩
end
noncomputable def PZ (sp:Sp) (aq:List V) (E:XK) (t:TA):TE:=fun σ H Q=>t σ H λvs H1=>sp (vs++aq) H1 Q E
def Binds (K:Frag) (fd:FuncData) (ps:List Str) (ds:List Value):Prop :=
 ∀(s:Shared) (us:List Value),K.In s.heap->(us++ds).length=ps.length->BindsTo s fd ⟨us,[]⟩ (ps.zip (us++ds))
theorem Binds.all {K:Frag} {fd:FuncData} {ps:List Str} (h:∀us:List Value,us.length=ps.length->bindArgs fd ⟨us,[]⟩=pure (ps.zip us)):Binds K fd ps []:=λs us _ hl=>by
 rw[List.append_nil] at hl |-
 exact .of_eq (h us hl)
def Passes (CX:iL) (X:Cx) (E:XK):Prop:=∀(pins:List (Addr×Obj)) (σ:St) (H:Hp) (s:Shared) (e:Value) (s':Shared),Inv X pins σ H s->CX X.stack H s E e s'->X.xe e s'
section
variable {X:Cx} {CX:iL} {k:Nat} {f C:Addr} {fd:FuncData} {ps:List Str} {sp:Sp} {aq:List V} {ds:List Value} {E:XK} {x m:Str} {p pos apos:Pos} {e o:Expr} {es:List Expr} {ta:TE} {t:TA}
theorem Of {pins:List (Addr×Obj)} {σ:St} {H:Hp} {s:Shared} {Q:VK} {us:List Value} {vs:List V} (F:bg X.prog X.w X.K X.mg X.base CX k f fd ps sp) (hr:bV k X.A) (hb:Binds X.K fd ps ds) (hd:Vals aq ds) (hx:Passes CX X E)
  (I:Inv X pins σ H s) (r:Vals vs us) (h:sp (vs++aq) H Q E):wpAny (model X.prog X.w) X.A (call (.ref f) us) (EP X pins σ Q) X.xe s:=by
 have r2:Vals (vs++aq) (us++ds):=r.append hd
 have hl:(us++ds).length=ps.length:=by rw[<- r2.length];exact F.len _ _ _ _ h
 refine wpAny_call (codeAny_mono (F.run X.A X.stack s H ⟨us,[]⟩ (us++ds) (vs++aq) Q E hr I.lR (hb s us I.pA hl) r2 h) λr s' hq=>?_)
 cases r with
 |error e=>exact hx pins σ H s e s' I hq
 |ok fl =>
  cases fl with
  |ret u=>exact I.after hq
  |next=>exact False.elim hq
  |brk=>exact False.elim hq
  |cont=>exact False.elim hq
theorem Mm (F:bg X.prog X.w X.K X.mg X.base CX k f fd ps sp) (hr:bV k X.A) (hg:Gl X x) (hm:X.mg x=some (.ref f)) (hk:PySem.W.keepIn X.K (.ref f)=true) (hb:Binds X.K fd ps ds) (hd:Vals aq ds) (hx:Passes CX X E)
  (ha:PA X (e::es) t) (jt:(x==("__debug__":Str))=false:=by decide) (he:starEach (e::es) X.env=(false,eval e X.env)::starEach es X.env:=by rfl) (bX:(backTo pos (starEach es X.env)).any (·.1)=false:=by rfl) :
  PE X (.Call (.Name x p) (e::es) [] pos) (PZ sp aq E t):=by
 intro pins s σ H Q I h
 refine wpAny_Call_Name_kw (DN I hg hm ?_ jt)
 refine PySem.W.callWith_K (h₀:=X.base) I.ok.mod.v7 hk (aA (ha pos pins s σ H _ I h) λus s1 ⟨vs,H1,I1,r,q⟩=>⟨I1.pA,?_⟩) he bX
 exact Of F hr hb hd hx I1 r q
structure Mk (K:Frag) (C f:Addr):Prop where
 makes:PySem.W.makesIn K C=true
 init:PySem.W.findIn K (.ref C) "__init__"=some (some (.ref f))
 fn:PySem.W.isFn K (.ref f)=true
 kp:PySem.W.keepIn K (.ref C)=true
end
section
variable {X:Cx} {CX:iL} {k:Nat} {f C:Addr} {fd:FuncData} {ps ks:List Str} {sp:Sp} {E:XK} {x m:Str} {p pos apos zx:Pos} {e o:Expr} {es:List Expr} {Vn:List Keyword} {te ta:TE} {t tk:TA} {nm:Option Str}
structure U8 (K:Frag) (fd:FuncData) (ps ks:List Str) (g:List Value->List Value->List Value) (gV:List V->List V->List V):Prop where
 to:∀(s:Shared) (us ws:List Value),K.In s.heap->(g us ws).length=ps.length->BindsTo s fd ⟨us,ks.zip ws⟩ (ps.zip (g us ws))
 rel:∀{vs:List V} {us:List Value} {zs:List V} {ws:List Value},Vals vs us->Vals zs ws->Vals (gV vs zs) (g us ws)
variable {g:List Value->List Value->List Value} {gV:List V->List V->List V}
end
structure bO (N P:List Str) (sc:Scope):Prop where
 kind:sc.kind=.function
 co:sc.isCoroutine=false
 gen:sc.isGenerator=false
 nd:N.Nodup
 pre:N.take P.length=P
 par:∀x∈P,sc.names.lookup x=some .local\/sc.names.lookup x=some .cell
 Og:∀y∈sc.names,y.2≠.free
theorem CM {kindOf:Str->Option NameKind} {x:Str}:∀{binds:List (Str×Value)} {m:Str->Option Value},(∀v,(x,v)∉binds)->bindL kindOf binds m x=m x
 | [],_,_=>rfl
 |(n,v)::r,m,h=>by
  unfold bindL
  rw[CM λw hw=>h w (List.mem_cons_of_mem _ hw)]
  split
  ·have:x≠n:=by rintro rfl;exact h v List.mem_cons_self
   simp[this]
  ·rfl
theorem CN {kindOf:Str->Option NameKind} {x:Str}:∀{binds:List (Str×Value)} {m:Str->Option Value},(∀v,(x,v)∉binds)->bindC kindOf binds m x=m x
 | [],_,_=>rfl
 |(n,v)::r,m,h=>by
  unfold bindC
  rw[CN λw hw=>h w (List.mem_cons_of_mem _ hw)]
  split
  ·rfl
  ·have:x≠n:=by rintro rfl;exact h v List.mem_cons_self
   simp[this]
theorem CO {kindOf:Str->Option NameKind} {x:Str} {v:Value}:∀{P:List Str} {vs:List Value} {i:Nat} {m:Str->Option Value},P.Nodup->P[i]?=some x->vs[i]?=some v->kindOf x=some .local ->
  bindL kindOf (P.zip vs) m x=some v
 | [],_,_,_,_,h,_,_=>by simp at h
 |_::_,[],_,_,_,_,h,_=>by simp at h
 |p::P,w::vs,0,m,nd,h1,h2,hk=>by
  simp at h1 h2;subst h1;subst h2
  show bindL kindOf ((p,w)::P.zip vs) m p=_
  unfold bindL
  rw[CM λv hv=>(List.nodup_cons.mp nd).1 (List.of_mem_zip hv).1,if_pos hk]
  simp
 |p::P,w::vs,i+1,m,nd,h1,h2,hk=>by
  show bindL kindOf ((p,w)::P.zip vs) m x=_
  unfold bindL
  exact CO (i:=i) (List.nodup_cons.mp nd).2 (by simpa using h1) (by simpa using h2) hk
theorem CP {kindOf:Str->Option NameKind} {x:Str} {v:Value}:∀{P:List Str} {vs:List Value} {i:Nat} {m:Str->Option Value},P.Nodup->P[i]?=some x->vs[i]?=some v->kindOf x≠some .local ->
  bindC kindOf (P.zip vs) m x=some v
 | [],_,_,_,_,h,_,_=>by simp at h
 |_::_,[],_,_,_,_,h,_=>by simp at h
 |p::P,w::vs,0,m,nd,h1,h2,hk=>by
  simp at h1 h2;subst h1;subst h2
  show bindC kindOf ((p,w)::P.zip vs) m p=_
  unfold bindC
  rw[CN λv hv=>(List.nodup_cons.mp nd).1 (List.of_mem_zip hv).1,if_neg hk]
  simp
 |p::P,w::vs,i+1,m,nd,h1,h2,hk=>by
  show bindC kindOf ((p,w)::P.zip vs) m x=_
  unfold bindC
  exact CP (i:=i) (List.nodup_cons.mp nd).2 (by simpa using h1) (by simpa using h2) hk
noncomputable def start (N:List Str) (vs:List V):St:=vs.map some++List.replicate (N.length-vs.length) none
noncomputable def m7 (CX:iL) (P:Program) (w:World) (K:Frag) (mg:Str->Option Value) (base:Heap) (N:List Str) (qual:Str) (scope:Scope) (f:Addr) (cd:Value) (A:Around) (outer:List Env) (s:Shared) (H:Hp) (E:XK):Cx where
 prog:=P
 w:=w
 K:=K
 mg:=mg
 base:=base
 A:=A.deeper (envOfC qual scope s.heap.objs.size f cd)
 N:=N
 cF:=s
 qZ:=H
 env:=envOfC qual scope s.heap.objs.size f cd
 outer:=outer
 stack:=envOfC qual scope s.heap.objs.size f cd::outer
 ex:=[]
 calm:=true
 fn:=λ_=>true
 pn:=[]
 xe:=λe s'=>wpAny (model P w) (A.deeper (envOfC qual scope s.heap.objs.size f cd)) (leaving (envOfC qual scope s.heap.objs.size f cd) e) (λ_ pB=>CX outer H s E e pB) (λe' pB=>CX outer H s E e' pB) s'
theorem De {sc:Scope} {n:Nat} {x:Str} (h:sc.names.lookup x=some .cell):∃c,(cellsFrom n sc.names []).lookup x=some c:=by
 have q:=PySem.W.cellsFrom_some sc.names n [] (.inl h)
 exact Option.isSome_iff_exists.mp q
theorem JN {CX:iL} {P:Program} {w:World} {K:Frag} {mg:Str->Option Value} {base:Heap} {N ps:List Str} {qual:Str} {scope:Scope} {f:Addr} {cd:Value} {A:Around} {outer:List Env} {s s1:Shared} {H:Hp} {E:XK} {us:List Value} {vs:List V}
  (S:bO N ps scope) (hd:A.handled=none) (e0:vD P w K mg base A outer s H) (hl:vs.length=ps.length) (r:Vals vs us)
  (x:InCallC s s.heap.objs.size (bindL (envOfC qual scope s.heap.objs.size f cd).kindOf (ps.zip us) λ_=>none) (cellsFrom (s.heap.objs.size+1) scope.names []) (bindC (envOfC qual scope s.heap.objs.size f cd).kindOf (ps.zip us) λ_=>none) s1) :
  Inv (m7 CX P w K mg base N qual scope f cd A outer s H E) [] (start N vs) H s1:=by
 have bX:ps.length<=N.length:=by have:=congrArg List.length S.pre;rw[List.length_take] at this;omega
 obtain⟨h1,tk,rfl,hk⟩:=x.done
 have si:∀b:Addr,b∉(m7 CX P w K mg base N qual scope f cd A outer s H E).ex:=λb z=>absurd (show b∈([]:List Addr) from z) (by simp)
 refine⟨⟨e0.mod,S.kind,rfl,rfl,Nat.le_refl _,λy z c h1 h2=>?_,λy hy=>?_,λy c _ h=>?_,λ_=>hd,Around.frames_deeper e0.frames,.inr ⟨rfl,rfl⟩,λb z=>absurd z (si b),e0.bs,e0.hZ,λb _ _=>si b,λb z=>absurd z (si b),e0.gW,e0.l6⟩,
  rfl,e0.bare,Un.kept hk,⟨_,x.toInCall.ns,λi y v h1 h2 h3=>?_⟩,λy c h=>⟨_,x.cell y c h⟩,e0.au.fresh (Nat.le_refl _),λy c h=>?_,λp hp=>absurd (show p∈([]:List (Addr×Obj)) from hp) (by simp),e0.au.kept hk,?_⟩
 ·exact name_of_addr x.apart (PySem.mem_of_lookup h1) (PySem.mem_of_lookup h2)
 ·have hy:scope.names.lookup y=some .cell\/scope.names.lookup y=some .free:=hy
  rcases hy with hy|hy
  ·exact De hy
  ·exact absurd rfl (S.Og _ (PySem.mem_of_lookup hy))
 ·exact Nat.le_of_lt (x.above y c (PySem.mem_of_lookup h))
 ·have hi:i<vs.length:=by
   unfold start at h2
   by_cases hi:i<vs.length
   ·exact hi
   ·rw[List.getElem?_append_right (by simpa using hi)] at h2
    rw[List.getElem?_replicate] at h2
    split at h2<;>cases h2
  have ha:vs[i]?=some v:=by
   unfold start at h2
   rw[List.getElem?_append_left (by simpa using hi),List.getElem?_map] at h2
   cases e:vs[i]? with
   |none=>rw[e] at h2;cases h2
   |some a=>rw[e] at h2;cases h2;rfl
  obtain⟨u,hu,rv⟩:=r.get ha
  have hp:ps[i]?=some y:=by
   rw[<- S.pre,List.getElem?_take_of_lt (by omega)];exact h1
  have GB:ps.Nodup:=by rw[<- S.pre];exact S.nd.sublist (List.take_sublist _ _)
  refine⟨u,rv,?_⟩
  rcases S.par y (List.mem_of_getElem? hp) with k|k
  ·exact .inl ⟨k,CO GB hp hu k⟩
  ·obtain⟨c,e⟩:=De (n:=s.heap.objs.size+1) k
   refine .inr ⟨.inl k,c,e,?_⟩
   have q:=x.cell y c e
   rw[CP GB hp hu (by show scope.names.lookup y≠_;rw[k];decide)] at q
   exact q
 ·exact e0.au.fresh (Nat.le_of_lt (x.above y c (PySem.mem_of_lookup h)))
 ·unfold start
  show _=N.length
  rw[List.length_append,List.length_map,List.length_replicate]
  omega
theorem P0 {CX:iL} {P:Program} {w:World} {K:Frag} {mg:Str->Option Value} {base:Heap} {k:Nat} {f:Addr} {name qual:Str} {params:Arguments} {body:List Stmt} {scope:Scope} {dV kV doc pm br ct oc:Value} {an od:Option Addr}
  {l8:Array (Option Value)} {N ps:List Str} {sp:Sp} (lk:K.lookup f=some ⟨oc,od,.func (PySem.W.fnOf name qual params body scope dV kV doc pm an br ct),l8⟩) (fP:PySem.W.codeIn K br qual=true) (S:bO N ps scope)
  (len:∀vs H Q E,sp vs H Q E->vs.length=ps.length)
  (yR:∀(A:Around) (outer:List Env) (s:Shared) (H:Hp) (vs:List V) (Q:VK) (E:XK),bV k (A.deeper (envOfC qual scope s.heap.objs.size f br))->sp vs H Q E ->
   ∃t,cO (m7 CX P w K mg base N qual scope f br A outer s H E) body t/\t { nx:=λ_ H'=>Q .ay H',rt:=Q } (start N vs) H) :
  bg P w K mg base CX (k+1) f (PySem.W.fnOf name qual params body scope dV kV doc pm an br ct) ps sp:=by
 refine⟨len,λA outer s H args us vs Q E hr e0 hb r l9=>?_⟩
 have hl:=len _ _ _ _ l9
 have KX:K.In s.heap:=e0.mod.v7.keeps λb o e=>(e0.bs b o e).1
 have lim:s.heap.NoLimit:=e0.mod.nolimit.keeps λb o e=>(e0.bs b o e).1
 have P1:∀y∈ps.zip us,scope.names.lookup y.1=some .local\/(scope.names.lookup y.1=some .cell/\((cellsFrom (s.heap.objs.size+1) scope.names []).lookup y.1).isSome=true):=λ⟨n,v⟩ hy=>by
  rcases S.par n (List.of_mem_zip hy).1 with q|q
  ·exact .inl q
  ·exact .inr ⟨q,PySem.W.cellsFrom_some _ _ _ (.inl q)⟩
 refine codeAny_call_function hr.depth (KX _ _ lk) rfl S.co S.gen rfl (PySem.W.codeRec_of KX fP) (hb _ _ _ _ ?_)
 refine wpAny_newFunctionEnv_cells S.kind P1 λenv he s1 x=>?_
 subst he
 refine⟨lim.keeps x.toInCall.keep,codeAny_func ?_⟩
 obtain⟨t,ht,hq⟩:=yR A outer s H vs Q E (hr.deeper _) l9
 have I:Inv (m7 CX P w K mg base N qual scope f br A outer s H E) [] (start N vs) H s1:=JN S hr.hd e0 hl r x
 refine wpAny_mono (ht [] s1 (start N vs) H _ I hq) (λfl s' hs=>?_) λe s' hs=>hs
 have fin:∀{aO:St} {H':Hp} {v:V} {u:Value},Inv (m7 CX P w K mg base N qual scope f br A outer s H E) [] aO H' s'->RelV v u->Q v H'->CE outer P w H s Q u s' :=
  λ{aO H' v u} J rv q=>⟨v,H',J.os,J.bare,J.base,J.au,rv,q⟩
 cases fl with
 |ret u =>
  obtain⟨v,aO,H',J,rv,q⟩:=hs
  exact fin J rv q
 |next =>
  obtain⟨aO,H',J,q⟩:=hs
  exact fin (v:=V.ay) (u:=Value.none) J rfl q
 |brk =>
  obtain⟨_,_,_,q⟩:=hs
  exact False.elim q
 |cont =>
  obtain⟨_,_,_,q⟩:=hs
  exact False.elim q
end L2
namespace L2
open PySem PySem.Spec PyProof.Rows
section
variable {X:Cx} {x:Str} {p pos:Pos} {e:Expr} {es:List Expr} {t:TA} {id T:String} {r:List V->Hp->VK->Prop}
noncomputable def Ai (r:List V->Hp->VK->Prop) (t:TA):TE:=fun σ H Q=>t σ H λvs H1=>r vs H1 Q
theorem xx (hc:bP X (.builtin id) r) (hg:Gl X x) (hm:X.mg x=none) (hv:bootBuiltins x=some (.builtin id)) (ha:PA X (e::es) t) (hn:x≠"__name__":=by decide) (jt:(x==("__debug__":Str))=false:=by decide)
  (he:starEach (e::es) X.env=(false,eval e X.env)::starEach es X.env:=by rfl) (bX:(backTo pos (starEach es X.env)).any (·.1)=false:=by rfl):PE X (.Call (.Name x p) (e::es) [] pos) (Ai r t):=by
 intro pins s σ H Q I h
 refine wpAny_Call_Name_kw (lE I hg hm hv ?_ hn jt)
 exact PyProof.Rows.callWith_builtin1 (aA (ha pos pins s σ H _ I h) λus s1 ⟨vs,H1,I1,r1,q1⟩=>hc pins s1 σ H1 vs us Q I1 r1 q1) he bX
theorem oh (hc:bP X (.type T) r) (hg:Gl X x) (hm:X.mg x=none) (hv:bootBuiltins x=some (.type T)) (ha:PA X (e::es) t) (hn:x≠"__name__":=by decide) (jt:(x==("__debug__":Str))=false:=by decide)
  (he:starEach (e::es) X.env=(false,eval e X.env)::starEach es X.env:=by rfl) (bX:(backTo pos (starEach es X.env)).any (·.1)=false:=by rfl):PE X (.Call (.Name x p) (e::es) [] pos) (Ai r t):=by
 intro pins s σ H Q I h
 refine wpAny_Call_Name_kw (lE I hg hm hv ?_ hn jt)
 exact PyProof.Rows.callWith_type1 (aA (ha pos pins s σ H _ I h) λus s1 ⟨vs,H1,I1,r1,q1⟩=>hc pins s1 σ H1 vs us Q I1 r1 q1) he bX
end
end L2
namespace HT
open PySem PyProof.Rows
theorem KO (A:Around) (s:Shared) (a:Int) (t:Tok) (c:Int) (u:Tok) (prog:Program) (w:World) (E:Value->Shared->Prop) (Q:Value->Shared->Prop) (h:Q (.bool (decide (a<c))) s) :
  wpAny (model prog w) A (richCompare .Lt (.int a t) (.int c u)) Q E s :=
 (PyProof.Rows.lt_int h:wpAny (model prog w) A (compareOp .Lt (.int a t) (.int c u)) Q E s)
section
open PySem.SeqAt
open PySem.AutoSeq1 (wpAny_loadPart')
open PySem.MeetsSeq PySem.MeetsSeq2 PySem.MeetsSeq3
end
section
variable {prog:Program} {w:World} {A:Around} {E:Value->Shared->Prop} {s:Shared}
theorem Mn {t b:Addr} {vs ws:List Value} {Q:Value->Shared->Prop} (ht:IsTup s.heap t vs.toArray) (hb:IsTup s.heap b ws.toArray) (hv:vs≠[])
  (h1:ws=[]->Q (.ref t) s) (h2:ws≠[]->Q (.ref s.heap.objs.size) { s with heap:=s.heap.push { cls:=.type "tuple",data:=.seq (vs++ws).toArray } })
  (hsz:vs.length+ws.length<=sizeLine):wpAny (model prog w) A (binaryOp .Add (.ref t) (.ref b)) Q E s:=by
 obtain⟨⟨cls,dd,data,sl⟩,ho,hc,n,hd⟩:=id ht
 obtain⟨⟨F0,ma,data2,cX⟩,iM,iN,n2,hd2⟩:=id hb
 simp only at hc hd iN hd2
 subst hc hd iN hd2
 have e:vs.toArray++ws.toArray=(vs++ws).toArray:=by simp
 by_cases hw:ws=[]
 ·exact concat_meets ⟨_,ho,rfl⟩ ⟨_,iM,rfl⟩ noFill_tuple_add seq_tuple_add PySem.F.slot_tuple_add PySem.F.entry_tuple_add (PySem.F.args_tuple_add_2 _ _)
   (tuple_addW1 t b vs.toArray ws.toArray n n2 dd ma sl cX (by simpa using hv) (by simp[hw])) ⟨ho,iM,h1 hw⟩
 ·refine concat_meets ⟨_,ho,rfl⟩ ⟨_,iM,rfl⟩ noFill_tuple_add seq_tuple_add PySem.F.slot_tuple_add PySem.F.entry_tuple_add (PySem.F.args_tuple_add_2 _ _)
   (tuple_addW2 t b vs.toArray ws.toArray n n2 dd ma sl cX (by simpa using hv) (by simpa using hw) (by rw[List.size_toArray,List.size_toArray];exact hsz)) ⟨ho,iM,?_⟩
  rw[e]
  exact h2 hw
noncomputable def aM (n d:Nat):Option Int->Nat
 |none=>d
 |some v=>if v<0 then (v+(n:Int)).toNat else min v.toNat n
theorem uH (n d k:Nat):aM n d (some (k:Int))=min k n:=by
 show (if (k:Int)<0 then ((k:Int)+(n:Int)).toNat else min (k:Int).toNat n)=min k n
 rw[if_neg (by omega),Int.toNat_natCast]
theorem Oh (n d:Nat) (hd:d<=n) (o:Option Int):aM n d o<=n:=by
 cases o with
 |none=>exact hd
 |some v =>
  show (if v<0 then (v+(n:Int)).toNat else min v.toNat n)<=n
  by_cases hv:v<0
  ·rw[if_pos hv];omega
  ·rw[if_neg hv];exact Nat.min_le_right _ _
theorem DQ (v:Int) (n d:Nat):(if v<0 then max (v+(n:Int)) 0 else min v (n:Int))=((aM n d (some v):Nat):Int):=by
 show (if v<0 then max (v+(n:Int)) 0 else min v (n:Int))=(((if v<0 then (v+(n:Int)).toNat else min v.toNat n):Nat):Int)
 by_cases hv:v<0
 ·simp only[if_pos hv];omega
 ·simp only[if_neg hv];omega
theorem IV (lo hi:Option Int) (n:Nat):Builtin.Slice.sliceAdjust lo hi 1 (n:Int)=(((aM n 0 lo:Nat):Int),((aM n n hi:Nat):Int)):=by
 have h1:¬ ((1:Int)<0):=by omega
 unfold Builtin.Slice.sliceAdjust
 simp only[h1,if_false]
 refine Prod.ext ?_ ?_
 ·cases lo with
  |none=>rfl
  |some v=>exact DQ v n 0
 ·cases hi with
  |none=>rfl
  |some v=>exact DQ v n n
theorem IW (i j:Nat):Builtin.Slice.slicePlaces (i:Int) (j:Int) 1=j-i:=by
 unfold Builtin.Slice.slicePlaces
 have h1:(1:Int) > 0:=by omega
 simp only[h1,if_true,Int.ediv_one]
 split<;>omega
theorem Ct {v:Value} {o:Option Int} {Q:Option Int->Shared->Prop} (p:IsPart v o) (h:Q o s):wpAny (model prog w) A (Builtin.Slice.slicePartIndex v) Q E s:=by
 cases p with
 |none=>exact slicePart_none h
 |int i t=>exact slicePart_int h
theorem BJ {sl:Addr} {vl vu:Value} {lo hi:Option Int} {n:Nat} {Q:Int×Int×Nat->Shared->Prop} (hs:s.heap.IsSliceOf sl vl vu .none) (pl:IsPart vl lo) (pu:IsPart vu hi)
  (h:Q (((aM n 0 lo:Nat):Int),1,aM n n hi-aM n 0 lo) s):wpAny (model prog w) A (Builtin.Slice.sliceApplied (.ref sl) (pure (n:Int))) Q E s:=by
 obtain⟨os,iO,fV,ju⟩:=id hs
 unfold Builtin.Slice.sliceApplied Builtin.Slice.sliceFields
 refine wpAny_bind (wpAny_bind (wpAny_field iO ju (x:=vl) rfl (wpAny_bind (wpAny_field iO ju (x:=vu) rfl (wpAny_bind (wpAny_field iO ju (x:=.none) rfl (wpAny_pure ?_)))))))
 refine wpAny_bind (slicePart_none ?_)
 show wpAny _ _ (if ((1:Int)==0)=true then _ else _) _ _ s
 rw[if_neg (by decide)]
 refine wpAny_bind (Ct pl (wpAny_bind (Ct pu (wpAny_bind (wpAny_pure ?_)))))
 show wpAny _ _ (match Builtin.Slice.sliceAdjust lo hi 1 (n:Int) with | (lo,hi)=>pure (lo,(1:Int),Builtin.Slice.slicePlaces lo hi 1)) _ _ s
 rw[IV lo hi n]
 show wpAny _ _ (pure (((aM n 0 lo:Nat):Int),(1:Int),Builtin.Slice.slicePlaces ((aM n 0 lo:Nat):Int) ((aM n n hi:Nat):Int) 1)) _ _ s
 rw[IW]
 exact wpAny_pure h
theorem KP (xs:Array Value) (i k:Nat):((List.range k).filterMap λ(m:Nat)=>xs[((i:Int)+(m:Int)*1).toNat]?).toArray=((xs.toList.drop i).take k).toArray:=by
 have e:(λ(m:Nat)=>xs[((i:Int)+(m:Int)*1).toNat]?)=λm=>xs[i+m]?:=by
  funext m
  have:((i:Int)+(m:Int)*1).toNat=i+m:=by omega
  rw[this]
 rw[e]
 have:=pick_run xs i k
 rw[List.filterMap_map] at this
 have e2:((λx=>xs[x]?) ∘ λx=>i+x)=λm=>xs[i+m]?:=rfl
 rw[e2] at this
 rw[this]
theorem Hn {t sl:Addr} {items:Array Value} {vl vu:Value} {lo hi:Option Int} {Q:Value->Shared->Prop} (ht:IsTup s.heap t items) (hs:s.heap.IsSliceOf sl vl vu .none) (pl:IsPart vl lo) (pu:IsPart vu hi)
  (hw:¬ (aM items.size 0 lo=0/\aM items.size items.size hi=items.size))
  (h:Q (.ref s.heap.objs.size) { s with heap:=s.heap.push { cls:=.type "tuple",data:=.seq ((items.toList.drop (aM items.size 0 lo)).take (aM items.size items.size hi-aM items.size 0 lo)).toArray } })
  (hsz:items.size<=sizeLine):wpAny (model prog w) A (getItem (.ref t) (.ref sl)) Q E s:=by
 have vf:sizeOk (.seq ((items.toList.drop (aM items.size 0 lo)).take (aM items.size items.size hi-aM items.size 0 lo)).toArray):=by
  show ((items.toList.drop (aM items.size 0 lo)).take (aM items.size items.size hi-aM items.size 0 lo)).toArray.size<=sizeLine
  rw[List.size_toArray,List.length_take,List.length_drop,Array.length_toList]
  omega
 have hj:aM items.size items.size hi<=items.size:=Oh _ _ (Nat.le_refl _) hi
 obtain⟨os,iO,fV,ju⟩:=id hs
 have sj:s.TypeIs (.ref sl) "slice":=⟨os,iO,fV⟩
 unfold getItem
 try with_reducible refine wpAny_holding ?_
 first|refine wpAny_bind (wpAny_pure ?_)|skip
 refine wpAny_bind (wpAny_sequenceKey ht.typeIs (by decide) ?_)
 refine wpAny_bind (wpAny_callSpecial?_slot (name:=Str.ofString "__getitem__") ht.typeIs PyProof.Rows.slot_tuple_getitem
  (wpAny_call_entry PyProof.Rows.slot_tuple_getitem ht.typeIs entry_tuple_getitem ?_ (args_tuple_getitem _ _)))
 show wpAny _ _ (Builtin.Tuple.tupleItemsOf (.ref t) >>= _) _ _ s
 refine wpAny_bind (tupleItemsOf_ ht ?_)
 refine wpAny_bind (wpAny_typeOf sj ?_)
 rw[if_pos (by decide)]
 refine wpAny_bind (BJ hs pl pu ?_)
 have Aj:¬ ((((aM items.size 0 lo:Nat):Int)==0&&(1:Int)==1&&(aM items.size items.size hi-aM items.size 0 lo)==items.size)=true):=by
  intro q
  rw[Bool.and_eq_true,Bool.and_eq_true] at q
  have q1:((aM items.size 0 lo:Nat):Int)=0:=eq_of_beq q.1.1
  have q2:aM items.size items.size hi-aM items.size 0 lo=items.size:=eq_of_beq q.2
  exact hw ⟨by omega,by omega⟩
 show wpAny _ _ (if (((aM items.size 0 lo:Nat):Int)==0&&(1:Int)==1&&(aM items.size items.size hi-aM items.size 0 lo)==items.size)=true then _ else _) _ _ s
 rw[if_neg Aj,KP]
 first
  |exact wpAny_bind (m:=Builtin.Tuple.tupleExact _) (wpAny_newObj_type (wpAny_pure ⟨_,rfl,wpAny_pure h⟩) vf)
  |exact wpAny_bind (m:=Builtin.Tuple.tupleExact _) (wpAny_newObj_type (wpAny_bind (wpAny_pure (wpAny_pure ⟨_,rfl,wpAny_pure h⟩))) vf)
  |exact wpAny_bind (wpAny_bind (m:=Builtin.Tuple.tupleExact _) (wpAny_newObj_type (wpAny_pure (wpAny_pure ⟨_,rfl,wpAny_pure h⟩)) vf))
  |exact wpAny_bind (wpAny_bind (m:=Builtin.Tuple.tupleExact _) (wpAny_newObj_type (wpAny_pure ⟨_,rfl,wpAny_pure h⟩) vf))
end
end HT
namespace L2
open PySem PySem.Spec PyProof.Rows
noncomputable abbrev TO:=St->Hp->(Option Int->Hp->Prop)->Prop
def PO (X:Cx) (e:Option Expr) (t:TO):Prop :=
 ∀(pins:List (Addr×Obj)) (s:Shared) (σ:St) (H:Hp) (Q:Option Int->Hp->Prop),Inv X pins σ H s->t σ H Q ->
  wpAny (model X.prog X.w) X.A (evalPart e X.env) (λu s'=>∃o H',Inv X pins σ H' s'/\IsPart u o/\Q o H') X.xe s
noncomputable def Mo:TO:=λ_ H Q=>Q none H
noncomputable def P2 (t:TE):TO:=fun σ H Q=>t σ H λx H1=>∃i,x=.int i/\Q (some i) H1
theorem intsAre_of {ns:List Int}:∀{us:List Value},Vals (ns.map V.int) us->IntsAre us ns:=by
 induction ns with
 |nil=>intro us r;rw[List.map_nil] at r;cases r;exact .nil
 |cons n ns ih =>
  intro us r
  rw[List.map_cons] at r
  cases r with
  |cons r1 r2 =>
   obtain⟨t,e⟩:=r1
   subst e
   exact .cons n t (ih r2)
section
variable {X:Cx} {e:Expr} {te:TE} {lo hi:Option Expr} {tl th:TO} {pos p2:Pos}
theorem Mp:PO X none Mo:=by
 intro pins s σ H Q I h
 rw[evalPart_none]
 exact wpAny_pure ⟨none,H,I,.none,h⟩
theorem Mq (h:PE X e te):PO X (some e) (P2 te):=by
 intro pins s σ H Q I hw
 rw[evalPart_some]
 refine aA (h pins s σ H _ I hw) λu s1 ⟨x,H1,I1,r1,q1⟩=>?_
 obtain⟨i,rfl,q⟩:=q1
 obtain⟨t,rfl⟩:=r1
 exact⟨some i,H1,I1,.int i t,q⟩
def sk (X:Cx) (r:V->Option Int->Option Int->Hp->VK->Prop):Prop :=
 ∀(pins:List (Addr×Obj)) (s:Shared) (σ:St) (H:Hp) (x:V) (v vl vu:Value) (lo hi:Option Int) (sl:Addr) (Q:VK),Inv X pins σ H s->RelV x v->s.heap.IsSliceOf sl vl vu .none->IsPart vl lo->IsPart vu hi->r x lo hi H Q ->
  ∃T id,typeLookup (.type T) "__getitem__"=pure (some (.builtin id))/\s.TypeIs v T/\wpAny (model X.prog X.w) X.A (getItem v (.ref sl)) (EP X pins σ Q) X.xe s
noncomputable def Sx (r:V->Option Int->Option Int->Hp->VK->Prop) (te:TE) (tl th:TO):TE:=fun σ H Q=>te σ H λx H1=>tl σ H1 λl H2=>th σ H2 λu H3=>r x l u H3 Q
theorem KQ {r:V->Option Int->Option Int->Hp->VK->Prop} (hr:sk X r) (he:PE X e te) (hl:PO X lo tl) (hu:PO X hi th):PE X (.Subscript e (.Slice lo hi none p2) pos) (Sx r te tl th):=by
 intro pins s σ H Q I h
 refine Subscript_ (aA (he pins s σ H _ I h) λv s1 ⟨x,H1,I1,r1,q1⟩=>?_)
 refine wpAny_Slice (aA (hl pins s1 σ H1 _ I1 q1) λvl s2 ⟨l,H2,I2,pl,q2⟩=>aA (hu pins s2 σ H2 _ I2 q2) λvu s3 ⟨u,H3,I3,pu,q3⟩=>?_)
 rw[evalPart_none]
 refine wpAny_pure ?_
 have I4:Inv X pins σ H3 { s3 with heap:=s3.heap.push { cls:=.type "slice",data:=.fields #[vl,vu,.none] } }:=I3.kept (t':=s3.toks) λb ob q=>Heap.get?_push_of_some _ q
 obtain⟨T,id,hT,ht,hg⟩:=hr pins { s3 with heap:=s3.heap.push { cls:=.type "slice",data:=.fields #[vl,vu,.none] } } σ H3 x v vl vu l u s3.heap.objs.size Q I4 r1 (Heap.IsSliceOf.new ..) pl pu q3
 show wpAny (model X.prog X.w) X.A (subscriptTail e (.Slice lo hi none p2) v (.ref s3.heap.objs.size)) (EP X pins σ Q) X.xe { s3 with heap:=s3.heap.push { cls:=.type "slice",data:=.fields #[vl,vu,.none] } }
 exact tail_any (ops:=[.ref s3.heap.objs.size,v]) ht hT hg (by with_unfolding_all rfl)
noncomputable def jh (xs:List V) (lo hi:Option Int):List V:=(xs.drop (HT.aM xs.length 0 lo)).take (HT.aM xs.length xs.length hi-HT.aM xs.length 0 lo)
theorem Cg (xs:List V) (lo hi:Option Int):(jh xs lo hi).length<=xs.length:=by
 unfold jh
 rw[List.length_take,List.length_drop]
 omega
noncomputable def Rp (K:Frag):V->Option Int->Option Int->Hp->VK->Prop:=λx lo hi H Q=>∃a xs,x=.ref a/\aP K H a xs /\
 ¬ (HT.aM xs.length 0 lo=0/\HT.aM xs.length xs.length hi=xs.length)/\∀p,H p=none->Q (.ref p) (upd H p (.tup (jh xs lo hi)))
theorem Ez:sk X (Rp X.K):=by
 intro pins s σ H x v vl vu lo hi sl Q I rx hs pl pu h
 obtain⟨a,xs,rfl,hx,hw,q⟩:=h
 cases rx
 obtain⟨its,r,ht,hz⟩:=I.tuple hx
 have hlen:its.toArray.size=xs.length:=by rw[List.size_toArray];exact r.length.symm
 refine⟨"tuple",_,PyProof.Rows.slot_tuple_getitem.lookup,ht.typeIs,?_⟩
 refine HT.Hn ht hs pl pu (by rw[hlen];exact hw) ?_ (by rw[hlen];exact hz)
 rw[hlen]
 refine⟨.ref s.heap.objs.size,_,I.laid (t':=s.toks) (o:=.tup (jh xs lo hi)) (λb ob q=>Heap.get?_push_of_some _ q) (Nat.le_refl _) ?_,rfl,q _ (I.au.fresh (Nat.le_refl _))⟩
 exact⟨Nat.le_trans (Cg xs lo hi) hz,_,(r.drop (HT.aM xs.length 0 lo)).take (HT.aM xs.length xs.length hi-HT.aM xs.length 0 lo),IsTup.new _ _⟩
noncomputable def P4 (K:Frag):R2:=λx y H Q=>∃a b xs ys,x=.ref a/\y=.ref b/\aP K H a xs/\aP K H b ys/\xs≠[]/\xs.length+ys.length<=sizeLine /\
 (ys=[]->Q (.ref a) H)/\(ys≠[]->∀p,H p=none->Q (.ref p) (upd H p (.tup (xs++ys))))
theorem Vals.xS {xs:List V} {us:List Value} (r:Vals xs us):us=[]↔xs=[]:=by
 cases r with
 |nil=>simp
 |cons _ _=>simp
theorem Mr:aW X (binaryOp .Add) (P4 X.K):=by
 intro pins s σ H x y v u Q I rx ry h
 obtain⟨a,b,xs,ys,rfl,rfl,ha,hb,hx,hz,q1,q2⟩:=h
 cases rx
 cases ry
 obtain⟨its,r1,p1,_⟩:=I.tuple ha
 obtain⟨m8,r2,p2,_⟩:=I.tuple hb
 refine HT.Mn p1 p2 (λz=>hx (r1.xS.mp z)) (λz=>⟨.ref a,H,I,rfl,q1 (r2.xS.mp z)⟩) (λz=>?_) (by rw[<- r1.length,<- r2.length];exact hz)
 refine⟨.ref s.heap.objs.size,_,I.laid (t':=s.toks) (o:=.tup (xs++ys)) (λb ob q=>Heap.get?_push_of_some _ q) (Nat.le_refl _) ?_,rfl,q2 (λw=>z (r2.xS.mpr w)) _ (I.au.fresh (Nat.le_refl _))⟩
 exact⟨by rw[List.length_append];exact hz,_,r1.append r2,IsTup.new _ _⟩
end
end L2
namespace L2
open PySem PySem.Spec PyProof.Rows
noncomputable def dQ (n:Nat) (i:Int):Option Nat:=if 0<=i then (if i<n then some i.toNat else none) else if -(n:Int)<=i then some (i+n).toNat else none
noncomputable def de {α:Type} (xs:List α) (i:Int):Option α:=(dQ xs.length i).bind λj=>xs[j]?
theorem DR {n:Nat} {i:Int} {j:Nat} (h:dQ n i=some j):seqIndex? i n=some j/\j<n/\-(n:Int)<=i/\i<n:=by
 unfold dQ at h
 by_cases h0:0<=i
 ·rw[if_pos h0] at h
  by_cases h1:i<n
  ·rw[if_pos h1] at h
   have e:i.toNat=j:=Option.some.inj h
   exact⟨by rw[seqIndex_of h0 h1,e],by omega,by omega,h1⟩
  ·rw[if_neg h1] at h;cases h
 ·rw[if_neg h0] at h
  by_cases h1:-(n:Int)<=i
  ·rw[if_pos h1] at h
   have e:(i+n).toNat=j:=Option.some.inj h
   exact⟨by rw[seqIndex_neg (by omega) h1,e],by omega,h1,by omega⟩
  ·rw[if_neg h1] at h;cases h
theorem xT {α:Type} {xs:List α} {i:Int} {v:α} (h:de xs i=some v):∃j,seqIndex? i xs.length=some j/\xs[j]?=some v/\j<xs.length/\-(xs.length:Int)<=i/\i<xs.length:=by
 unfold de at h
 cases e:dQ xs.length i with
 |none=>rw[e] at h;cases h
 |some j =>
  rw[e] at h
  obtain⟨h1,h2,h3,h4⟩:=DR e
  exact⟨j,h1,h,h2,h3,h4⟩
theorem xU {α:Type} {xs:List α} {j:Nat} {v:α} (h:xs[j]?=some v):de xs (j:Int)=some v:=by
 have hj:j<xs.length:=(List.getElem?_eq_some_iff.mp h).1
 have e:dQ xs.length (j:Int)=some j:=by
  unfold dQ
  rw[if_pos (by omega),if_pos (by omega)];simp
 unfold de;rw[e];exact h
theorem KR {α:Type} (xs:List α) (v:α):de (xs++[v]) (-1)=some v:=by
 have hl:(xs++[v]).length=xs.length+1:=by simp
 have e:dQ (xs++[v]).length (-1)=some xs.length:=by
  unfold dQ
  rw[hl,if_neg (by decide),if_pos (by omega)]
  congr 1
  omega
 unfold de
 rw[e]
 show (xs++[v])[xs.length]?=some v
 simp
def DT (b:Expr):Prop:=∀o i,subscripted b false o i=operate [o,i] (getItem o i)
def sm (X:Cx) (r:R2):Prop :=
 ∀(value slice:Expr) (pins:List (Addr×Obj)) (s:Shared) (σ:St) (H:Hp) (x y:V) (v u:Value) (Q:VK),Inv X pins σ H s->RelV x v->RelV y u->r x y H Q ->
  subscripted slice false v u=operate [v,u] (getItem v u)->wpAny (model X.prog X.w) X.A (subscriptTail value slice v u) (EP X pins σ Q) X.xe s
def Sy (X:Cx) (id:String) (r:V->List V->Hp->VK->Prop):Prop :=
 ∀(pins:List (Addr×Obj)) (s:Shared) (σ:St) (H:Hp) (x:V) (xs:List V) (v:Value) (us:List Value) (Q:VK),Inv X pins σ H s->RelV x v->Vals xs us->r x xs H Q ->
  wpAny (model X.prog X.w) X.A (call (.builtin id) (v::us)) (EP X pins σ Q) X.xe s
section
variable {X:Cx} {a b:Expr} {ta tb:TE} {pos:Pos}
theorem P5 {r:R2} (hr:sm X r) (ha:PE X a ta) (hb:PE X b tb) (hs:DT b):PE X (.Subscript a b pos) (sg r ta tb):=by
 intro pins s σ H Q I h
 exact Subscript_ (zt ha hb I h λv u s2 x y H2 I2 rx ry q=>hr a b pins s2 σ H2 x y v u Q I2 rx ry q (hs _ _))
noncomputable def Rq (K:Frag):R2:=λx y H Q=>∃p xs i v,x=.ref p/\y=.int i/\bx K H p xs/\de xs i=some v/\Q v H
noncomputable def Rr (K:Frag):R2:=λx y H Q=>∃p xs i v,x=.ref p/\y=.int i/\aP K H p xs/\de xs i=some v/\Q v H
noncomputable def Rt:R2:=λx y H Q=>∃z i c,x=.str z/\y=.int i/\z.length<=sizeLine/\de z.cps.toList i=some c/\Q (.str ⟨#[c]⟩) H
theorem DU:sm X (Rq X.K):=by
 intro value slice pins s σ H x y v u Q I rx ry h hs
 obtain⟨p,xs,i,z,rfl,rfl,hq,he,q⟩:=h
 cases rx
 obtain⟨t,rfl⟩:=ry
 obtain⟨its,r,pl,hz⟩:=I.list hq
 obtain⟨j,h1,h2,h3,h4,h5⟩:=xT he
 obtain⟨w,ew,ib⟩:=r.get h2
 have hl:=r.length
 have hn:=mP
 have fin:EP X pins σ Q w s:=⟨z,H,I,ib,q⟩
 by_cases h0:0<=i
 ·have hj:i.toNat=j:=by
   rw[seqIndex_of h0 h5] at h1
   exact Option.some.inj h1
  exact item_listR pl.isList h0 (by omega) (by rw[hj];simpa using ew) fin hs
 ·have hj:(i+(its.toArray.size:Int)).toNat=j:=by
   rw[seqIndex_neg (by omega) h4] at h1
   rw[List.size_toArray,<- hl]
   exact Option.some.inj h1
  exact subscriptTail_builtinR (x:=w) pl.isList.typeIs slot_list_getitem.lookup
   (wpAny_getItem_list_neg (Q:=λr s'=>r=w/\EP X pins σ Q r s') pl.isList (by omega) (by rw[List.size_toArray]<;>omega) (by omega) (by rw[hj];simpa using ew) ⟨rfl,fin⟩) hs
theorem Oi:sm X (Rr X.K):=by
 intro value slice pins s σ H x y v u Q I rx ry h hs
 obtain⟨p,xs,i,z,rfl,rfl,hq,he,q⟩:=h
 cases rx
 obtain⟨t,rfl⟩:=ry
 obtain⟨its,r,pl,hz⟩:=I.tuple hq
 obtain⟨j,h1,h2,h3,h4,h5⟩:=xT he
 obtain⟨w,ew,ib⟩:=r.get h2
 have hl:=r.length
 have hn:=mP
 have fin:EP X pins σ Q w s:=⟨z,H,I,ib,q⟩
 exact subscriptTail_builtinR (x:=w) pl.typeIs slot_tuple_getitem.lookup
  (getItem_tuple (j:=j) (Q:=λr s'=>r=w/\EP X pins σ Q r s') pl (by omega) (by omega) (by rw[List.size_toArray,<- hl];exact h1) (by simpa using ew) ⟨rfl,fin⟩) hs
theorem Oj:sm X Rt:=by
 intro value slice pins s σ H x y v u Q I rx ry h hs
 obtain⟨z,i,c,rfl,rfl,hz,he,q⟩:=h
 obtain⟨t,rfl⟩:=rx
 obtain⟨t',rfl⟩:=ry
 obtain⟨j,h1,h2,h3,h4,h5⟩:=xT he
 have hl:z.cps.toList.length=z.length:=by simp[Str.length]
 rw[hl] at h1 h4 h5
 have hn:=mP
 exact tail_any (typeIs_str s z t) slot_str_getitem.lookup (getItem_str (c:=c) (by
  have e1:decide (i < -(2 ^ 63:Int))=false:=decide_eq_false (by omega)
  have e2:decide (i ≥ 2 ^ 63)=false:=decide_eq_false (by omega)
  rw[e1,e2,Bool.or_false]) (by rw[h1];simpa using h2) ⟨.str ⟨#[c]⟩,H,I.tok _,⟨_,rfl⟩,q⟩) hs
theorem IY (its:List Value) (n j:Nat) (u:Value):Obj.mapSeq (·.setIfInBounds j u) { cls:=.type "list",data:=.seq its.toArray n }={ cls:=.type "list",data:=.seq (its.set j u).toArray n }:=by
 simp[Obj.mapSeq]
theorem Inv.lst {pins:List (Addr×Obj)} {σ:St} {H:Hp} {s:Shared} {p:Addr} {xs:List V} (I:Inv X pins σ H s) (h:H p=some (.lst xs)) :
  ∃(its:List Value) (n:Nat),Vals xs its/\s.heap.get? p=some { cls:=.type "list",data:=.seq its.toArray n }/\xs.length<=sizeLine:=by
 obtain⟨z,its,n,r,e⟩:=I.au p _ h
 exact⟨its,n,r,e,z⟩
theorem Inv.Ol {pins:List (Addr×Obj)} {σ:St} {H:Hp} {s:Shared} {p:Addr} {xs ys:List V} {its its':List Value} {n n':Nat} {f:Obj->Obj} (I:Inv X pins σ H s) (h:H p=some (.lst xs))
  (ho:s.heap.get? p=some { cls:=.type "list",data:=.seq its.toArray n }) (hf:f { cls:=.type "list",data:=.seq its.toArray n }={ cls:=.type "list",data:=.seq its'.toArray n' }) (r:Vals ys its') (hz:ys.length<=sizeLine) (t:Nat) :
  Inv X pins σ (upd H p (.lst ys)) { s with heap:=s.heap.update p f,toks:=t }:=by
 have e:(s.heap.update p f).get? p=some { cls:=.type "list",data:=.seq its'.toArray n' }:=by
  rw[Heap.get?_update_self f ho (by rw[hf]<;>rfl),hf]
 refine I.write (x:=p) (e:=p) (by rw[h];trivial) (.inl rfl) (λb u hb q=>(Heap.get?_update_other _ _ (Ne.symm hb)).trans q) ⟨_,e⟩ ?_
 exact⟨hz,its',n',r,e⟩
noncomputable def P6:V->V->V->Hp->(Hp->Prop)->Prop:=λo i v H Q=>∃p xs k j,o=.ref p/\i=.int k/\H p=some (.lst xs)/\dQ xs.length k=some j/\Q (upd H p (.lst (xs.set j v)))
theorem set_list:FW X P6:=by
 intro pins s σ H o i v ov iv u Q I ro ri rv h
 obtain⟨p,xs,k,j,rfl,rfl,hp,hj,q⟩:=h
 cases ro
 obtain⟨t,rfl⟩:=ri
 obtain⟨its,n,r,ho,hz⟩:=I.lst hp
 obtain⟨h1,h2,h3,h4⟩:=DR hj
 have hl:=r.length
 have hn:=mP
 have I':Inv X pins σ (upd H p (.lst (xs.set j v))) { s with heap:=s.heap.update p (Obj.mapSeq (·.setIfInBounds j u)) } :=
  I.Ol hp ho (IY its n j u) (r.set rv j) (by rw[List.length_set];exact hz) s.toks
 by_cases h0:0<=k
 ·have hk:k.toNat=j:=by
   rw[seqIndex_of h0 h4] at h1
   exact Option.some.inj h1
  exact PySem.W.ki_setAt ho h0 (by omega) (by rw[List.size_toArray,<- hl];exact h4) (by rw[hk];exact⟨_,I',q⟩)
 ·have hk:(k+(its.toArray.size:Int)).toNat=j:=by
   rw[seqIndex_neg (by omega) h3] at h1
   rw[List.size_toArray,<- hl]
   exact Option.some.inj h1
  exact PySem.W.ki_setBack ho (by omega) (by rw[List.size_toArray,<- hl];exact h3) (by omega) (by rw[hk];exact⟨_,I',q⟩)
theorem HX (lo hi:Option Int) (n:Nat):(sliceBounds lo hi none n).1=((HT.aM n 0 lo:Nat):Int)/\(sliceBounds lo hi none n).2.1=((HT.aM n n hi:Nat):Int)/\(sliceBounds lo hi none n).2.2=1:=by
 refine⟨?_,?_,rfl⟩
 ·cases lo with
  |none=>simp[sliceBounds,HT.aM]
  |some i =>
   simp only[sliceBounds,HT.aM,Option.getD_none,show (1:Int) > 0 by decide,if_true]
   by_cases h:i<0
   ·simp only[h,if_true]<;>omega
   ·simp only[h,if_false]<;>omega
 ·cases hi with
  |none=>simp[sliceBounds,HT.aM]
  |some i =>
   simp only[sliceBounds,HT.aM,Option.getD_none,show (1:Int) > 0 by decide,if_true]
   by_cases h:i<0
   ·simp only[h,if_true]<;>omega
   ·simp only[h,if_false]<;>omega
theorem HL (its:List Value) (lo hi:Option Int):slicePick its.toArray lo hi none=((its.drop (HT.aM its.length 0 lo)).take (HT.aM its.length its.length hi-HT.aM its.length 0 lo)).toArray:=by
 obtain⟨h1,h2,h3⟩:=HX lo hi its.toArray.size
 unfold slicePick
 rw[h1,h2,h3]
 simp only[sliceRange_one,pick_run,List.size_toArray]<;>rfl
noncomputable def Ru (K:Frag):V->Option Int->Option Int->Hp->VK->Prop:=λx lo hi H Q=>∃a xs,x=.ref a/\bx K H a xs/\∀p,H p=none->Q (.ref p) (upd H p (.lst (jh xs lo hi)))
theorem Ms:sk X (Ru X.K):=by
 intro pins s σ H x v vl vu lo hi sl Q I rx hs pl pu h
 obtain⟨a,xs,rfl,hx,q⟩:=h
 cases rx
 obtain⟨its,r,ht,hz⟩:=I.list hx
 have hlen:=r.length
 refine⟨"list",_,slot_list_getitem.lookup,ht.isList.typeIs,?_⟩
 refine wpAny_getItem_list_slice ht.isList hs pl pu .none (by simp) ?_ (by rw[List.size_toArray]<;>omega)
 rw[HL,<- hlen]
 refine⟨.ref s.heap.objs.size,_,I.laid (t':=s.toks) (o:=.lst (jh xs lo hi)) (λb ob q=>Heap.get?_push_of_some _ q) (Nat.le_refl _) ?_,rfl,q _ (I.au.fresh (Nat.le_refl _))⟩
 exact⟨Nat.le_trans (Cg xs lo hi) hz,_,0,(r.drop (HT.aM xs.length 0 lo)).take (HT.aM xs.length xs.length hi-HT.aM xs.length 0 lo),Heap.get?_push_size _ rfl⟩
theorem w6:bP X (.builtin "len") (λxs H Q=>∃p ys,xs=[.ref p]/\(bx X.K H p ys\/aP X.K H p ys)/\Q (.int ys.length) H):=by
 intro pins s σ H xs us Q I r h
 obtain⟨p,ys,rfl,hq,q⟩:=h
 obtain⟨u,rfl,rx⟩:=vals1 r
 cases rx
 have hn:=mP
 rcases hq with hq|hq
 ·obtain⟨its,r',pl,hz⟩:=I.list hq
  have hlen:=r'.length
  exact Calls.call_len_list pl.isList (by simp only[List.size_toArray]<;>omega) ⟨.int ys.length,H,I.tok _,⟨s.toks+1,by rw[List.size_toArray,hlen]⟩,q⟩
 ·obtain⟨its,r',pl,hz⟩:=I.tuple hq
  have hlen:=r'.length
  exact len_tuple pl (by simp only[List.size_toArray]<;>omega) ⟨.int ys.length,H,I.tok _,⟨s.toks+1,by rw[List.size_toArray,hlen]⟩,q⟩
theorem HY:bP X (.builtin "len") (λxs H Q=>∃z,xs=[.str z]/\z.length<=sizeLine/\Q (.int z.length) H):=by
 intro pins s σ H xs us Q I r h
 obtain⟨z,rfl,hz,q⟩:=h
 obtain⟨u,rfl,t,rfl⟩:=vals1 r
 have hn:=mP
 exact len_str (by omega) ⟨.int z.length,H,I.tok _,⟨_,rfl⟩,q⟩
theorem B0:bP X (.type "list") (λxs H Q=>∃p ys,xs=[.ref p]/\(bx X.K H p ys\/aP X.K H p ys)/\∀l,H l=none->Q (.ref l) (upd H l (.lst ys))):=by
 intro pins s σ H xs us Q I r h
 obtain⟨p,ys,rfl,hq,q⟩:=h
 obtain⟨u,rfl,rx⟩:=vals1 r
 cases rx
 have fin:∀(its:List Value),Vals ys its->ys.length<=sizeLine->∀(h':Heap) (c':Nat),(∀b o',s.heap.get? b=some o'->h'.get? b=some o') ->
   h'.get? s.heap.objs.size=some { cls:=.type "list",dict:=none,data:=.seq its.toArray c',slots:=#[] }->EP X pins σ Q (.ref s.heap.objs.size) { s with heap:=h' }:=λits r' hz h' c' kp e =>
  ⟨.ref s.heap.objs.size,_,I.laid (t':=s.toks) kp (Nat.le_refl _) (show cb X.prog X.w _ h' _ (.lst ys) from ⟨hz,its,c',r',e⟩),rfl,q _ (I.au.fresh (Nat.le_refl _))⟩
 rcases hq with hq|hq
 ·obtain⟨its,r',pl,hz⟩:=I.list hq
  have hlen:=r'.length
  obtain⟨o,ho,hc,n,hd⟩:=pl.isList
  exact call_list_seq p (.inl rfl) ho hc hd (λh' c' kp e=>fin its r' hz h' c' kp e) (by simp only[List.size_toArray]<;>omega)
 ·obtain⟨its,r',pl,hz⟩:=I.tuple hq
  have hlen:=r'.length
  obtain⟨o,ho,hc,n,hd⟩:=pl
  exact call_list_seq p (.inr rfl) ho hc hd (λh' c' kp e=>fin its r' hz h' c' kp e) (by simp only[List.size_toArray]<;>omega)
theorem BP:bP X (.type "tuple") (λxs H Q=>∃p ys,xs=[.ref p]/\((bx X.K H p ys/\∀l,H l=none->Q (.ref l) (upd H l (.tup ys)))\/(aP X.K H p ys/\Q (.ref p) H))):=by
 intro pins s σ H xs us Q I r h
 obtain⟨p,ys,rfl,h⟩:=h
 obtain⟨u,rfl,rx⟩:=vals1 r
 cases rx
 rcases h with ⟨hq,q⟩ | ⟨hq,q⟩
 ·obtain⟨its,r',pl,hz⟩:=I.list hq
  have hlen:=r'.length
  refine call_tuple_list pl.isList (λh' kp=>?_) (by simp only[List.size_toArray]<;>omega)
  have I1:Inv X pins σ H { s with heap:=h' }:=I.kept (t':=s.toks) kp
  have I2:Inv X pins σ (upd H h'.objs.size (.tup ys)) { s with heap:=h'.push { cls:=.type "tuple",data:=.seq its.toArray } } :=
   I1.laid (t':=s.toks) (λb o e=>Heap.get?_push_of_some _ e) (Nat.le_refl _) (show cb X.prog X.w _ _ _ (.tup ys) from ⟨hz,its,r',IsTup.new _ _⟩)
  exact⟨.ref h'.objs.size,_,I2,rfl,q _ (I1.au.fresh (Nat.le_refl _))⟩
 ·obtain⟨its,r',pl,hz⟩:=I.tuple hq
  exact call_tuple_same pl ⟨.ref p,H,I,rfl,q⟩
def GC (K:Frag) (T:String) (x:V) (H:Hp):Prop:=match x with
 | .str _=>T="str"
 | .int _=>T="int"
 | .ref p=>(T="list"/\∃xs,bx K H p xs)\/(T="tuple"/\∃o,K.lookup p=some o/\o.cls=.type "tuple"/\o.dict=none) \/
   (T="dict"/\((∃ai,H p=some (.dK ai))\/∃ai,H p=some (.dT ai)))\/(T="set"/\∃S n,H p=some (.set S n))
 |_=>False
theorem Om {pins:List (Addr×Obj)} {σ:St} {H:Hp} {s:Shared} {T:String} {x:V} {v:Value} (I:Inv X pins σ H s) (r:RelV x v) (ty:GC X.K T x H) :
  s.TypeIs v T/\∀a,v=.ref a->∃ob,s.heap.get? a=some ob/\ob.dict=none:=by
 cases x with
 |str z =>
  obtain⟨t,rfl⟩:=r
  cases (show T="str" from ty)
  exact⟨typeIs_str s z t,λ_ e=>nomatch e⟩
 |int i =>
  obtain⟨t,rfl⟩:=r
  cases (show T="int" from ty)
  exact⟨typeIs_int s i t,λ_ e=>nomatch e⟩
 |ref p =>
  cases r
  rcases ty with ⟨rfl,xs,hq⟩ | ⟨rfl,o,hk,hc,hd⟩ | ⟨rfl,hk⟩ | ⟨rfl,S,n,hk⟩
  ·obtain⟨its,_,pl,_⟩:=I.list hq
   refine⟨pl.isList.typeIs,λa e=>?_⟩
   cases e
   obtain⟨o,n,e,c,hd,_⟩:=pl
   exact⟨o,e,hd⟩
  ·refine⟨⟨o,I.pA p o hk,hc⟩,λa e=>?_⟩
   cases e
   exact⟨o,I.pA _ o hk,hd⟩
  ·have z:∃o,s.heap.get? p=some o/\o.ExactDict:=by
    rcases hk with ⟨ai,hk⟩ | ⟨ai,hk⟩
    ·obtain⟨_,_,_,_,o,_,_,e,ex,_⟩:=I.au p _ hk
     exact⟨o,e,ex⟩
    ·obtain⟨_,_,_,_,o,_,_,e,ex,_⟩:=I.au p _ hk
     exact⟨o,e,ex⟩
   obtain⟨o,e,ex⟩:=z
   refine⟨⟨o,e,ex.1⟩,λa e2=>?_⟩
   cases e2
   exact⟨o,e,ex.2.1⟩
  ·obtain⟨o,_,_,_,e,ex,_⟩:=I.au p _ hk
   refine⟨⟨o,e,ex.1⟩,λa e2=>?_⟩
   cases e2
   exact⟨o,e,ex.2.1⟩
 |_=>exact False.elim ty
noncomputable def Sz (K:Frag) (T:String) (r:V->List V->Hp->VK->Prop) (to:TE) (t:TA):TE:=fun σ H Q=>to σ H λx H1=>GC K T x H1/\t σ H1 λxs H2=>r x xs H2 Q
variable {o e:Expr} {es:List Expr} {to:TE} {t:TA} {name:Str} {apos cU:Pos} {T id:String} {r:V->List V->Hp->VK->Prop}
theorem P7 (pa:PlainAttrs T) (slot:Slot T name id) (so:typeOf (.builtin id)=pure (.type "method_descriptor")) (hm:Sy X id r) (ho:PE X o to) (ha:PA X (e::es) t)
  (yS:attributeBase o name X.env (eval o X.env)=eval o X.env:=by rfl)
  (zy:((backTo cU (starEach (e::es) X.env)).all (λx=>!x.1)&&(backToKw cU (keywordEach [] X.env)).all (λx=>x.1.isSome)
   && decide ((e::es).length+([]:List Keyword).length+(if ([]:List Keyword).isEmpty then 0 else 1)<30))=true:=by rfl)
  (yT:(apos.endLine==cU.line)=true:=by rfl) (hs:starEach (e::es) X.env=(false,eval e X.env)::starEach es X.env:=by rfl) (yq:(backTo cU (starEach es X.env)).any (·.1)=false:=by rfl) :
  PE X (.Call (.Attribute o name apos) (e::es) [] cU) (Sz X.K T r to t):=by
 intro pins s σ H Q I h
 refine wpAny_Call_method_late yS zy yT rfl (aA (ho pins s σ H _ I h) λv s1 ⟨x,H1,I1,r1,ty,q1⟩=>?_)
 obtain⟨h1,h2⟩:=Om I1 r1 ty
 refine⟨T,id,pa,slot,so,h1,h2,?_⟩
 have hA:=ha cU pins s1 σ H1 _ I1 q1
 rw[hs] at hA |-
 refine Calls.callWith_builtin (by show (false||(backTo cU (starEach es X.env)).any (·.1))=false;rw[yq]<;>rfl) (Calls.evalArgs_plain ?_)
 exact aA hA λus s2 ⟨vs,H2,I2,r2,q2⟩=>hm pins s2 σ H2 x vs v us Q I2 r1 r2 q2
end
end L2
namespace L2
open PySem PySem.Spec PyProof.Rows
def SA (X:Cx) (id:String) (r:V->List V->Hp->VK->Prop):Prop :=
 ∀(pins:List (Addr×Obj)) (s:Shared) (σ:St) (H:Hp) (x:V) (xs:List V) (v:Value) (us:List Value) (Q:VK),Inv X pins σ H s->RelV x v->Vals xs us->r x xs H Q ->
  wpAny (model X.prog X.w) X.A (call (.builtin id) (v::us)) (EP X pins σ Q) X.xe s
theorem Vals.one:∀{x:V} {us:List Value},Vals [x] us->∃u,us=[u]/\RelV x u
 |_,_,.cons r .nil=>⟨_,rfl,r⟩
theorem Vals.rep {xs:List V} {us:List Value} (h:Vals xs us):∀k:Nat,Vals (List.replicate k xs).flatten (List.replicate k us).flatten
 |0=>.nil
 |k+1=>by
  rw[List.replicate_succ,List.replicate_succ,List.flatten_cons,List.flatten_cons]
  exact Vals.append h (Vals.rep h k)
theorem foldl_rep (its:List Value):∀(k:Nat) (acc:List Value),
  List.foldl (λx1 x2=>x1++x2) acc.toArray (List.replicate k its.toArray)=(acc++(List.replicate k its).flatten).toArray
 |0,acc=>by simp
 |k+1,acc=>by
  have e:acc.toArray++its.toArray=(acc++its).toArray:=by simp
  have e2:(acc++its)++(List.replicate k its).flatten=acc++(List.replicate (k+1) its).flatten:=by
   rw[List.replicate_succ,List.flatten_cons,List.append_assoc]
  rw[<- e2,<- foldl_rep its k (acc++its),<- e,List.replicate_succ,List.foldl_cons]
section
variable {X:Cx} {pins:List (Addr×Obj)} {σ:St} {H:Hp} {s:Shared} {l b:Addr} {xs ys zs:List V}
theorem Inv.Rv {its its':List Value} {n:Nat} {f:Array Value->Array Value} {t':Nat} (I:Inv X pins σ H s) (hH:H l=some (.lst xs))
  (e:s.heap.get? l=some { cls:=.type "list",data:=.seq its.toArray n }) (hf:f its.toArray=its'.toArray) (hv:Vals ys its') (hz:ys.length<=sizeLine) :
  Inv X pins σ (upd H l (.lst ys)) { s with heap:=s.heap.update l (Obj.mapSeq f),toks:=t' }:=by
 have q:=PySem.IsL.update e f
 rw[hf] at q
 refine I.write (x:=l) (e:=l) (by rw[hH];exact trivial) (.inl rfl) (λb' u hb hu=>(Heap.get?_update_other s.heap (Obj.mapSeq f) (Ne.symm hb)).trans hu) ⟨_,q⟩ ?_
 exact⟨hz,its',_,hv,q⟩
theorem Inv.F3 {its:List Value} {t':Nat} (I:Inv X pins σ H s) (hv:Vals ys its) (hz:ys.length<=sizeLine) :
  Inv X pins σ (upd H s.heap.objs.size (.lst ys)) { s with heap:=s.heap.push { cls:=.type "list",data:=.seq its.toArray },toks:=t' } :=
 I.laid (λ_ _ q=>Heap.get?_push_of_some _ q) (Nat.le_refl _) ⟨hz,its,0,hv,Heap.get?_push_size _ rfl⟩
theorem Inv.fresh (I:Inv X pins σ H s):H s.heap.objs.size=none:=I.au.fresh (Nat.le_refl _)
theorem Inv.vE (I:Inv X pins σ H s) (hH:H l=some (.lst xs)):xs.length<=sizeLine/\∃(its:List Value) (n:Nat),Vals xs its/\xs.length=its.length/\s.heap.get? l=some { cls:=.type "list",data:=.seq its.toArray n }:=by
 obtain⟨z,its,n,r,e⟩:=I.au l _ hH
 exact⟨z,its,n,r,r.length,e⟩
theorem KS {n:Nat} (h:n<=sizeLine):Builtin.List.listTooLong n=false:=by
 unfold Builtin.List.listTooLong
 exact decide_eq_false (by omega)
end
section
variable {X:Cx}
noncomputable def Mu:V->List V->Hp->VK->Prop:=λx vs H Q=>∃l xs y,x=.ref l/\vs=[y]/\H l=some (.lst xs)/\xs.length<sizeLine/\Q .ay (upd H l (.lst (xs++[y])))
theorem JO:SA X "list.append" Mu:=by
 intro pins s σ H x vs v us Q I rx rv h
 obtain⟨l,xs,y,rfl,rfl,hH,hz,q⟩:=h
 cases rx
 obtain⟨u,rfl,ru⟩:=rv.one
 obtain⟨z,its,n,r,hl,e⟩:=I.vE hH
 refine call_meets F.slot_list_append ⟨_,e,rfl⟩ F.entry_list_append (F.args_list_append_2 _ _) (PySem.list_append l its.toArray n u (by rw[List.size_toArray];omega)) ⟨e,?_⟩
 refine⟨.ay,_,I.Rv (its':=its++[u]) hH e (by simp) (r.append (.cons ru .nil)) ?_,rfl,q⟩
 rw[List.length_append,List.length_singleton]
 omega
noncomputable def Rw:R2:=λx y H Q=>∃l b xs zs,x=.ref l/\y=.ref b/\H l=some (.lst xs)/\H b=some (.lst zs)/\xs.length+zs.length<=sizeLine/\∀p,H p=none->Q (.ref p) (upd H p (.lst (xs++zs)))
theorem EA:aW X (binaryOp .Add) Rw:=by
 intro pins s σ H x y v u Q I rx ry h
 obtain⟨l,b,xs,zs,rfl,rfl,hH,hB,hz,q⟩:=h
 cases rx
 cases ry
 obtain⟨z,its,n,r,hl,e⟩:=I.vE hH
 obtain⟨z2,m8,n2,r2,kW,e2⟩:=I.vE hB
 refine PySem.P.add_list e e2 ?_ (by rw[List.size_toArray,List.size_toArray];omega)
 have ea:its.toArray++m8.toArray=(its++m8).toArray:=by simp
 rw[ea]
 exact⟨.ref _,_,I.F3 (t':=s.toks) (r.append r2) (by rw[List.length_append];omega),rfl,q _ I.fresh⟩
noncomputable def Rx:R2:=λx y H Q=>∃l k xs,x=.ref l/\y=.int k/\H l=some (.lst xs)/\-(2 ^ 63)<=k/\k<2 ^ 63/\xs.length*k.toNat<=sizeLine /\
 ∀p,H p=none->Q (.ref p) (upd H p (.lst (List.replicate k.toNat xs).flatten))
theorem len_rep {α:Type} (xs:List α) (k:Nat):(List.replicate k xs).flatten.length=k*xs.length:=by
 induction k with
 |zero=>simp
 |succ k ih=>rw[List.replicate_succ,List.flatten_cons,List.length_append,ih,Nat.succ_mul,Nat.add_comm]
theorem Oo:aW X (binaryOp .Mult) Rx:=by
 intro pins s σ H x y v u Q I rx ry h
 obtain⟨l,k,xs,rfl,rfl,hH,h1,h2,hz,q⟩:=h
 cases rx
 obtain⟨t,rfl⟩:=ry
 obtain⟨z,its,n,r,hl,e⟩:=I.vE hH
 have hlen:its.toArray.size*k.toNat<=sizeLine:=by rw[List.size_toArray,<- hl];exact hz
 have Ry:¬ its.toArray.size*k.toNat > (2 ^ 63-1) / 8:=by
  have:(sizeLine:Nat)<=(2 ^ 63-1) / 8:=by decide
  omega
 have Rz:¬ (!Builtin.List.listFitsIndex k)=true:=by
  rw[fitsIndex_both h1 h2]
  exact Bool.false_ne_true
 have P8:¬ Builtin.List.listTooLong (its.toArray.size*k.toNat)=true:=by
  rw[KS hlen]
  exact Bool.false_ne_true
 have RA:List.foldl (λx1 x2=>x1++x2) #[] (List.replicate (if its.toArray.isEmpty=true then 0 else k.toNat) its.toArray)=(List.replicate k.toNat its).flatten.toArray:=by
  have f0:∀m:Nat,List.foldl (λx1 x2=>x1++x2) #[] (List.replicate m its.toArray)=(List.replicate m its).flatten.toArray:=λm=>by
   have:=foldl_rep its m []
   rw[List.nil_append] at this
   exact this
  rw[f0]
  cases its with
  |nil=>simp
  |cons a r'=>rw[if_neg (by simp)]
 refine wpAny_binaryOp_repeat_ref (T:="list") (U:="int") (by decide) ⟨_,e,rfl⟩ (λs'=>typeIs_int s' k t) noFill_list_mul F.fills_int_mul F.slot_int_rmul repeat_list F.slot_int_index.lookup
  (call_meets F.slot_int_rmul (typeIs_int s k t) F.entry_int_rmul (F.args_int_rmul_2 _ _) (int___rmul___int_list k t l its.toArray n)
   ⟨e,rfl,⟨_,e,rfl⟩,call_meets F.slot_list_mul ⟨_,e,rfl⟩ F.entry_list_mul (F.args_list_mul_2 _ _) (AutoListH.list___mul___list_int_3 l its.toArray n k t Rz Ry P8) ⟨e,?_⟩⟩)
 rw[RA]
 exact⟨.ref _,_,I.F3 (t':=s.toks) (r.rep k.toNat) (by rw[len_rep,Nat.mul_comm];exact hz),rfl,q _ I.fresh⟩
end
section
variable {prog:Program} {w:World} {A:Around} {E:Value->Shared->Prop} {s:Shared}
set_option maxRecDepth 100000 in
end
section
variable {X:Cx}
end
end L2
namespace GD
open PySem PySem.W PySem.Calls PyProof.Rows
theorem Hz {P:Params} {h:Heap}:∀(ns:List Int) (vs:List Value),WellAll P h vs (ns.map WData.int)->IntsAre vs ns:=by
 intro ns
 induction ns with
 |nil =>
  intro vs w
  rw[List.map_nil] at w
  cases w
  exact .nil
 |cons n ns ih =>
  intro vs w
  rw[List.map_cons] at w
  cases w with
  |cons a b =>
   cases a
   exact .cons _ _ (ih _ b)
theorem JP {l:OpenLaw} {n:Nat} (hn:l.most=some n) {P:Params} {h:Heap} {args:List WData} {vals:List Value}
  (vF:l.row.toRowW.claim.pre args=true) (Ak:WellAll P h vals args) :
  ∃a vs ns,vals=[Value.ref a]/\args=[WData.list (ns.map WData.int)]/\h.get? a=some { cls:=.type "list",data:=.seq vs.toArray }/\IntsAre vs ns/\ns.length<=n:=by
 have SD:WShape.hasAll [] args [.list .int]=true:=(pre_splitW vF).1
 have hc:l.pre.holds [] { args:=args }=true:=(pre_splitW vF).2
 obtain⟨d,r,rfl,h1,h2⟩:=hasAllW_cons SD
 obtain rfl:=hasAllW_nil h2
 obtain⟨xs,rfl,h3⟩:=hasW_list h1
 obtain⟨ns,rfl⟩:=items_int h3
 have hlen:ns.length<=n:=by
  unfold OpenLaw.pre at hc
  have h4:(WTm.not (.lt (.lit (.int (n:Int))) (.len (.arg 0)))).holds [] { args:=[.list (ns.map .int)] }=true:=by
   have h4:=(holds_andW hc).1
   rw[hn] at h4
   exact h4
  have h5:=condW_of h4 (w_not (w_lt w_lit (w_len_list (w_arg rfl))))
  rw[List.length_map] at h5
  refine Nat.le_of_not_lt λq=>?_
  have q':(n:Int)<((ns.length:Nat):Int):=by omega
  first
   |(rw[decide_eq_true q'] at h5;exact absurd h5 (by decide))
   |(simp at h5;omega)
 cases Ak with
 |cons w1 w2 =>
  cases w2
  cases w1 with
  |list ho m9=>exact⟨_,_,ns,rfl,rfl,ho,Hz ns _ m9,hlen⟩
theorem JQ (l:OpenLaw) (args:List WData):l.row.toRowW.claim.post args (.bool true) args=true :=
 postW_of (r:=l.row.toRowW) (X:=(true==true))
  (show WShape.has [] (.bool true) .bool=true by first|rfl|decide|simp[WShape.has,WShape.arms,WShape.armsAll])
  (show (WTm.eq .res (.lit (.bool true))).value [] { args:=args,res:=some (.bool true),after:=args }=some (.bool (true==true)) from w_eq_bool (w_res rfl) w_lit) rfl
theorem Ip {l:OpenLaw} {n:Nat} {q:Program} {loose:List Str} {XP:(Str->Option Value)->Heap->Prop} {YP:World->Heap->Prop} {d:DefRec}
  (hn:l.most=some n) (sr:d.params.defaults=[])
  (call:∀(w:World) (cF aZ:Shared) (mg mb:Str->Option Value) (fa:Addr) (o:Obj) (pm cd doc:Value) (a:Addr) (vs:List Value) (ns:List Int),
   Ground q loose [] XP w cF mg mb aZ.heap->YP w aZ.heap ->
   aZ.heap.get? fa=some o->o.data=.func (docDef d.name d.params d.body d.scope pm cd doc)->aZ.heap.CodeRec cd d.name->mg d.name=some (.ref fa) ->
   aZ.heap.get? a=some { cls:=.type "list",data:=.seq vs.toArray }->IntsAre vs ns->ns.length<=n->aZ.gens=#[] ->
   codeAny (model l.prog w) callerA (.call (.ref fa) ⟨[.ref a],[]⟩) (λr s'=>r=.ok (.ret (.bool true))/\OldK aZ.heap s'.heap/\s'.os=aZ.os/\AllBare s'.gens) aZ) :
  WalkO q loose XP YP l.row.toRowW d [] (λf vs=>PySem.call f vs):=by
 intro w cF aZ mg mb G Y fa o pm cd doc dV kV ho hd fP hD su hg args vals as vF Vc Vo Ak GF
 obtain rfl:dV=.none:=Dflts.none hD sr
 obtain rfl:kV=.none:=Dflts.noKw hD
 obtain⟨a,vs,ns,rfl,rfl,zz,hints,hlen⟩:=JP hn vF Ak
 refine enter_call (codeAny_mono (call w cF aZ mg mb fa o pm cd doc a vs ns G Y ho (fd_plain hd) fP su zz hints hlen hg) λr s' hq=>?_)
 obtain⟨rfl,h2,h3,h4⟩:=hq
 exact⟨.inl ⟨.bool true,.bool true,[],rfl,λ_=>rfl,.bool true,JQ l _,λ_=>⟨List.Pairwise.nil,λ_ hm=>(nomatch hm)⟩⟩,h2,h3,h4⟩
section
variable {prog:Program} {w:World} {A:Around} {E:Value->Shared->Prop} {s:Shared} {K:Frag}
noncomputable def ledger (h:Heap) (L d:Addr):List (Addr×Obj):=(List.range h.objs.size).filterMap λa=>if a=L\/a=d then none else (h.get? a).map λo=>(a,o)
end
end GD
namespace L2
open PySem PySem.Spec PyProof.Rows
theorem CQ:∀{vs:List Value} {ns:List Int},IntsAre vs ns->Vals (ns.map V.int) vs
 |_,_,.nil=>.nil
 |_,_,.cons n t h=>.cons ⟨t,rfl⟩ (CQ h)
def zA (H:Hp):Prop:=∀b,H b=none\/∃o xs,H b=some (.cW o (.lst xs))
theorem KU {P:Program} {w:World} {K:Frag} {mg mb:Str->Option Value} {CX:iL} {k:Nat} {fa a:Addr} {fd:FuncData} {x:Str} {sp:Sp} {aZ:Shared} {vs:List Value} {ns:List Int}
  (KX:K.In aZ.heap) (pC:aZ.heap.Ns mainGlobals mg) (hb:aZ.heap.Ns builtinsNs mb) (SE:∀x:Str,x≠"__name__"->mb x=bootBuiltins x) (RB:aZ.heap.NoLimit) (hg:aZ.gens=#[])
  (ha:aZ.heap.get? a=some { cls:=.type "list",data:=.seq vs.toArray }) (hi:IntsAre vs ns) (hl:ns.length<=sizeLine) (hr:bV k callerA)
  (F:∀base:Heap,K.In base->base.Ns mainGlobals mg->bg P w K mg base CX k fa fd [x] sp) (P9:∀(s:Shared) (u:Value),BindsTo s fd ⟨[u],[]⟩ [(x,u)])
  (l9:∀H:Hp,zA H->bx K H a (ns.map V.int)->sp [.ref a] H (λv _=>v=.bl true) λ_ _ _=>False)
  (Al:∀H e s',CX [] H aZ (λ_ _ _=>False) e s'->False) :
  codeAny (model P w) callerA (.call (.ref fa) ⟨[.ref a],[]⟩) (λr s'=>r=.ok (.ret (.bool true))/\OldK aZ.heap s'.heap/\s'.os=aZ.os/\AllBare s'.gens) aZ:=by
 have rv:=CQ hi
 have RC:=hi.length
 have core:∀H:Hp,zA H->bx K H a (ns.map V.int)->bK P w H aZ.heap->(∀b,H b≠none->b=a)->(H a≠none->K.lookup a=none) ->
   codeAny (model P w) callerA (.call (.ref fa) ⟨[.ref a],[]⟩) (λr s'=>r=.ok (.ret (.bool true))/\OldK aZ.heap s'.heap/\s'.os=aZ.os/\AllBare s'.gens) aZ:=by
  intro H hO hS au hA hK
  have DW:∀{b:Addr} {o:Obj},aZ.heap.get? b=some o->H b=none->(kK aZ.heap H).get? b=some o:=λe n=>KA e n
  have si:∀{b:Addr} {o:Obj} {es:Array DictEntry} {ep:Nat},aZ.heap.get? b=some o->o.data=.dict es ep->H b=none:=λ{b o es ep} e d=>by
   cases q:H b with
   |none=>rfl
   |some u =>
    have e':b=a:=hA b (by rw[q];simp)
    subst e'
    rw[ha] at e;cases e
    have d':Data.seq vs.toArray _=Data.dict es ep:=d
    cases d'
  have wk:∀{b:Addr} {m:Str->Option Value},aZ.heap.Ns b m->(kK aZ.heap H).Ns b m:=λ{b m} ⟨o,es,ep,e,d,r⟩=>⟨o,es,ep,DW e (si e d),d,r⟩
  have GG:K.In (kK aZ.heap H):=λb o e=>DW (KX b o e) (by
   cases q:H b with
   |none=>rfl
   |some u =>
    have e':b=a:=hA b (by rw[q];simp)
    subst e'
    rw[hK (by rw[q];simp)] at e;cases e)
  have hM:Mod K mg (kK aZ.heap H):=⟨GG,wk pC,⟨mb,wk hb,SE⟩,let ⟨mc,h1,h2⟩:=RB;⟨mc,wk h1,h2⟩⟩
  have e0:vD P w K mg (kK aZ.heap H) callerA [] aZ H:=⟨rfl,hM,λb o e=>Ma e,Nat.le_of_eq (JH _ _),trivial,λb hb=>absurd (show b∈([]:List Addr) from hb) (by simp),au,.of_eq hg⟩
  refine codeAny_mono ((F _ GG (wk pC)).run callerA [] aZ H ⟨[.ref a],[]⟩ [.ref a] [.ref a] _ _ hr e0 (P9 aZ (.ref a)) (.cons rfl .nil) (l9 H hO hS)) λr s' h=>?_
  cases r with
  |error e=>exact(Al H e s' h).elim
  |ok fl =>
   cases fl with
   |next=>exact False.elim h
   |brk=>exact False.elim h
   |cont=>exact False.elim h
   |ret u =>
    obtain⟨v,H',os,bare,un,RD,r',q⟩:=h
    have q':v=.bl true:=q
    subst q'
    obtain rfl:u=Value.bool true:=r'
    refine⟨rfl,OldK.of_keep λb o e=>?_,os,bare⟩
    cases q:H b with
    |none=>exact un.keep b o e q (by intro z;exact absurd (show b∈([]:List Addr) from z) (by simp)) (by simp)
    |some u =>
     rcases hO b with z | ⟨ob,xs,z⟩
     ·rw[q] at z;cases z
     ·have z2:=un.gU b ob _ z
      obtain⟨e1,_⟩:=au b _ z
      obtain⟨e2,_⟩:=RD b _ z2
      rw[e] at e1;cases e1
      exact e2
 cases hk:K.lookup a with
 |some o =>
  have e:=KX a o hk
  rw[ha] at e
  cases e
  refine core (λ_=>none) (λ_=>.inl rfl) (.inr ⟨_,vs.toArray,_,hk,rfl,rfl,rfl,by rw[List.size_toArray,RC];exact hl,by simpa using rv⟩) (λb u z=>by have z':(none:Option HO)=some u:=z;cases z') (λb z=>absurd rfl z) λz=>absurd rfl z
 |none =>
  refine core (λb=>if b=a then some (.cW { cls:=.type "list",data:=.seq vs.toArray } (.lst (ns.map V.int))) else none) (λb=>?_) (.inl (.inr ⟨{ cls:=.type "list",data:=.seq vs.toArray },if_pos rfl⟩)) (λb u z=>?_) (λb z=>?_) λ_=>hk
  ·by_cases hb:b=a
   ·exact .inr ⟨_,_,if_pos hb⟩
   ·exact .inl (if_neg hb)
  ·by_cases hb:b=a
   ·have z':=(if_pos hb).symm.trans z
    cases z'
    subst hb
    exact⟨ha,by rw[List.length_map];exact hl,vs,_,rv,ha⟩
   ·have z':=(if_neg hb).symm.trans z
    cases z'
  ·by_cases hb:b=a
   ·exact hb
   ·exact absurd (if_neg hb) z
end L2
namespace L2
open PySem PySem.Spec PyProof.Rows
noncomputable abbrev Vp {K:Frag} {h:Heap} (_:K.In h):Frag:=K
theorem Mv {l:PySem.W.OpenLaw} {n k:Nat} {q:Program} {loose:List Str} {XP:(Str->Option Value)->Heap->Prop} {YP:World->Heap->Prop} {d:DefRec} {K:Params->Frag} {CX:World->iL} {sp:World->Sp} {x:Str}
  (hn:l.most=some n) (wq:n<=sizeLine) (sr:d.params.defaults=[]) (hr:bV k callerA)
  (hY:∀(w:World) (h:Heap),YP w h->(K w.params).In h)
  (F:∀(w:World) (mg:Str->Option Value) (fa:Addr) (h:Heap),(K w.params).In h->h.Ns mainGlobals mg->mg d.name=some (.ref fa) ->
   ∃fd:FuncData,(∀(s:Shared) (u:Value),BindsTo s fd ⟨[u],[]⟩ [(x,u)]) /\
    ∀base:Heap,(K w.params).In base->base.Ns mainGlobals mg->bg l.prog w (K w.params) mg base (CX w) k fa fd [x] (sp w))
  (l9:∀(w:World) (H:Hp) (a:Addr) (ns:List Int),ns.length<=n->zA H->bx (K w.params) H a (ns.map V.int)->sp w [.ref a] H (λv _=>v=.bl true) λ_ _ _=>False)
  (Al:∀(w:World) (H:Hp) (s:Shared) (e:Value) (s':Shared),CX w [] H s (λ_ _ _=>False) e s'->False) :
  PySem.W.WalkO q loose XP YP l.row.toRowW d [] (λf vs=>PySem.call f vs):=by
 refine GD.Ip hn sr λw cF aZ mg mb fa o pm cd doc a vs ns G Y ho hd fP su zz hints hlen hg=>?_
 have KX:=hY w _ Y
 obtain⟨fd,hb,hF⟩:=F w mg fa _ KX G.T.g su
 exact KU KX G.T.g G.T.b G.T.builtins G.T.nolimit hg zz hints (Nat.le_trans hlen wq) hr hF hb (λH hO hS=>l9 w H a ns hlen hO hS) λH e s'=>Al w H aZ e s'
end L2
namespace L2
open PySem PySem.Spec PyProof.Rows
noncomputable def mN (s:Stmt):Arguments:=match s with
 | .FunctionDef _ a _ _ _ _ _ _ _ _=>a
 |_=>{ posonlyargs:=[],args:=[],vararg:=none,kwonlyargs:=[],kw_defaults:=[],kwarg:=none,defaults:=[] }
noncomputable def kx (s:Stmt):List Stmt:=match s with
 | .FunctionDef _ _ b _ _ _ _ _ _ _=>b
 |_=>[]
noncomputable def bu (s:Stmt):Scope:=match s with
 | .FunctionDef _ _ _ _ _ _ sc _ _ _=>sc
 |_=>{ kind:=.function,names:=[],isGenerator:=false,isCoroutine:=false }
noncomputable abbrev bB:iL:=λ_ _ _ _ _ _=>False
noncomputable abbrev E0:XK:=λ_ _ _=>False
theorem Qa {X:Cx}:Passes bB X E0:=λ_ _ _ _ _ _ _ h=>h.elim
structure nF (K:Frag) (x qual:Str) (st:Stmt) (f:Addr) (fd:FuncData):Prop where
 ex:∃(oc:Value) (od:Option Addr) (kV doc pm:Value) (an:Option Addr) (br ct:Value) (l8:Array (Option Value)),
  fd=PySem.W.fnOf x qual (mN st) (kx st) (bu st) .none kV doc pm an br ct/\K.lookup f=some ⟨oc,od,.func fd,l8⟩/\PySem.W.codeIn K br qual=true
 kp:PySem.W.keepIn K (.ref f)=true
section
variable {P:Program} {w:World} {K:Frag} {mg:Str->Option Value} {base:Heap}
theorem nF.ok {x qual:Str} {st:Stmt} {f:Addr} {fd:FuncData} {N ps:List Str} {k:Nat} {sp:Sp} (F:nF K x qual st f fd) (S:bO N ps (bu st)) (len:∀vs H Q E,sp vs H Q E->vs.length=ps.length)
  (yR:∀(br:Value) (A:Around) (outer:List Env) (s:Shared) (H:Hp) (vs:List V) (Q:VK) (E:XK),bV k (A.deeper (envOfC qual (bu st) s.heap.objs.size f br))->sp vs H Q E ->
   ∃t,cO (m7 bB P w K mg base N qual (bu st) f br A outer s H E).rX (kx st) t/\t { nx:=λ_ H'=>Q .ay H',rt:=Q } (start N vs) H):bg P w K mg base bB (k+1) f fd ps sp:=by
 obtain⟨oc,od,kV,doc,pm,an,br,ct,l8,rfl,lk,fP⟩:=F.ex
 refine P0 lk fP S len λA outer s H vs Q E hr l9=>?_
 obtain⟨t,h,q⟩:=yR br A outer s H vs Q E hr l9
 exact⟨t,h.rX,q⟩
theorem nF.binds {x qual:Str} {st:Stmt} {f:Addr} {fd:FuncData} {ps:List Str} (F:nF K x qual st f fd)
  (h:∀(kV doc pm:Value) (an:Option Addr) (br ct:Value) (us:List Value),us.length=ps.length->bindArgs (PySem.W.fnOf x qual (mN st) (kx st) (bu st) .none kV doc pm an br ct) ⟨us,[]⟩=pure (ps.zip us)):Binds K fd ps []:=by
 obtain⟨oc,od,kV,doc,pm,an,br,ct,l8,rfl,lk,fP⟩:=F.ex
 exact .all (h kV doc pm an br ct)
theorem EB {x qual:Str} {st:Stmt} {f:Addr} {oc:Value} {od an:Option Addr} {l8:Array (Option Value)} {kV doc pm br ct:Value} (l:K.lookup f=some ⟨oc,od,.func (PySem.W.fnOf x qual (mN st) (kx st) (bu st) .none kV doc pm an br ct),l8⟩)
  (c:PySem.W.codeIn K br qual=true) (k:PySem.W.keepIn K (.ref f)=true):nF K x qual st f (PySem.W.fnOf x qual (mN st) (kx st) (bu st) .none kV doc pm an br ct):=⟨⟨oc,od,kV,doc,pm,an,br,ct,l8,rfl,l,c⟩,k⟩
end
section
variable {X:Cx}
end
def ji (H H':Hp):Prop:=∀b o,H b=some o->H' b=some o
theorem ji.refl (H:Hp):ji H H:=λ_ _ h=>h
end L2
namespace L2
open PySem PySem.Spec PyProof.Rows
theorem IZ {P:Program} {w:World} {A:Around} {R:Result->Shared->Prop} {s:Shared} {el tg src:Expr} {tests:List Expr} {sc:Scope} {ps:Pos} {fT av:Value} {ce:Env} (J:Nat->Shared->Prop)
  (turn:∀n s,J n s->wpAny (model P w) A (pyNext fT) (λr s1=>match r with
   |none=>R (.ok .next) s1
   |some v=>wpAny (model P w) A (letOwnedTupleGo tg fT v) (λ_ s2=>wpAny (model P w) A (assign tg ce v) (λ_ s3 =>
     wpAny (model P w) A (forIn tests true λc r=>if r=true then do let ok <- isTrue c ce (eval c ce);pure (ForInStep.yield ok) else pure (ForInStep.yield r)) (λok s4 =>
      if ok=true then wpAny (model P w) A (eval el ce) (λy s5=>wpAny (model P w) A (call (.builtin "list.append") [av,y]) (λ_ s6=>∃m,m<n/\J m s6) (λ_ _=>False) s5) (λ_ _=>False) s4
      else ∃m,m<n/\J m s4) (λ_ _=>False) s3) (λ_ _=>False) s2) (λ_ _=>False) s1) (λ_ _=>False) s)
  (n:Nat) (h:J n s):codeAny (model P w) A (.compLoop (.ListComp el [⟨tg,src,tests,0⟩] sc ps) 0 fT av ce) R s:=by
 refine codeAny_loop rfl J (λn s hJ=>?_) n h
 show wpAny _ A ((compTurn (.ListComp el [⟨tg,src,tests,0⟩] sc ps) 0 fT av ce).onRaise (λx=>do noteFrame x ce;theTreesLotGoes x)) _ _ s
 refine wpAny_noted ?_
 rw[compTurn_list]
 refine wpAny_bind (wpAny_standAt (wpAny_bind (wpAny_mono (turn n s hJ) (λr s1 h1=>?_) λ_ _ z=>z.elim)))
 cases r with
 |none=>exact wpAny_pure h1
 |some v =>
  refine wpAny_bind (wpAny_mono h1 (λ_ s2 h2=>?_) λ_ _ z=>z.elim)
  refine wpAny_bind (wpAny_mono h2 (λ_ s3 h3=>wpAny_bind (wpAny_mono h3 (λok s4 h4=>?_) λ_ _ z=>z.elim)) λ_ _ z=>z.elim)
  cases ok with
  |false=>exact wpAny_pure ⟨rfl,h4⟩
  |true =>
   exact wpAny_bind (wpAny_bind (wpAny_mono h4 (λy s5 h5=>wpAny_bind (wpAny_mono h5 (λ_ s6 h6=>wpAny_pure (wpAny_pure ⟨rfl,h6⟩)) λ_ _ z=>z.elim)) λ_ _ z=>z.elim))
theorem xy (env:Env):∀(l:List (Str×NameKind)) (acc:List (Str×Addr)),(∀n,(n,NameKind.free)∈l->∃c,env.cells.lookup n=some c) ->
  ∃cl,(forIn l acc (λ(p:Str×NameKind) (cs:List (Str×Addr))=>(do
   if (p.2==NameKind.free)=true then do let c <- cellOf env p.1;pure (ForInStep.yield ((p.1,c)::cs)) else pure (ForInStep.yield cs):Sem (ForInStep (List (Str×Addr))))))=pure cl /\
   ∀n c,cl.lookup n=some c↔(((n,NameKind.free)∈l/\env.cells.lookup n=some c)\/((n,NameKind.free)∉l/\acc.lookup n=some c))
 | [],acc,_=>⟨acc,rfl,λn c=>by simp⟩
 |(x,k)::r,acc,h=>by
  rw[List.forIn_cons]
  cases hk:(k==NameKind.free) with
  |false =>
   have bz:k≠.free:=by intro e;rw[e] at hk;cases hk
   obtain⟨cl,e,q⟩:=xy env r acc λn hn=>h n (List.mem_cons_of_mem _ hn)
   refine⟨cl,?_,λn c=>?_⟩
   ·simp only[Bool.false_eq_true,if_false]
    exact e
   ·rw[q n c]
    have:(n,NameKind.free)∈(x,k)::r↔(n,NameKind.free)∈r:=by
     constructor
     ·intro hm
      rcases List.mem_cons.mp hm with z|z
      ·injection z with _ z2
       exact absurd z2.symm bz
      ·exact z
     ·exact List.mem_cons_of_mem _
    rw[this]
  |true =>
   have he:k=.free:=by cases k<;>first|rfl|cases hk
   subst he
   obtain⟨c0,Am⟩:=h x List.mem_cons_self
   obtain⟨cl,e,q⟩:=xy env r ((x,c0)::acc) λn hn=>h n (List.mem_cons_of_mem _ hn)
   refine⟨cl,?_,λn c=>?_⟩
   ·simp only[if_true,cellOf,Am]
    exact e
   ·rw[q n c]
    by_cases hx:n=x
    ·subst hx
     constructor
     ·rintro (⟨_,z⟩ | ⟨_,z⟩)
      ·exact .inl ⟨List.mem_cons_self,z⟩
      ·rw[List.lookup_cons,beq_self_eq_true] at z
       exact .inl ⟨List.mem_cons_self,Am.trans z⟩
     ·rintro (⟨_,z⟩ | ⟨z,_⟩)
      ·by_cases hm:(n,NameKind.free)∈r
       ·exact .inl ⟨hm,z⟩
       ·refine .inr ⟨hm,?_⟩
        rw[List.lookup_cons,beq_self_eq_true]
        exact Am.symm.trans z
      ·exact absurd List.mem_cons_self z
    ·have:(n,NameKind.free)∈(x,NameKind.free)::r↔(n,NameKind.free)∈r:=by
      constructor
      ·intro hm
       rcases List.mem_cons.mp hm with z|z
       ·injection z with z1 _
        exact absurd z1 hx
       ·exact z
      ·exact List.mem_cons_of_mem _
     rw[this,List.lookup_cons,beq_false_of_ne hx]
theorem yr {env:Env} {sc:Scope} (h:∀n,(n,NameKind.free)∈sc.names->∃c,env.cells.lookup n=some c) :
  ∃cl,closureFor sc env=pure cl/\∀n c,cl.lookup n=some c↔((n,NameKind.free)∈sc.names/\env.cells.lookup n=some c):=by
 obtain⟨cl,e,q⟩:=xy env sc.names [] h
 refine⟨cl,?_,λn c=>?_⟩
 ·unfold closureFor
  exact(congrArg (λz:Sem (List (Str×Addr))=>z >>= λr=>pure r) e)
 ·rw[q n c]
  simp
theorem Dg (f:Str->NameKind->NameKind) (x:Str):∀l:List (Str×NameKind),(l.map λp=>(p.1,f p.1 p.2)).lookup x=(l.lookup x).map (f x)
 | []=>rfl
 |(n,k)::r=>by
  rw[List.map_cons,List.lookup_cons,List.lookup_cons]
  cases h:x==n with
  |true =>
   have e:x=n:=by simpa using h
   subst e
   rfl
  |false=>exact Dg f x r
theorem tM (sc:Scope) (env:Env) (x:Str):(relabel sc env).names.lookup x=(sc.names.lookup x).map λk=>if (k==NameKind.free&&env.scope.kind==.function&&env.kindOf x==some .cell)=true then NameKind.cell else k:=by
 rw[<- Dg (λx k=>if (k==NameKind.free&&env.scope.kind==.function&&env.kindOf x==some .cell)=true then NameKind.cell else k)]
 show List.lookup x (sc.names.map _)=_
 congr 1
 apply List.map_congr_left
 rintro ⟨n,k⟩ _
 dsimp only
 split<;>rfl
noncomputable abbrev fW (X:Cx) (N:List Str) (sc:Scope) (cl:List (Str×Addr)) (C:Addr) (s:Shared) (H:Hp) (ex:List Addr) (pn:List (Addr×Obj)):Cx where
 prog:=X.prog
 w:=X.w
 K:=X.K
 mg:=X.mg
 base:=X.base
 A:=X.A
 N:=N
 cF:=s
 qZ:=H
 env:=compEnvC sc cl C X.env
 outer:=X.stack
 stack:=X.stack
 ex:=ex
 fn:=λ_=>false
 calm:=X.calm
 pn:=pn
 xe:=λ_ _=>False
structure oz (X:Cx) (sc:Scope) (N:List Str) (nt:Nat) (cap:List Nat):Prop where
 kind:sc.kind=.function
 yt:∀x∈sc.names,x.2≠.cell
 names:∀x∈sc.names,x.2=.local->sc.names.lookup x.1=some .local
 frees:∀x∈sc.names,x.2=.free->sc.names.lookup x.1=some .free/\(X.env.scope.names.lookup x.1=some .cell\/X.env.scope.names.lookup x.1=some .free)
 len:N.length=nt+cap.length
 zB:∀(k:Nat) j,cap[k]?=some j->∃x,X.N[j]?=some x/\N[nt+k]?=some x/\(x,NameKind.free)∈sc.names
noncomputable def jJ (nt:Nat) (cap:List Nat) (σ:St):St:=List.replicate nt none++cap.map λj=>(σ[j]?).getD none
def PF (X:Cx) (tests:List Expr) (t:TT):Prop :=
 ∀(pins:List (Addr×Obj)) (s:Shared) (σ:St) (H:Hp) (Q:Bool->Hp->Prop),Inv X pins σ H s->t σ H Q ->
  wpAny (model X.prog X.w) X.A (forIn tests true λc r=>if r=true then do let ok <- isTrue c X.env (eval c X.env);pure (ForInStep.yield ok) else pure (ForInStep.yield r)) (TP X pins σ Q) X.xe s
noncomputable def RE:TT:=λ_ H Q=>Q true H
theorem Oq {X:Cx}:PF X [] RE:=λ_ _ _ H _ I h=>wpAny_tests_nil ⟨H,I,h⟩
theorem Ot {X:Cx} {c:Expr} {t:TT} (h:PT X c t):PF X [c] t:=λpins s σ H Q I hw=>wpAny_tests_one (h pins s σ H Q I hw)
def md (g:TG) (nt:Nat):Prop:=∀(x:V) (o caps:St) (H:Hp) (R:St->Hp->Prop),o.length=nt->g x (o++caps) H R->g x (o++caps) H fun τ H2=>(∃o2:St,o2.length=nt/\τ=o2++caps)/\R τ H2
noncomputable def lL (cap:List Nat) (σ:St):St:=cap.map λj=>(σ[j]?).getD none
def CW (J:It) (nt:Nat) (caps:St) (g:TG) (tf:TT) (te:TE) (H:Hp) (Q:VK):Prop:=∃W:Nat->Nat->List V->Hp->Prop,(∃m,W 0 m [] H) /\
 ∀i m acc H2,W i m acc H2->(J.stop i H2/\acc.length<=sizeLine/\∀D,H2 D=none->Q (.ref D) (upd H2 D (.lst acc))) \/
  (J.go i H2/\acc.length<=sizeLine/\∃N:List V->Hp->Prop,(∀dN H',N dN H'->∃m',m' < m/\W (i+1) m' dN H') /\
   ∀o x H3,o.length=nt->J.rZ i H2 x H3->g x (o++caps) H3 fun nG H4=>tf nG H4 λb H5=>if b=true then te nG H5 λv H6=>N (acc++[v]) H6 else N acc H5)
noncomputable def qK (wi:TI) (nt:Nat) (cap:List Nat) (g:TG) (tf:TT) (te:TE):TE:=fun σ H Q=>wi σ H λJ H1=>CW J nt (lL cap σ) g tf te H1 Q
section
variable {fs ex:List Addr} {H H':Hp} {h h1 h2:Heap} {P:Program} {w:World}
theorem Un.adopt {D:Addr} {o:HO} (u:Un fs ex H H' h h1) (hp:h.objs.size<=D) (hn:H' D=none):Un fs ex H (upd H' D o) h h1 where
 keep:=u.keep
 slot:=u.slot
 free:=λb ob q n hx=>by rw[bc (Nat.ne_of_lt (Nat.lt_of_lt_of_le (Heap.lt_size q) hp))];exact u.free b ob q n hx
 there:=u.there
 iC:=λb xs q=>by rw[bc (dg (u.iC b xs q) hn)];exact u.iC b xs q
 gU:=λb ob xs q=>by rw[bc (dg (u.gU b ob xs q) hn)];exact u.gU b ob xs q
 jf:=λb ps q=>by
  obtain⟨more,e⟩:=u.jf b ps q
  exact⟨more,by rw[bc (dg e hn)];exact e⟩
theorem Un.but {C:Addr} (u:Un fs ex H H' h h1) (hp:h.objs.size<=C) (sb:Heap.SameBut C h1 h2):Un fs ex H H' h h2:=by
 have ne:∀b ob,h.get? b=some ob->b≠C:=λb ob q=>Nat.ne_of_lt (Nat.lt_of_lt_of_le (Heap.lt_size q) hp)
 refine⟨λb ob q n hb hx=>(sb.2 b (ne b ob q)).trans (u.keep b ob q n hb hx),λb ob q n hb hx=>?_,u.free,λb ob q hx=>?_,u.iC,u.gU,u.jf⟩
 ·obtain⟨sl,e⟩:=u.slot b ob q n hb hx
  exact⟨sl,(sb.2 b (ne b ob q)).trans e⟩
 ·obtain⟨o',e⟩:=u.there b ob q hx
  exact⟨o',(sb.2 b (ne b ob q)).trans e⟩
theorem bK.but {C:Addr} (x:bK P w H h1) (hn:H C=none) (sb:Heap.SameBut C h1 h2):bK P w H h2:=λa o e =>
 (x a o e).gv (λb u hb q=>(sb.2 b (by
  rintro rfl
  rcases hb with z|z
  ·subst z;rw[hn] at e;cases e
  ·rw[hn] at z;cases z)).trans q) (λ_ q=>q) λ_ _ q=>q
theorem bK.adopt {D:Addr} {o:HO} (x:bK P w H h) (hn:H D=none) (new:cb P w (upd H D o) h D o):bK P w (upd H D o) h:=λb u e=>by
 by_cases hb:b=D
 ·subst hb;rw[ck] at e;cases e;exact new
 ·rw[bc hb] at e
  exact(x b u e).gv (λc v _ q=>q) (λc q=>by rw[bc (dg q hn)];exact q) λc xs q=>by rw[bc (dg q hn)];exact q
end
section
variable {X:Cx} {sc:Scope} {N:List Str} {nt:Nat} {cap:List Nat} {cl:List (Str×Addr)} {s:Shared} {h1:Heap} {H:Hp} {σ:St} {pins:List (Addr×Obj)} {fp:List Addr} {C:Addr} {t':Nat}
theorem Inv.block (I:Inv X pins σ H s) (S:oz X sc N nt cap) (cD:∀n c,cl.lookup n=some c↔((n,NameKind.free)∈sc.names/\X.env.cells.lookup n=some c)) (hf:∀b∈fp,cj X pins H b) (ic:∀b∈fp,b<s.heap.objs.size)
  (hk:∀b o,s.heap.get? b=some o->h1.get? b=some o) (hC:s.heap.objs.size<=C) (pC:∃m,h1.Ns C m):Inv (fW X N sc cl C s H fp (X.pn++pins)) [] (jJ nt cap σ) H { s with heap:=h1,toks:=t' }:=by
 have qL:∀b∈fu X.stack,b∈X.env.locals::X.fs:=I.kB
 have Vq:C∉fu X.stack:=λz=>by
  rcases List.mem_cons.mp (I.kB C z) with e|e
  ·exact absurd (Nat.lt_of_lt_of_le I.lt hC) (by rw[e];exact Nat.lt_irrefl _)
  ·exact I.rf hC e
 have yU:∀x,(relabel sc X.env).names.lookup x=some .cell\/(relabel sc X.env).names.lookup x=some .free->(x,NameKind.free)∈sc.names:=λx hx=>by
  rw[tM] at hx
  cases e:sc.names.lookup x with
  |none=>rw[e] at hx;rcases hx with z|z<;>cases z
  |some k =>
   have hm:(x,k)∈sc.names:=by
    obtain⟨l1,l2,e1,_⟩:=List.lookup_eq_some_iff.mp e
    rw[e1]
    simp
   rw[e] at hx
   cases k with
   |free=>exact hm
   |cell=>exact absurd rfl (S.yt _ hm)
   |_=>exfalso;revert hx;simp
 have xV:∀x,(x,NameKind.free)∈sc.names->∃c,X.env.cells.lookup x=some c:=λx hx=>I.ok.has x (S.frees _ hx rfl).2
 have ok:Cx.Ok (fW X N sc cl C s H fp (X.pn++pins)):=by
  refine⟨I.ok.mod,?_,I.ok.glob,I.ok.blt,hC,?_,?_,?_,I.ok.hd,I.ok.frames,.inl rfl,?_,I.bs,Nat.le_trans I.ok.hZ I.sz,?_,?_,I.stack,I.xP⟩
  ·exact S.kind
  ·intro x y c hx hy
   exact I.ok.inj x y c ((cD x c).mp hx).2 ((cD y c).mp hy).2
  ·intro x hx
   have hm:=yU x hx
   obtain⟨c,e⟩:=xV x hm
   exact⟨c,(cD x c).mpr ⟨hm,e⟩⟩
  ·intro x c hx
   cases hx
  ·intro b hb
   refine⟨Nat.ne_of_lt (Nat.lt_of_lt_of_le (ic b hb) hC),λx c e=>?_⟩
   exact(hf b hb).2.2.2.2.1 x c ((cD x c).mp e).2
  ·intro b o e hb
   rcases(hf b hb).2.2.2.1 with z|z
   ·exact I.ok.kL b o e z
   ·exact absurd (Nat.lt_of_lt_of_le (Heap.lt_size e) (Nat.le_trans I.ok.hZ z)) (Nat.lt_irrefl _)
  ·intro b hb z
   rcases List.mem_cons.mp (qL b z) with e|e
   ·exact(hf b hb).2.1 e
   ·exact(hf b hb).2.2.1 e
 obtain⟨m,hm⟩:=pC
 obtain⟨mX,SF,An⟩:=I.loc
 refine⟨ok,rfl,I.bare,Un.kept hk,⟨m,hm,λi x v e1 e2 e3=>?_⟩,λx c e=>?_,I.au.fresh hC,λx c e=>I.gM x c ((cD x c).mp e).2,λp hp=>?_,I.au.kept hk,?_⟩
 ·
  have hi:nt<=i:=by
   apply Nat.le_of_not_lt
   intro aU
   have:(jJ nt cap σ)[i]?=some none:=by
    unfold jJ
    rw[List.getElem?_append_left (by simpa using aU),List.getElem?_replicate,if_pos aU]
   rw[this] at e2
   cases e2
  have jv:(cap.map λj=>(σ[j]?).getD none)[i-nt]?=some (some v):=by
   have e:=e2
   unfold jJ at e
   rw[List.getElem?_append_right (by simpa using hi)] at e
   simpa using e
  rw[List.getElem?_map] at jv
  cases ej:cap[i-nt]? with
  |none=>rw[ej] at jv;cases jv
  |some j =>
   rw[ej] at jv
   have ev:(σ[j]?).getD none=some v:=Option.some.inj jv
   have sv:σ[j]?=some (some v):=by
    cases q:σ[j]? with
    |none=>rw[q] at ev;cases ev
    |some z=>rw[q] at ev;exact congrArg some ev
   obtain⟨y,f1,f2,f3⟩:=S.zB _ _ ej
   rw[Nat.add_sub_cancel' hi] at f2
   have Ao:y=x:=Option.some.inj (f2.symm.trans e1)
   subst Ao
   obtain⟨g1,g2⟩:=S.frees _ f3 rfl
   have Ap:nA X.env.scope y:=.inr g2
   obtain⟨u,r,l⟩:=An j y v f1 sv Ap
   refine⟨u,r,.inr ⟨?_,?_⟩⟩
   ·show (relabel sc X.env).names.lookup y=some .cell\/(relabel sc X.env).names.lookup y=some .free
    rw[tM,g1]
    simp only[Option.map_some]
    split
    ·exact .inl rfl
    ·exact .inr rfl
   ·rcases l with ⟨k,_⟩ | ⟨_,c,hc,lK⟩
    ·exfalso
     have k':X.env.scope.names.lookup y=some .local:=k
     dsimp only at g2
     rw[k'] at g2
     rcases g2 with z|z<;>cases z
    ·obtain⟨oc,ho,hd⟩:=lK
     exact⟨c,(cD y c).mpr ⟨f3,hc⟩,oc,hk _ _ ho,hd⟩
 ·obtain⟨v,oc,ho,hd⟩:=I.cell x c ((cD x c).mp e).2
  exact⟨v,oc,hk _ _ ho,hd⟩
 ·have sx:p∈X.pn++pins:=by simpa using hp
  obtain⟨e,n,ne,nf,d⟩:=I.pin p sx
  refine⟨hk _ _ e,n,Nat.ne_of_lt (Nat.lt_of_lt_of_le (Heap.lt_size e) hC),λz=>?_,d⟩
  rcases List.mem_cons.mp (qL p.1 z) with q|q
  ·exact ne q
  ·exact nf q
 ·unfold jJ
  rw[List.length_append,List.length_replicate,List.length_map]
  exact S.len.symm
end
section
variable {X:Cx}
end
end L2
namespace L2
open PySem PySem.Spec PyProof.Rows
inductive Kn where
 |ay|bl|int|str|tup|lst|aY
 deriving DecidableEq
noncomputable def pE (K:Frag) (H:Hp):V->Kn->Prop
 | .ay,.ay=>True
 | .bl _,.bl=>True
 | .int _,.int=>True
 | .str _,.str=>True
 | .ref a,.tup=>∃xs,aP K H a xs
 | .ref a,.lst=>∃xs,bx K H a xs
 | .ref a,.aY=>∃ai,H a=some (.dK ai)
 |_,_=>False
noncomputable def oW:Kn->String->Bool
 | .int,"int"=>true
 | .bl,"int"=>true
 | .bl,"bool"=>true
 | .str,"str"=>true
 | .tup,"tuple"=>true
 | .lst,"list"=>true
 |_,_=>false
section
variable {X:Cx}
theorem Inv.oA {pins:List (Addr×Obj)} {σ:St} {H:Hp} {s:Shared} {a:Addr} {xs:List V} (I:Inv X pins σ H s) (h:aP X.K H a xs):∃o,s.heap.get? a=some o/\o.cls=.type "tuple":=by
 obtain⟨its,r,⟨o,e,c,_⟩,_⟩:=I.tuple h
 exact⟨o,e,c⟩
theorem Inv.qy {pins:List (Addr×Obj)} {σ:St} {H:Hp} {s:Shared} {a:Addr} {xs:List V} (I:Inv X pins σ H s) (h:bx X.K H a xs):∃o,s.heap.get? a=some o/\o.cls=.type "list":=by
 obtain⟨its,r,⟨o,n,e,c,_⟩,_⟩:=I.list h
 exact⟨o,e,c⟩
theorem Inv.qz {pins:List (Addr×Obj)} {σ:St} {H:Hp} {s:Shared} {a:Addr} {ai:List (Key×V)} (I:Inv X pins σ H s) (h:H a=some (.dK ai)):∃o,s.heap.get? a=some o/\o.cls=.type "dict":=by
 obtain⟨_,_,vs,_,p⟩:=(show cb X.prog X.w H s.heap a (.dK ai) from I.au a _ h)
 obtain⟨o,es,ep,h1,h2,_⟩:=p
 exact⟨o,h1,h2.1⟩
theorem H0:bP X (.builtin "isinstance") (λxs H Q=>∃x k,xs=[x,.ty "int"]/\pE X.K H x k/\Q (.bl (oW k "int")) H):=by
 intro pins s σ H xs us Q I r h
 obtain⟨x,k,rfl,hk,q⟩:=h
 obtain⟨u,c,rfl,ru,rc⟩:=vals2 r
 cases rc
 cases k with
 |ay =>
  cases x with
  |ay =>
   cases ru
   exact IsiPair.NoneType_int ⟨.bl false,H,I.tok _,rfl,q⟩
  |_=>exact hk.elim
 |bl =>
  cases x with
  |bl b =>
   cases ru
   exact IsiPair.bool_int ⟨.bl true,H,I,rfl,q⟩
  |_=>exact hk.elim
 |int =>
  cases x with
  |int i =>
   obtain⟨t,rfl⟩:=ru
   exact IsiPair.int_int ⟨.bl true,H,I,rfl,q⟩
  |_=>exact hk.elim
 |str =>
  cases x with
  |str y =>
   obtain⟨t,rfl⟩:=ru
   exact IsiPair.str_int ⟨.bl false,H,I.tok _,rfl,q⟩
  |_=>exact hk.elim
 |tup =>
  cases x with
  |ref a =>
   cases ru
   obtain⟨z,hz⟩:=hk
   obtain⟨o,ho,hc⟩:=I.oA hz
   exact IsiPair.tuple_int ho hc ⟨.bl false,H,I.tok _,rfl,q⟩
  |_=>exact hk.elim
 |lst =>
  cases x with
  |ref a =>
   cases ru
   obtain⟨z,hz⟩:=hk
   obtain⟨o,ho,hc⟩:=I.qy hz
   exact IsiPair.list_int ho hc ⟨.bl false,H,I.tok _,rfl,q⟩
  |_=>exact hk.elim
 |aY =>
  cases x with
  |ref a =>
   cases ru
   obtain⟨z,hz⟩:=hk
   obtain⟨o,ho,hc⟩:=I.qz hz
   exact IsiPair.dict_int ho hc ⟨.bl false,H,I.tok _,rfl,q⟩
  |_=>exact hk.elim
theorem HM:bP X (.builtin "isinstance") (λxs H Q=>∃x k,xs=[x,.ty "bool"]/\pE X.K H x k/\Q (.bl (oW k "bool")) H):=by
 intro pins s σ H xs us Q I r h
 obtain⟨x,k,rfl,hk,q⟩:=h
 obtain⟨u,c,rfl,ru,rc⟩:=vals2 r
 cases rc
 cases k with
 |ay =>
  cases x with
  |ay =>
   cases ru
   exact IsiPair.NoneType_bool ⟨.bl false,H,I.tok _,rfl,q⟩
  |_=>exact hk.elim
 |bl =>
  cases x with
  |bl b =>
   cases ru
   exact IsiPair.bool_bool ⟨.bl true,H,I,rfl,q⟩
  |_=>exact hk.elim
 |int =>
  cases x with
  |int i =>
   obtain⟨t,rfl⟩:=ru
   exact IsiPair.int_bool ⟨.bl false,H,I.tok _,rfl,q⟩
  |_=>exact hk.elim
 |str =>
  cases x with
  |str y =>
   obtain⟨t,rfl⟩:=ru
   exact IsiPair.str_bool ⟨.bl false,H,I.tok _,rfl,q⟩
  |_=>exact hk.elim
 |tup =>
  cases x with
  |ref a =>
   cases ru
   obtain⟨z,hz⟩:=hk
   obtain⟨o,ho,hc⟩:=I.oA hz
   exact IsiPair.tuple_bool ho hc ⟨.bl false,H,I.tok _,rfl,q⟩
  |_=>exact hk.elim
 |lst =>
  cases x with
  |ref a =>
   cases ru
   obtain⟨z,hz⟩:=hk
   obtain⟨o,ho,hc⟩:=I.qy hz
   exact IsiPair.list_bool ho hc ⟨.bl false,H,I.tok _,rfl,q⟩
  |_=>exact hk.elim
 |aY =>
  cases x with
  |ref a =>
   cases ru
   obtain⟨z,hz⟩:=hk
   obtain⟨o,ho,hc⟩:=I.qz hz
   exact IsiPair.dict_bool ho hc ⟨.bl false,H,I.tok _,rfl,q⟩
  |_=>exact hk.elim
theorem H9:bP X (.builtin "isinstance") (λxs H Q=>∃x k,xs=[x,.ty "str"]/\pE X.K H x k/\Q (.bl (oW k "str")) H):=by
 intro pins s σ H xs us Q I r h
 obtain⟨x,k,rfl,hk,q⟩:=h
 obtain⟨u,c,rfl,ru,rc⟩:=vals2 r
 cases rc
 cases k with
 |ay =>
  cases x with
  |ay =>
   cases ru
   exact IsiPair.NoneType_str ⟨.bl false,H,I.tok _,rfl,q⟩
  |_=>exact hk.elim
 |bl =>
  cases x with
  |bl b =>
   cases ru
   exact IsiPair.bool_str ⟨.bl false,H,I.tok _,rfl,q⟩
  |_=>exact hk.elim
 |int =>
  cases x with
  |int i =>
   obtain⟨t,rfl⟩:=ru
   exact IsiPair.int_str ⟨.bl false,H,I.tok _,rfl,q⟩
  |_=>exact hk.elim
 |str =>
  cases x with
  |str y =>
   obtain⟨t,rfl⟩:=ru
   exact IsiPair.str_str ⟨.bl true,H,I,rfl,q⟩
  |_=>exact hk.elim
 |tup =>
  cases x with
  |ref a =>
   cases ru
   obtain⟨z,hz⟩:=hk
   obtain⟨o,ho,hc⟩:=I.oA hz
   exact IsiPair.tuple_str ho hc ⟨.bl false,H,I.tok _,rfl,q⟩
  |_=>exact hk.elim
 |lst =>
  cases x with
  |ref a =>
   cases ru
   obtain⟨z,hz⟩:=hk
   obtain⟨o,ho,hc⟩:=I.qy hz
   exact IsiPair.list_str ho hc ⟨.bl false,H,I.tok _,rfl,q⟩
  |_=>exact hk.elim
 |aY =>
  cases x with
  |ref a =>
   cases ru
   obtain⟨z,hz⟩:=hk
   obtain⟨o,ho,hc⟩:=I.qz hz
   exact IsiPair.dict_str ho hc ⟨.bl false,H,I.tok _,rfl,q⟩
  |_=>exact hk.elim
theorem HF:bP X (.builtin "isinstance") (λxs H Q=>∃x k,xs=[x,.ty "tuple"]/\pE X.K H x k/\Q (.bl (oW k "tuple")) H):=by
 intro pins s σ H xs us Q I r h
 obtain⟨x,k,rfl,hk,q⟩:=h
 obtain⟨u,c,rfl,ru,rc⟩:=vals2 r
 cases rc
 cases k with
 |ay =>
  cases x with
  |ay =>
   cases ru
   exact IsiPair.NoneType_tuple ⟨.bl false,H,I.tok _,rfl,q⟩
  |_=>exact hk.elim
 |bl =>
  cases x with
  |bl b =>
   cases ru
   exact IsiPair.bool_tuple ⟨.bl false,H,I.tok _,rfl,q⟩
  |_=>exact hk.elim
 |int =>
  cases x with
  |int i =>
   obtain⟨t,rfl⟩:=ru
   exact IsiPair.int_tuple ⟨.bl false,H,I.tok _,rfl,q⟩
  |_=>exact hk.elim
 |str =>
  cases x with
  |str y =>
   obtain⟨t,rfl⟩:=ru
   exact IsiPair.str_tuple ⟨.bl false,H,I.tok _,rfl,q⟩
  |_=>exact hk.elim
 |tup =>
  cases x with
  |ref a =>
   cases ru
   obtain⟨z,hz⟩:=hk
   obtain⟨o,ho,hc⟩:=I.oA hz
   exact IsiPair.tuple_tuple ho hc ⟨.bl true,H,I,rfl,q⟩
  |_=>exact hk.elim
 |lst =>
  cases x with
  |ref a =>
   cases ru
   obtain⟨z,hz⟩:=hk
   obtain⟨o,ho,hc⟩:=I.qy hz
   exact IsiPair.list_tuple ho hc ⟨.bl false,H,I.tok _,rfl,q⟩
  |_=>exact hk.elim
 |aY =>
  cases x with
  |ref a =>
   cases ru
   obtain⟨z,hz⟩:=hk
   obtain⟨o,ho,hc⟩:=I.qz hz
   exact IsiPair.dict_tuple ho hc ⟨.bl false,H,I.tok _,rfl,q⟩
  |_=>exact hk.elim
theorem HN:bP X (.builtin "isinstance") (λxs H Q=>∃x k,xs=[x,.ty "list"]/\pE X.K H x k/\Q (.bl (oW k "list")) H):=by
 intro pins s σ H xs us Q I r h
 obtain⟨x,k,rfl,hk,q⟩:=h
 obtain⟨u,c,rfl,ru,rc⟩:=vals2 r
 cases rc
 cases k with
 |ay =>
  cases x with
  |ay =>
   cases ru
   exact IsiPair.NoneType_list ⟨.bl false,H,I.tok _,rfl,q⟩
  |_=>exact hk.elim
 |bl =>
  cases x with
  |bl b =>
   cases ru
   exact IsiPair.bool_list ⟨.bl false,H,I.tok _,rfl,q⟩
  |_=>exact hk.elim
 |int =>
  cases x with
  |int i =>
   obtain⟨t,rfl⟩:=ru
   exact IsiPair.int_list ⟨.bl false,H,I.tok _,rfl,q⟩
  |_=>exact hk.elim
 |str =>
  cases x with
  |str y =>
   obtain⟨t,rfl⟩:=ru
   exact IsiPair.str_list ⟨.bl false,H,I.tok _,rfl,q⟩
  |_=>exact hk.elim
 |tup =>
  cases x with
  |ref a =>
   cases ru
   obtain⟨z,hz⟩:=hk
   obtain⟨o,ho,hc⟩:=I.oA hz
   exact IsiPair.tuple_list ho hc ⟨.bl false,H,I.tok _,rfl,q⟩
  |_=>exact hk.elim
 |lst =>
  cases x with
  |ref a =>
   cases ru
   obtain⟨z,hz⟩:=hk
   obtain⟨o,ho,hc⟩:=I.qy hz
   exact IsiPair.list_list ho hc ⟨.bl true,H,I,rfl,q⟩
  |_=>exact hk.elim
 |aY =>
  cases x with
  |ref a =>
   cases ru
   obtain⟨z,hz⟩:=hk
   obtain⟨o,ho,hc⟩:=I.qz hz
   exact IsiPair.dict_list ho hc ⟨.bl false,H,I.tok _,rfl,q⟩
  |_=>exact hk.elim
end
end L2
namespace L2
open PySem PySem.Spec PyProof.Rows
noncomputable def oJ (p:Addr) (Ts:List String):Heap->Prop:=λh=>h.get? p=some { cls:=.type "tuple",data:=.seq (Ts.map Value.type).toArray }
theorem DX:∀{Ts:List String} {us:List Value},Vals (Ts.map V.ty) us->us=Ts.map Value.type
 | [],_,.nil=>rfl
 |_::r,_,.cons h t=>by
  cases h
  rw[DX t]
  rfl
noncomputable def Ou (t:TA):TE:=fun σ H Q=>t σ H λxs H1=>∃Ts:List String,xs=Ts.map V.ty/\xs.length<=sizeLine/\∀p,H1 p=none->Q (.ref p) (upd H1 p (.ext (oJ p Ts)))
section
variable {X:Cx} {es:List Expr} {t:TA} {pos:Pos}
theorem KW {x1} (h:PA X es t):PE X (.Tuple es x1 pos) (Ou t):=by
 intro pins s σ H Q I hq
 refine wpAny_Tuple_spliced (aA (h pos pins s σ H _ I hq) λus s1 ⟨xs,H1,I1,r,Ts,e,z,q⟩=>⟨by rw[<- r.length];exact z,?_⟩)
 subst e
 have eu:=DX r
 subst eu
 have hf:H1 s1.heap.objs.size=none:=I1.au.fresh (Nat.le_refl _)
 refine⟨.ref s1.heap.objs.size,upd H1 s1.heap.objs.size (.ext (oJ s1.heap.objs.size Ts)),I1.laid (t':=s1.toks) (λb u e=>Heap.get?_push_of_some _ e) (Nat.le_refl _) ?_,rfl,q _ hf⟩
 refine⟨Heap.get?_push_size _ rfl,⟨_,Heap.get?_push_size _ rfl⟩,λh1 h2 e k=>k _ e⟩
theorem Dh {A:Around} {bs:List Bool} {its:List Value} (r:Vals (bs.map V.bl) its):TruthOf X.prog X.w A (λi v=>its.toArray[i]?=some v) (λi=>bs.getD i false):=by
 intro i v s Q E hv hQ
 have me:its[i]?=some v:=by simpa using hv
 have hi:i<its.length:=(List.getElem?_eq_some_iff.mp me).1
 have hb:i<bs.length:=by
  have e:=r.length
  rw[List.length_map] at e
  omega
 have hx:(bs.map V.bl)[i]?=some (.bl (bs[i])):=by rw[List.getElem?_map,List.getElem?_eq_getElem hb];rfl
 obtain⟨u,hu,ru⟩:=Vals.get r hx
 rw[me] at hu
 cases hu
 cases ru
 have e:bs.getD i false=bs[i]:=by simp[List.getD,List.getElem?_eq_getElem hb]
 have pF:Q (bs.getD i false) s:=hQ
 rw[e] at pF
 exact wpAny_truthy_bool pF
theorem range_all (bs:List Bool):(List.range bs.length).all (λi=>bs.getD i false)=bs.all id:=by
 rw[Bool.eq_iff_iff,List.all_eq_true,List.all_eq_true]
 constructor
 ·intro h b hb
  obtain⟨i,hi,e⟩:=List.getElem_of_mem hb
  have:=h i (List.mem_range.mpr hi)
  simpa [List.getD,List.getElem?_eq_getElem hi,e] using this
 ·intro h i hi
  have hi:=List.mem_range.mp hi
  have:=h _ (List.getElem_mem hi)
  simpa [List.getD,List.getElem?_eq_getElem hi] using this
theorem range_any (bs:List Bool):(List.range bs.length).any (λi=>bs.getD i false)=bs.any id:=by
 rw[Bool.eq_iff_iff,List.any_eq_true,List.any_eq_true]
 constructor
 ·rintro ⟨i,hi,h⟩
  have hi:=List.mem_range.mp hi
  exact⟨bs[i],List.getElem_mem hi,by simpa [List.getD,List.getElem?_eq_getElem hi] using h⟩
 ·rintro ⟨b,hb,h⟩
  obtain⟨i,hi,e⟩:=List.getElem_of_mem hb
  exact⟨i,List.mem_range.mpr hi,by simpa [List.getD,List.getElem?_eq_getElem hi,e] using h⟩
theorem KY (hc:X.calm=true):bP X (.builtin "all") (λxs H Q=>∃(p:Addr) (bs:List Bool),xs=[.ref p]/\bx X.K H p (bs.map V.bl)/\Q (.bl (bs.all id)) H):=by
 intro pins s σ H xs us Q I r h
 obtain⟨p,bs,rfl,hp,q⟩:=h
 obtain⟨u,rfl,ru⟩:=vals1 r
 cases ru
 obtain⟨its,rv,pl,hz⟩:=I.list hp
 have hn:its.toArray.size=bs.length:=by
  have e:=rv.length
  rw[List.length_map] at e
  simpa using e.symm
 have hh:X.A.in1.handled=none:=I.ok.hd hc
 refine call_all_walk (wpAny_pyIter_list pl.isList ?_)
 have old:p≠s.heap.objs.size:=Nat.ne_of_lt (by obtain⟨o,n,e,_⟩:=pl;exact Heap.lt_size e)
 refine⟨s.heap.objs.size,[s.heap.objs.size,p],[s.heap.objs.size],its.toArray.size,_,_,λi=>bs.getD i false,rfl,Walks.list hh s.heap.objs.size p old its.toArray,⟨⟨_,Heap.get?_push_size _ rfl,rfl,rfl⟩,pl.isList.at λo e=>Heap.get?_push_of_some _ e⟩,Dh rv,λh' tk hk=>?_⟩
 rw[hn,range_all]
 exact⟨.bl _,H,I.kept (t':=tk) λb o e=>hk b o (by simpa using Nat.ne_of_lt (Heap.lt_size e)) (Heap.get?_push_of_some _ e),rfl,q⟩
theorem KZ (hc:X.calm=true):bP X (.builtin "any") (λxs H Q=>∃(p:Addr) (bs:List Bool),xs=[.ref p]/\bx X.K H p (bs.map V.bl)/\Q (.bl (bs.any id)) H):=by
 intro pins s σ H xs us Q I r h
 obtain⟨p,bs,rfl,hp,q⟩:=h
 obtain⟨u,rfl,ru⟩:=vals1 r
 cases ru
 obtain⟨its,rv,pl,hz⟩:=I.list hp
 have hn:its.toArray.size=bs.length:=by
  have e:=rv.length
  rw[List.length_map] at e
  simpa using e.symm
 have hh:X.A.in1.handled=none:=I.ok.hd hc
 refine call_any_walk (wpAny_pyIter_list pl.isList ?_)
 have old:p≠s.heap.objs.size:=Nat.ne_of_lt (by obtain⟨o,n,e,_⟩:=pl;exact Heap.lt_size e)
 refine⟨s.heap.objs.size,[s.heap.objs.size,p],[s.heap.objs.size],its.toArray.size,_,_,λi=>bs.getD i false,rfl,Walks.list hh s.heap.objs.size p old its.toArray,⟨⟨_,Heap.get?_push_size _ rfl,rfl,rfl⟩,pl.isList.at λo e=>Heap.get?_push_of_some _ e⟩,Dh rv,λh' tk hk=>?_⟩
 rw[hn,range_any]
 exact⟨.bl _,H,I.kept (t':=tk) λb o e=>hk b o (by simpa using Nat.ne_of_lt (Heap.lt_size e)) (Heap.get?_push_of_some _ e),rfl,q⟩
end
end L2
namespace L2
open PySem PySem.Spec PyProof.Rows
noncomputable def oX:Key->PyData
 | .inl i=>.int i
 | .inr x=>.str x
mutual
noncomputable def DV (K:Frag) (Z:Addr->Prop) (H:Hp):PyData->V->Prop
 | .none,v=>v=.ay
 | .bool b,v=>v=.bl b
 | .int i,v=>v=.int i
 | .str x,v=>v=.str x
 | .tuple ds,v=>∃a xs,v=.ref a/\aP K H a xs/\ao K Z H ds xs
 | .list ds,v=>∃a xs,v=.ref a/\¬ Z a/\H a=some (.lst xs)/\ao K Z H ds xs
 | .dict ai,v=>∃a es,v=.ref a/\¬ Z a/\H a=some (.dK es)/\∃l:List (Key×Int),es=l.map (λp=>(p.1,V.int p.2))/\ai=l.map λp=>(oX p.1,PyData.int p.2)
noncomputable def ao (K:Frag) (Z:Addr->Prop) (H:Hp):List PyData->List V->Prop
 | [],vs=>vs=[]
 |d::ds,vs=>∃v r,vs=v::r/\DV K Z H d v/\ao K Z H ds r
end
structure F4 (K:Frag) (Z:Addr->Prop) (H H':Hp):Prop where
 tup:∀b xs,aP K H b xs->aP K H' b xs
 lst:∀b xs,¬ Z b->H b=some (.lst xs)->H' b=some (.lst xs)
 aY:∀b es,¬ Z b->H b=some (.dK es)->H' b=some (.dK es)
mutual
theorem DV.gv {K:Frag} {Z:Addr->Prop} {H H':Hp} (S:F4 K Z H H'):∀{d:PyData} {v:V},DV K Z H d v->DV K Z H' d v
 | .none,_,h=>h
 | .bool _,_,h=>h
 | .int _,_,h=>h
 | .str _,_,h=>h
 | .tuple ds,v,h=>by
  simp only[DV] at h |-
  obtain⟨a,xs,e,hq,r⟩:=h
  exact⟨a,xs,e,S.tup a xs hq,ao.gv S r⟩
 | .list ds,v,h=>by
  simp only[DV] at h |-
  obtain⟨a,xs,e,hz,hq,r⟩:=h
  exact⟨a,xs,e,hz,S.lst a xs hz hq,ao.gv S r⟩
 | .dict ai,v,h=>by
  simp only[DV] at h |-
  obtain⟨a,es,e,hz,hq,r⟩:=h
  exact⟨a,es,e,hz,S.aY a es hz hq,r⟩
theorem ao.gv {K:Frag} {Z:Addr->Prop} {H H':Hp} (S:F4 K Z H H'):∀{ds:List PyData} {vs:List V},ao K Z H ds vs->ao K Z H' ds vs
 | [],_,h=>h
 |d::ds,vs,h=>by
  simp only[ao] at h |-
  obtain⟨v,r,e,h1,h2⟩:=h
  exact⟨v,r,e,DV.gv S h1,ao.gv S h2⟩
end
mutual
theorem DV.more {K:Frag} {Z:Addr->Prop} {H:Hp} {p:Addr} (hp:H p=none):∀{d:PyData} {v:V},DV K Z H d v->DV K (λa=>Z a\/a=p) H d v
 | .none,_,h=>h
 | .bool _,_,h=>h
 | .int _,_,h=>h
 | .str _,_,h=>h
 | .tuple ds,v,h=>by
  simp only[DV] at h |-
  obtain⟨a,xs,e,hq,r⟩:=h
  exact⟨a,xs,e,hq,ao.more hp r⟩
 | .list ds,v,h=>by
  simp only[DV] at h |-
  obtain⟨a,xs,e,hz,hq,r⟩:=h
  exact⟨a,xs,e,(λz=>z.elim hz λe=>by subst e;rw[hp] at hq;cases hq),hq,ao.more hp r⟩
 | .dict ai,v,h=>by
  simp only[DV] at h |-
  obtain⟨a,es,e,hz,hq,r⟩:=h
  exact⟨a,es,e,(λz=>z.elim hz λe=>by subst e;rw[hp] at hq;cases hq),hq,r⟩
theorem ao.more {K:Frag} {Z:Addr->Prop} {H:Hp} {p:Addr} (hp:H p=none):∀{ds:List PyData} {vs:List V},ao K Z H ds vs->ao K (λa=>Z a\/a=p) H ds vs
 | [],_,h=>h
 |d::ds,vs,h=>by
  simp only[ao] at h |-
  obtain⟨v,r,e,h1,h2⟩:=h
  exact⟨v,r,e,DV.more hp h1,ao.more hp h2⟩
end
mutual
theorem DV.less {K:Frag} {Z Z':Addr->Prop} {H:Hp} (j6:∀a,Z' a->Z a):∀{d:PyData} {v:V},DV K Z H d v->DV K Z' H d v
 | .none,_,h=>h
 | .bool _,_,h=>h
 | .int _,_,h=>h
 | .str _,_,h=>h
 | .tuple ds,v,h=>by
  simp only[DV] at h |-
  obtain⟨a,xs,e,hq,r⟩:=h
  exact⟨a,xs,e,hq,ao.less j6 r⟩
 | .list ds,v,h=>by
  simp only[DV] at h |-
  obtain⟨a,xs,e,hz,hq,r⟩:=h
  exact⟨a,xs,e,λz=>hz (j6 _ z),hq,ao.less j6 r⟩
 | .dict ai,v,h=>by
  simp only[DV] at h |-
  obtain⟨a,es,e,hz,hq,r⟩:=h
  exact⟨a,es,e,λz=>hz (j6 _ z),hq,r⟩
theorem ao.less {K:Frag} {Z Z':Addr->Prop} {H:Hp} (j6:∀a,Z' a->Z a):∀{ds:List PyData} {vs:List V},ao K Z H ds vs->ao K Z' H ds vs
 | [],_,h=>h
 |d::ds,vs,h=>by
  simp only[ao] at h |-
  obtain⟨v,r,e,h1,h2⟩:=h
  exact⟨v,r,e,DV.less j6 h1,ao.less j6 h2⟩
end
noncomputable def SG:PyData->Kn
 | .none=>.ay
 | .bool _=>.bl
 | .int _=>.int
 | .str _=>.str
 | .tuple _=>.tup
 | .list _=>.lst
 | .dict _=>.aY
section
variable {X:Cx} {pins:List (Addr×Obj)} {σ:St} {H:Hp} {s:Shared} {Z:Addr->Prop}
theorem tV {h:Heap} {P:Program} {w:World}:∀{l:List (Key×Int)} {vs:List (Key×Value)} {es:List DictEntry},KV (l.map λp=>(p.1,V.int p.2)) vs->Pairs (cK P w) es vs ->
  ReadsAll h (es.map (·.key)) ((l.map λp=>(oX p.1,PyData.int p.2)).map (·.1)) []/\ReadsAll h (es.map (·.val)) ((l.map λp=>(oX p.1,PyData.int p.2)).map (·.2)) []
 | [],_,_,.nil,.nil=>⟨.nil,.nil⟩
 |(k,i)::l,_,_,.cons (b:=q) r t,.cons (e:=e) h1 h2 h3=>by
  obtain⟨a1,a2⟩:=tV (h:=h) t h3
  obtain⟨r1,t',r2⟩:=r
  have r1:k=q.1:=r1
  have r2:q.2=Value.int i t':=r2
  refine⟨?_,?_⟩
  ·have hk:mU q.1 e.key=true:=h1
   rw[<- r1] at hk
   have:Reads h e.key (oX k) []:=by
    rcases iT hk with ⟨j,u,e1,e2⟩ | ⟨x,u,e1,e2⟩
    ·rw[e1,e2];exact .int j u
    ·rw[e1,e2];exact .str x u
   exact ReadsAll.cons (as:=[]) (bs:=[]) this a1
  ·have:Reads h e.val (.int i) []:=by rw[h2,r2];exact .int i t'
   exact ReadsAll.cons (as:=[]) (bs:=[]) this a2
mutual
theorem DV.reads (I:Inv X pins σ H s):∀{d:PyData} {v:V} {u:Value},DV X.K Z H d v->RelV v u->∃as,Reads s.heap u d as
 | .none,v,u,h,r=>by
  have e:v=.ay:=h
  subst e;cases r
  exact⟨[],.none⟩
 | .bool b,v,u,h,r=>by
  have e:v=.bl b:=h
  subst e;cases r
  exact⟨[],.bool b⟩
 | .int i,v,u,h,r=>by
  have e:v=.int i:=h
  subst e;obtain⟨t,rfl⟩:=r
  exact⟨[],.int i t⟩
 | .str x,v,u,h,r=>by
  have e:v=.str x:=h
  subst e;obtain⟨t,rfl⟩:=r
  exact⟨[],.str x t⟩
 | .tuple ds,v,u,h,r=>by
  simp only[DV] at h
  obtain⟨a,xs,e,hq,hr⟩:=h
  subst e;cases r
  obtain⟨its,rv,⟨o,e,c,n,hd⟩,_⟩:=I.tuple hq
  obtain⟨as,rs⟩:=ao.reads I hr rv
  exact⟨as,.tuple e c hd (by simpa using rs)⟩
 | .list ds,v,u,h,r=>by
  simp only[DV] at h
  obtain⟨a,xs,e,_,hq,hr⟩:=h
  subst e;cases r
  obtain⟨its,rv,⟨o,n,e,c,_,hd⟩,_⟩:=I.list (bx.of hq)
  obtain⟨as,rs⟩:=ao.reads I hr rv
  exact⟨a::as,.list e c hd (by simpa using rs)⟩
 | .dict ai,v,u,h,r=>by
  simp only[DV] at h
  obtain⟨a,es,e,_,hq,l,e1,e2⟩:=h
  subst e e1 e2;cases r
  obtain⟨_,_,vs,kv,o,fv,ep,g1,g2,g3,_,g5,_⟩:=(show cb X.prog X.w H s.heap a (.dK _) from I.au a _ hq)
  obtain⟨r1,r2⟩:=tV (h:=s.heap) kv g5
  exact⟨a::[]++[],.dict g1 g2.1 g3 r1 r2⟩
theorem ao.reads (I:Inv X pins σ H s):∀{ds:List PyData} {vs:List V} {us:List Value},ao X.K Z H ds vs->Vals vs us->∃as,ReadsAll s.heap us ds as
 | [],vs,us,h,r=>by
  have e:vs=[]:=h
  subst e;cases r
  exact⟨[],.nil⟩
 |d::ds,vs,us,h,r=>by
  obtain⟨v,rr,e,h1,h2⟩:=h
  subst e
  cases r with
  |cons ru rt =>
   obtain⟨as,a1⟩:=DV.reads I h1 ru
   obtain⟨bs,a2⟩:=ao.reads I h2 rt
   exact⟨as++bs,.cons a1 a2⟩
end
theorem CS {k:Nat} (hr:bV k X.A):bP X (.builtin "repr") (λxs H Q=>∃(x:V) (d:PyData) (Z:Addr->Prop),xs=[x]/\DV X.K Z H d x/\d.showable=true/\(d.hasDict=false\/SG d=.aY)/\d.depth<=100/\d.shown.length<=sizeLine/\Q (.str d.shown) H):=by
 intro pins s σ H xs us Q I r h
 obtain⟨x,d,Z,rfl,hd,hs,pG,sy,hz,q⟩:=h
 obtain⟨u,rfl,ru⟩:=vals1 r
 have wu:X.A.units+(d.depth+1)<cLine:=by have:=hr.un;omega
 obtain⟨as,rd⟩:=hd.reads I ru
 have go:∀a,u=.ref a->(d.hasDict=true->sysModules∉as)->wpAny (model X.prog X.w) X.A (call (.builtin "repr") [u]) (EP X pins σ Q) X.xe s:=λa e Aq=>by
  subst e
  exact repr_of_reads' rd hs Aq hr.gd wu (λ_ _ e=>e) (λh' t tk hk=>⟨.str d.shown,H,I.kept (t':=tk) hk,⟨t,rfl⟩,q⟩) hz
 cases d with
 |none =>
  cases rd
  exact P.repr_of_none ⟨.str _,H,I.tok _,⟨_,rfl⟩,q⟩
 |bool b =>
  cases rd
  exact P.repr_of_bool ⟨.str _,H,I.tok _,⟨_,rfl⟩,q⟩
 |int i =>
  cases rd
  exact P.repr_of_int (by simpa [PyData.showable] using hs) ⟨.str _,H,I.tok _,⟨_,rfl⟩,q⟩
 |str y =>
  cases rd
  exact P.repr_of_str ⟨.str _,H,I.tok _,⟨_,rfl⟩,q⟩ hz
 |list ds =>
  cases rd with
  |list h1 h2 h3 h4 =>
   refine go _ rfl λz=>?_
   rcases pG with e|e
   ·rw[e] at z;cases z
   ·cases e
 |tuple ds =>
  cases rd with
  |tuple h1 h2 h3 h4 =>
   refine go _ rfl λz=>?_
   rcases pG with e|e
   ·rw[e] at z;cases z
   ·cases e
 |dict ai =>
  simp only[DV] at hd
  obtain⟨a,es,e,_,hq,l,e1,e2⟩:=hd
  subst e e1 e2;cases ru
  obtain⟨_,rm,vs,kv,o,fv,ep,g1,g2,g3,_,g5,_⟩:=(show cb X.prog X.w H s.heap a (.dK _) from I.au a _ hq)
  obtain⟨r1,r2⟩:=tV (h:=s.heap) kv g5
  have SH:Reads s.heap (.ref a) (.dict (l.map λp=>(oX p.1,PyData.int p.2))) (a::[]++[]):=.dict g1 g2.1 g3 r1 r2
  refine repr_of_reads' SH hs (λ_ hm=>?_) hr.gd wu (λ_ _ e=>e) (λh' t tk hk=>⟨.str _,H,I.kept (t':=tk) hk,⟨t,rfl⟩,q⟩) hz
  have e:sysModules=a:=by simpa using hm
  subst e
  simp at rm
noncomputable def F5 (K:Frag) (neg:Bool):R2:=λx y H Q=>∃(d e:PyData) (Z:Addr->Prop),DV K Z H d x/\DV K Z H e y/\d.canLay0=true/\e.canLay0=true/\min d.depth e.depth<=100/\Q (.bl (if neg then !PyData.eqv d e else PyData.eqv d e)) H
theorem Ov {k:Nat} (hr:bV k X.A):aW X (compareOp .Eq) (F5 X.K false):=by
 intro pins s σ H x y v u Q I rx ry h
 obtain⟨d,e,Z,h1,h2,l1,l2,hd,q⟩:=h
 obtain⟨as,r1⟩:=h1.reads I rx
 obtain⟨bs,r2⟩:=h2.reads I ry
 exact SeqAt.eqOverData _ _ _ _ _ _ _ _ _ _ _ _ r1 r2 l1 l2 (by have:=hr.un;omega) ⟨.bl _,H,I,rfl,q⟩
theorem Ow {k:Nat} (hr:bV k X.A):aW X (compareOp .NotEq) (F5 X.K true):=by
 intro pins s σ H x y v u Q I rx ry h
 obtain⟨d,e,Z,h1,h2,l1,l2,hd,q⟩:=h
 obtain⟨as,r1⟩:=h1.reads I rx
 obtain⟨bs,r2⟩:=h2.reads I ry
 exact SeqAt.neOverData _ _ _ _ _ _ _ _ _ _ _ _ r1 r2 l1 l2 (by have:=hr.un;omega) ⟨.bl _,H,I,rfl,q⟩
end
end L2
namespace HT
open PySem PySem.Spec PyProof.Rows
section
variable {prog:Program} {w:World} {A:Around} {E:Value->Shared->Prop} {s:Shared}
theorem CT {t:Addr} {items:Array Value} {Q:Bool->Shared->Prop} (ht:IsTup s.heap t items) (h:Q true s):wpAny (model prog w) A (Builtin.Tuple.tupleIsExact (.ref t)) Q E s:=by
 unfold Builtin.Tuple.tupleIsExact
 exact wpAny_bind (wpAny_typeOf ht.typeIs (wpAny_pure h))
theorem HG {t sl:Addr} {items:Array Value} {vl vu:Value} {lo hi:Option Int} {Q:Value->Shared->Prop} (ht:IsTup s.heap t items) (hs:s.heap.IsSliceOf sl vl vu .none) (pl:IsPart vl lo) (pu:IsPart vu hi)
  (hw:aM items.size 0 lo=0/\aM items.size items.size hi=items.size) (h:Q (.ref t) s):wpAny (model prog w) A (getItem (.ref t) (.ref sl)) Q E s:=by
 obtain⟨os,iO,fV,ju⟩:=id hs
 have sj:s.TypeIs (.ref sl) "slice":=⟨os,iO,fV⟩
 unfold getItem
 try with_reducible refine wpAny_holding ?_
 first|refine wpAny_bind (wpAny_pure ?_)|skip
 refine wpAny_bind (wpAny_sequenceKey ht.typeIs (by decide) ?_)
 refine wpAny_bind (wpAny_callSpecial?_slot (name:=Str.ofString "__getitem__") ht.typeIs PyProof.Rows.slot_tuple_getitem
  (wpAny_call_entry PyProof.Rows.slot_tuple_getitem ht.typeIs entry_tuple_getitem ?_ (args_tuple_getitem _ _)))
 show wpAny _ _ (Builtin.Tuple.tupleItemsOf (.ref t) >>= _) _ _ s
 refine wpAny_bind (tupleItemsOf_ ht ?_)
 refine wpAny_bind (wpAny_typeOf sj ?_)
 rw[if_pos (by decide)]
 refine wpAny_bind (BJ hs pl pu ?_)
 obtain⟨w1,w2⟩:=hw
 show wpAny _ _ (if (((aM items.size 0 lo:Nat):Int)==0&&(1:Int)==1&&(aM items.size items.size hi-aM items.size 0 lo)==items.size)=true then _ else _) _ _ s
 rw[w1,w2,if_pos (by simp)]
 first
  |exact wpAny_bind (CT ht (by simp only[if_true];exact wpAny_bind (wpAny_rule (wpAny_pure ⟨_,rfl,wpAny_pure h⟩))))
  |exact wpAny_bind (CT ht (by simp only[if_true];exact wpAny_bind (wpAny_rule (wpAny_bind (wpAny_pure (wpAny_pure ⟨_,rfl,wpAny_pure h⟩))))))
theorem Iq (n:Nat):Builtin.Slice.sliceAdjust none none (-1) (n:Int)=((n:Int)-1,-1):=by
 unfold Builtin.Slice.sliceAdjust
 simp
theorem Ir (n:Nat):Builtin.Slice.slicePlaces ((n:Int)-1) (-1) (-1)=n:=by
 unfold Builtin.Slice.slicePlaces
 have h1:¬ ((-1:Int) > 0):=by omega
 simp only[h1,if_false]
 split
 ·simp
 ·simp;omega
theorem EC {α β:Type} {f:α->Option β} {g:α->β}:∀{l:List α},(∀x∈l,f x=some (g x))->l.filterMap f=l.map g
 | [],_=>rfl
 |x::r,h=>by
  rw[List.filterMap_cons,h x List.mem_cons_self,List.map_cons]
  exact congrArg _ (EC λy hy=>h y (List.mem_cons_of_mem _ hy))
theorem JR (xs:Array Value):((List.range xs.size).filterMap λ(m:Nat)=>xs[(((xs.size:Int)-1)+(m:Int)*(-1)).toNat]?).toArray=xs.toList.reverse.toArray:=by
 congr 1
 apply List.ext_getElem?
 intro i
 have e:((List.range xs.size).filterMap λ(m:Nat)=>xs[(((xs.size:Int)-1)+(m:Int)*(-1)).toNat]?)=(List.range xs.size).map λ(m:Nat)=>xs.getD (xs.size-1-m) .none:=by
  apply EC
  intro m hm
  have hm:=List.mem_range.mp hm
  have:(((xs.size:Int)-1)+(m:Int)*(-1)).toNat=xs.size-1-m:=by omega
  rw[this,Array.getElem?_eq_getElem (by omega)]
  simp[Array.getD,show xs.size-1-m<xs.size by omega]
 rw[e,List.getElem?_map]
 by_cases hi:i<xs.size
 ·rw[List.getElem?_range hi,List.getElem?_reverse (by simpa using hi)]
  simp[Array.getD,show xs.size-1-i<xs.size by omega]
 ·rw[List.getElem?_eq_none (by simpa using hi),List.getElem?_eq_none (by simpa using hi)]
  rfl
theorem HA {t sl:Addr} {items:Array Value} {tk:Tok} {Q:Value->Shared->Prop} (ht:IsTup s.heap t items) (hs:s.heap.IsSliceOf sl .none .none (.int (-1) tk))
  (h:Q (.ref s.heap.objs.size) { s with heap:=s.heap.push { cls:=.type "tuple",data:=.seq items.toList.reverse.toArray } })
  (hsz:items.size<=sizeLine):wpAny (model prog w) A (getItem (.ref t) (.ref sl)) Q E s:=by
 have hz:sizeOk (.seq items.toList.reverse.toArray):=by
  show items.toList.reverse.toArray.size<=sizeLine
  rw[List.size_toArray,List.length_reverse,Array.length_toList]
  exact hsz
 obtain⟨os,iO,fV,ju⟩:=id hs
 have sj:s.TypeIs (.ref sl) "slice":=⟨os,iO,fV⟩
 unfold getItem
 try with_reducible refine wpAny_holding ?_
 first|refine wpAny_bind (wpAny_pure ?_)|skip
 refine wpAny_bind (wpAny_sequenceKey ht.typeIs (by decide) ?_)
 refine wpAny_bind (wpAny_callSpecial?_slot (name:=Str.ofString "__getitem__") ht.typeIs PyProof.Rows.slot_tuple_getitem
  (wpAny_call_entry PyProof.Rows.slot_tuple_getitem ht.typeIs entry_tuple_getitem ?_ (args_tuple_getitem _ _)))
 show wpAny _ _ (Builtin.Tuple.tupleItemsOf (.ref t) >>= _) _ _ s
 refine wpAny_bind (tupleItemsOf_ ht ?_)
 refine wpAny_bind (wpAny_typeOf sj ?_)
 rw[if_pos (by decide)]
 refine wpAny_bind ?_
 unfold Builtin.Slice.sliceApplied Builtin.Slice.sliceFields
 refine wpAny_bind (wpAny_bind (wpAny_field iO ju (x:=.none) rfl (wpAny_bind (wpAny_field iO ju (x:=.none) rfl (wpAny_bind (wpAny_field iO ju (x:=.int (-1) tk) rfl (wpAny_pure ?_)))))))
 refine wpAny_bind (slicePart_int ?_)
 show wpAny _ _ (if ((-1:Int)==0)=true then _ else _) _ _ s
 rw[if_neg (by decide)]
 refine wpAny_bind (slicePart_none (wpAny_bind (slicePart_none (wpAny_bind (wpAny_pure ?_)))))
 show wpAny _ _ (match Builtin.Slice.sliceAdjust none none (-1) (items.size:Int) with | (lo,hi)=>pure (lo,(-1:Int),Builtin.Slice.slicePlaces lo hi (-1))) _ _ s
 rw[Iq]
 show wpAny _ _ (pure (((items.size:Int)-1),(-1:Int),Builtin.Slice.slicePlaces ((items.size:Int)-1) (-1) (-1))) _ _ s
 rw[Ir]
 refine wpAny_pure ?_
 show wpAny _ _ (if (((items.size:Int)-1)==0&&(-1:Int)==1&&items.size==items.size)=true then _ else _) _ _ s
 rw[if_neg (by simp),JR]
 first
  |exact wpAny_bind (m:=Builtin.Tuple.tupleExact _) (wpAny_newObj_type (wpAny_pure ⟨_,rfl,wpAny_pure h⟩) hz)
  |exact wpAny_bind (m:=Builtin.Tuple.tupleExact _) (wpAny_newObj_type (wpAny_bind (wpAny_pure (wpAny_pure ⟨_,rfl,wpAny_pure h⟩))) hz)
  |exact wpAny_bind (wpAny_bind (m:=Builtin.Tuple.tupleExact _) (wpAny_newObj_type (wpAny_pure (wpAny_pure ⟨_,rfl,wpAny_pure h⟩)) hz))
end
end HT
namespace L2
open PySem PySem.Spec PyProof.Rows
theorem ji.SI {K:Frag} {H H':Hp} {a:Addr} {xs:List V} (e:ji H H') (h:aP K H a xs):aP K H' a xs:=by
 rcases h with (h | ⟨o,h⟩)|h
 ·exact .inl (.inl (e _ _ h))
 ·exact .inl (.inr ⟨o,e _ _ h⟩)
 ·exact .inr h
theorem ji.upd {H:Hp} {p:Addr} {o:HO} (hn:H p=none):ji H (upd H p o):=λb u e=>by rw[bc (dg e hn)];exact e
def kO (K:Frag) (H:Hp) (ys:List V) (Q:VK):Prop:=∀a H',ji H H'->aP K H' a ys->Q (.ref a) H'
theorem kO.here {K:Frag} {H:Hp} {ys:List V} {Q:VK} {a:Addr} (h:kO K H ys Q) (hs:aP K H a ys):Q (.ref a) H:=h a H (ji.refl H) hs
theorem kO.new {K:Frag} {H:Hp} {ys:List V} {Q:VK} {p:Addr} (h:kO K H ys Q) (hn:H p=none):Q (.ref p) (L2.upd H p (.tup ys)):=h p _ (ji.upd hn) (aP.of ck)
section
variable {X:Cx} {e:Expr} {te:TE} {pos p2 p3 p4:Pos}
theorem K0 {xs:List V} {lo hi:Option Int} (h:HT.aM xs.length 0 lo=0/\HT.aM xs.length xs.length hi=xs.length):jh xs lo hi=xs:=by
 unfold jh
 rw[h.1,h.2]
 simp
noncomputable def RF (K:Frag):V->Option Int->Option Int->Hp->VK->Prop:=λx lo hi H Q=>∃a xs,x=.ref a/\aP K H a xs/\kO K H (jh xs lo hi) Q
theorem Mw:sk X (RF X.K):=by
 intro pins s σ H x v vl vu lo hi sl Q I rx hs pl pu h
 obtain⟨a,xs,rfl,hx,q⟩:=h
 by_cases hw:HT.aM xs.length 0 lo=0/\HT.aM xs.length xs.length hi=xs.length
 ·cases rx
  obtain⟨its,r,ht,hz⟩:=I.tuple hx
  have hlen:its.toArray.size=xs.length:=by rw[List.size_toArray];exact r.length.symm
  rw[K0 hw] at q
  exact⟨"tuple",_,PyProof.Rows.slot_tuple_getitem.lookup,ht.typeIs,HT.HG ht hs pl pu (by rw[hlen];exact hw) ⟨.ref a,H,I,rfl,q.here hx⟩⟩
 ·exact Ez pins s σ H _ v vl vu lo hi sl Q I rx hs pl pu ⟨a,xs,rfl,hx,hw,λp hp=>q.new hp⟩
noncomputable def RG (K:Frag) (te:TE):TE:=fun σ H Q=>te σ H λx H1=>∃a xs,x=.ref a/\aP K H1 a xs/\kO K H1 xs.reverse Q
theorem Ox (he:PE X e te):PE X (.Subscript e (.Slice none none (some (.UnaryOp .USub (.Constant (.int 1) 0 p4) p3)) p2) pos) (RG X.K te):=by
 intro pins s σ H Q I h
 refine Subscript_ (aA (he pins s σ H _ I h) λv s1 ⟨x,H1,I1,r1,q1⟩=>?_)
 obtain⟨a,xs,rfl,hx,q⟩:=q1
 cases r1
 refine wpAny_Slice ?_
 rw[evalPart_none]
 refine wpAny_pure (wpAny_pure ?_)
 have step:PE X (.UnaryOp .USub (.Constant (.int 1) 0 p4) p3) (Gz (rU λi=>.int (-i)) (tC (.int 1))):=Ff Eu uU
 rw[evalPart_some]
 refine aA (step pins s1 σ H1 (λy H2=>y=.int (-1)/\H2=H1) I1 ⟨1,rfl,rfl,rfl⟩) λu s2 ⟨y,H2,I2,r2,e1,e2⟩=>?_
 subst e1 e2
 obtain⟨tk,rfl⟩:=r2
 have I4:Inv X pins σ H2 { s2 with heap:=s2.heap.push { cls:=.type "slice",data:=.fields #[.none,.none,.int (-1) tk] } }:=I2.kept (t':=s2.toks) λb ob q=>Heap.get?_push_of_some _ q
 obtain⟨its,r,ht,hz⟩:=I4.tuple hx
 have hlen:its.toArray.size=xs.length:=by rw[List.size_toArray];exact r.length.symm
 have sA:Heap.IsSliceOf (s2.heap.push { cls:=.type "slice",data:=.fields #[.none,.none,.int (-1) tk] }) s2.heap.objs.size .none .none (.int (-1) tk):=Heap.IsSliceOf.new ..
 refine tail_any (ops:=[.ref a,.ref s2.heap.objs.size]) ht.typeIs PyProof.Rows.slot_tuple_getitem.lookup (HT.HA ht sA ?_ (by rw[hlen];exact hz)) (by with_unfolding_all rfl)
 refine⟨.ref _,_,I4.laid (t':=s2.toks) (o:=.tup xs.reverse) (λb ob q=>Heap.get?_push_of_some _ q) (Nat.le_refl _) ?_,rfl,q.new (I4.au.fresh (Nat.le_refl _))⟩
 refine⟨by rw[List.length_reverse];exact hz,its.reverse,?_,IsTup.new _ _⟩
 clear q ht hlen hx sA hz
 induction r with
 |nil=>exact .nil
 |cons h t ih =>
  rw[List.reverse_cons,List.reverse_cons]
  exact Vals.append ih (.cons h .nil)
noncomputable def Qb (K:Frag):R2:=λx y H Q=>∃a b xs ys,x=.ref a/\y=.ref b/\aP K H a xs/\aP K H b ys/\xs.length+ys.length<=sizeLine/\kO K H (xs++ys) Q
theorem Mx:aW X (binaryOp .Add) (Qb X.K):=by
 intro pins s σ H x y v u Q I rx ry h
 obtain⟨a,b,xs,ys,rfl,rfl,ha,hb,hz,q⟩:=h
 by_cases hx:xs=[]
 ·subst hx
  cases rx
  cases ry
  obtain⟨its,r1,p1,_⟩:=I.tuple ha
  obtain⟨m8,r2,p2,_⟩:=I.tuple hb
  cases r1
  obtain⟨⟨cls,dd,data,sl⟩,ho,hc,n,hd⟩:=id p1
  obtain⟨⟨F0,ma,data2,cX⟩,iM,iN,n2,hd2⟩:=id p2
  simp only at hc hd iN hd2
  subst hc hd iN hd2
  exact concat_meets ⟨_,ho,rfl⟩ ⟨_,iM,rfl⟩ noFill_tuple_add seq_tuple_add PySem.F.slot_tuple_add PySem.F.entry_tuple_add (PySem.F.args_tuple_add_2 _ _)
   (tuple_addW0 a b _ m8.toArray n n2 dd ma sl cX (by simp)) ⟨ho,iM,⟨.ref b,H,I,rfl,q.here hb⟩⟩
 ·refine Mr pins s σ H _ _ v u Q I rx ry ⟨a,b,xs,ys,rfl,rfl,ha,hb,hx,hz,λe=>?_,λ_ p hp=>q.new hp⟩
  subst e
  rw[List.append_nil] at q
  exact q.here ha
end
end L2
namespace HZ
open PySem PySem.Spec PyProof.Rows
structure iP (P:Program) (w:World) (A:Around) (i l:Addr) (tn:Nat->Heap->Prop) (val:Nat->Option Value):Prop where
 keep:∀k h h',tn k h->(∀o,h.get? i=some o->h'.get? i=some o)->(∀o,h.get? l=some o->h'.get? l=some o)->tn k h'
 item:∀k (s:Shared) (Q:Value->Shared->Prop) (E:Value->Shared->Prop) x,tn k s.heap->val k=some x->(∀h',tn (k+1) h'->Heap.SameBut i s.heap h'->Q x { s with heap:=h' })->wpAny (model P w) A (Builtin.SmallTypes.nextOf (.ref i)) Q E s
 stop:∀k (s:Shared) (Q:Value->Shared->Prop) (E:Value->Shared->Prop),tn k s.heap->val k=none->(∀h' e,Heap.ExtBut i s.heap h'->(∃o,h'.get? e=some o/\o.cls=.type "StopIteration")->E (.ref e) { s with heap:=h' })->wpAny (model P w) A (Builtin.SmallTypes.nextOf (.ref i)) Q E s
 obj:∀k h,tn k h->∃o,h.get? i=some o/\∀v,o.data≠.cell v
section
variable {P:Program} {w:World} {A:Around} {E:Value->Shared->Prop} {s:Shared}
theorem Ja {it t:Addr} {k:Nat} {its:Array Value} {x:Value} {Q:Value->Shared->Prop} (g:s.heap.IsTupleIter it t k) (gt:s.heap.IsTuple t its) (gx:its[k]?=some x)
  (q:∀h',h'.IsTupleIter it t (k+1)->Heap.SameBut it s.heap h'->Q x { s with heap:=h' }):wpAny (model P w) A (Builtin.SmallTypes.nextOf (.ref it)) Q E s:=by
 obtain⟨o,go,gc,gd⟩:=id g
 obtain⟨ol,Ar,_,nl,As⟩:=gt
 unfold Builtin.SmallTypes.nextOf
 refine wpAny_bind (wpAny_callSpecial?_slot (name:=Str.ofString "__next__") g.typeIs F.slot_tuple_iterator_next
  (wpAny_call_entry F.slot_tuple_iterator_next g.typeIs F.entry_tuple_iterator_next ?_ (F.args_tuple_iterator_next_1 _)))
 show wpAny _ _ (field (.ref it) 0 >>= _) _ _ _
 refine wpAny_bind (wpAny_field go gd (x:=.ref t) rfl ?_)
 show wpAny _ _ (if (Value.ref t==Value.none)=true then _ else _) _ _ _
 rw[if_neg (λz:(Value.ref t==Value.none)=true=>Bool.false_ne_true z)]
 show wpAny _ _ (field (.ref it) 1 >>= _) _ _ _
 refine wpAny_bind (wpAny_field go gd (x:=.int k 0) rfl ?_)
 show wpAny _ _ (seqItems? (.ref t) >>= _) _ _ _
 refine wpAny_bind (wpAny_seqItems Ar As ?_)
 simp only[Int.toNat_natCast,gx]
 refine wpAny_bind (wpAny_setField go gd (by simp) (wpAny_pure ⟨x,rfl,wpAny_pure (q _ ?_ (Heap.SameBut.update ..))⟩))
 exact⟨_,Heap.get?_update_self _ go (Obj.isFreed_of_fields (Obj.data_mapFields gd _)),(Obj.cls_mapFields ..).trans gc,by rw[Obj.data_mapFields gd];simp[rawInt]⟩
theorem HH {it t:Addr} {k:Nat} {its:Array Value} {Q:Value->Shared->Prop} (gh:A.handled=none) (g:s.heap.IsTupleIter it t k) (gt:s.heap.IsTuple t its) (gx:its[k]?=none)
  (q:∀h' e,Heap.ExtBut it s.heap h'->(∃o,h'.get? e=some o/\o.cls=.type "StopIteration")->E (.ref e) { s with heap:=h' }):wpAny (model P w) A (Builtin.SmallTypes.nextOf (.ref it)) Q E s:=by
 obtain⟨o,go,gc,gd⟩:=id g
 obtain⟨ol,Ar,_,nl,As⟩:=gt
 unfold Builtin.SmallTypes.nextOf
 refine wpAny_bind (wpAny_callSpecial?_slot (name:=Str.ofString "__next__") g.typeIs F.slot_tuple_iterator_next
  (wpAny_call_entry F.slot_tuple_iterator_next g.typeIs F.entry_tuple_iterator_next ?_ (F.args_tuple_iterator_next_1 _)))
 show wpAny _ _ (field (.ref it) 0 >>= _) _ _ _
 refine wpAny_bind (wpAny_field go gd (x:=.ref t) rfl ?_)
 show wpAny _ _ (if (Value.ref t==Value.none)=true then _ else _) _ _ _
 rw[if_neg (λz:(Value.ref t==Value.none)=true=>Bool.false_ne_true z)]
 show wpAny _ _ (field (.ref it) 1 >>= _) _ _ _
 refine wpAny_bind (wpAny_field go gd (x:=.int k 0) rfl ?_)
 show wpAny _ _ (seqItems? (.ref t) >>= _) _ _ _
 refine wpAny_bind (wpAny_seqItems Ar As ?_)
 simp only[Int.toNat_natCast,gx]
 refine wpAny_bind (wpAny_rule (wpAny_bind (wpAny_setField go gd (by simp) ?_)))
 show wpAny _ _ (newExc (.type "StopIteration") [] >>= _) _ _ (_:Shared)
 refine wpAny_bind ?_
 simp only[newExc,newTuple]
 refine wpAny_bind (wpAny_newObj_type ?_ (by size_fits))
 refine wpAny_bind (m:=firstArgMember _ _) (wpAny_of_eq (a:=Value.none) (by first|rfl | (unfold firstArgMember;rfl)) ?_)
 refine wpAny_newObj_type ?_ (by size_fits)
 simp only[raiseNew]
 refine wpAny_bind (wpAny_handled ?_)
 first|rw[gh]|rw[show A.in1.handled=none from gh]
 refine wpAny_bind (wpAny_pure (wpAny_throw ?_))
 exact q _ _ (((Heap.SameBut.update ..).extBut.push _).push _) ⟨_,Heap.get?_push_size _ rfl,rfl⟩
theorem ot (gh:A.handled=none) (i l:Addr) (its:Array Value):iP P w A i l (λk h=>h.IsTupleIter i l k/\h.IsTuple l its) (λk=>its[k]?) where
 keep:=λk h h' st k1 k2=>⟨st.1.at k1,by obtain⟨o,e,r⟩:=st.2;exact⟨o,k2 o e,r⟩⟩
 item:=λk s Q E x st e q=>Ja st.1 st.2 e λh' g sb=>by
  by_cases hl:l=i
  ·exfalso
   subst hl
   obtain⟨o,e1,c1,_⟩:=st.1
   obtain⟨o',e2,c2,_⟩:=st.2
   rw[e1] at e2;cases e2;rw[c1] at c2;simp at c2
  ·obtain⟨o,e2,r⟩:=st.2
   exact q h' ⟨g,o,(sb.2 l hl).trans e2,r⟩ sb
 stop:=λk s Q E st e q=>HH gh st.1 st.2 e q
 obj:=λk h st=>by
  obtain⟨o,e,_,d⟩:=st.1
  exact⟨o,e,λv z=>by rw[d] at z;cases z⟩
structure Apart (z ti to j1 j2 m1 m2:Addr):Prop where
 a1:ti≠z
 a2:to≠z
 a3:j1≠z
 a4:j2≠z
 a5:ti≠to
 a6:ti≠j1
 a7:ti≠j2
 a8:to≠j1
 a9:to≠j2
 b0:j1≠j2
 b1:m1≠z
 b2:m1≠to
 b3:m1≠j1
 b4:m1≠j2
 b5:m2≠z
 b6:m2≠to
 b7:m2≠j1
 b8:m2≠j2
theorem K4 {z ti to j1 j2 m1 m2:Addr} {t1 t2:Nat->Heap->Prop} {v1 v2:Nat->Option Value} {k:Nat} {x y a b:Value} {Q:Value->Shared->Prop} (D:Apart z ti to j1 j2 m1 m2) (S1:iP P w A j1 m1 t1 v1) (S2:iP P w A j2 m2 t2 v2)
  (gz:IsZip s.heap z ti to .none) (gi:IsPair s.heap ti (.ref j1) (.ref j2)) (go:IsPair s.heap to a b) (h1:t1 k s.heap) (h2:t2 k s.heap) (hx:v1 k=some x) (hy:v2 k=some y)
  (q:∀h',IsZip h' z ti to (rawInt s.heap.objs.size)->IsPair h' to x y->t1 (k+1) h'->t2 (k+1) h'->IsPair h' s.heap.objs.size x y->h'.objs.size=s.heap.objs.size+1 ->
   (∀c o,c≠z->c≠to->c≠j1->c≠j2->s.heap.get? c=some o->h'.get? c=some o)->Q (.ref s.heap.objs.size) { s with heap:=h' }) :
  wpAny (model P w) A (Builtin.«zip.__next__» ⟨[.ref z],[]⟩) (λfin s'=>∃v,fin=.done (.ret v)/\Q v s') E s:=by
 show wpAny _ _ (field (.ref z) 2 >>= _) _ _ (_:Shared)
 refine wpAny_bind (wpAny_field gz rfl (x:=.bool false) rfl ?_)
 show wpAny _ _ (field (.ref z) 3 >>= _) _ _ (_:Shared)
 refine wpAny_bind (wpAny_field gz rfl (x:=.ref ti) rfl ?_)
 refine wpAny_bind (wpAny_seqItems gi rfl ?_)
 show wpAny _ _ (Builtin.SmallTypes.ownedTupleIsFree (.ref z) >>= _) _ _ (_:Shared)
 refine wpAny_bind ?_
 unfold Builtin.SmallTypes.ownedTupleIsFree
 refine wpAny_bind (wpAny_field gz rfl (x:=.none) rfl (wpAny_pure ?_))
 simp only[if_true]
 refine wpAny_bind (wpAny_rule ?_)
 refine wpAny_bind (wpAny_field gz rfl (x:=.ref to) rfl ?_)
 refine wpAny_bind (wpAny_setField_rec gz (by simp) λp1 z1 s1=>?_)
 replace z1:IsZip p1 z ti to .ellipsis:=z1
 refine wpAny_bind ?_
 simp only[List.zipIdx_cons,List.zipIdx_nil,List.forIn_cons,List.forIn_nil]
 refine wpAny_bind (wpAny_bind (wpAny_onRaise ?_))
 show wpAny _ _ (Builtin.SmallTypes.nextOf (.ref j1) >>= _) _ _ (_:Shared)
 refine wpAny_bind (S1.item k _ _ _ x (S1.keep k _ _ h1 (λo e=>s1.extBut _ _ D.a3 e) (λo e=>s1.extBut _ _ D.b1 e)) hx λp2 pH s2=>wpAny_pure ?_)
 have o2:IsPair p2 to a b:=s2.extBut _ _ D.a8 (s1.extBut _ _ D.a2 go)
 refine wpAny_bind (wpAny_seqItems o2 rfl ?_)
 refine wpAny_bind (wpAny_updateSeq_pair o2 λp3 o3 s3=>?_)
 replace o3:IsPair p3 to x b:=o3
 refine wpAny_bind (wpAny_letGo (wpAny_pure ?_))
 refine wpAny_bind (wpAny_bind (wpAny_onRaise ?_))
 show wpAny _ _ (Builtin.SmallTypes.nextOf (.ref j2) >>= _) _ _ (_:Shared)
 refine wpAny_bind (S2.item k _ _ _ y (S2.keep k _ _ h2 (λo e=>s3.extBut _ _ D.a9.symm (s2.extBut _ _ D.b0.symm (s1.extBut _ _ D.a4 e))) (λo e=>s3.extBut _ _ D.b6 (s2.extBut _ _ D.b7 (s1.extBut _ _ D.b5 e)))) hy λp4 SJ s4=>wpAny_pure ?_)
 have o4:IsPair p4 to x b:=s4.extBut _ _ D.a9 o3
 refine wpAny_bind (wpAny_seqItems o4 rfl ?_)
 refine wpAny_bind (wpAny_updateSeq_pair o4 λp5 o5 s5=>?_)
 replace o5:IsPair p5 to x y:=o5
 refine wpAny_bind (wpAny_letGo (wpAny_pure (wpAny_pure ?_)))
 refine wpAny_bind (wpAny_seqItems o5 rfl ?_)
 refine wpAny_bind (wpAny_newTuple ?_)
 have gs:p5.objs.size=s.heap.objs.size:=by rw[s5.1,s4.1,s3.1,s2.1,s1.1]
 have z5:IsZip p5 z ti to .ellipsis:=s5.extBut _ _ D.a2.symm (s4.extBut _ _ D.a4.symm (s3.extBut _ _ D.a2.symm (s2.extBut _ _ D.a3.symm z1)))
 have k5:∀c o,c≠z->c≠to->c≠j1->c≠j2->s.heap.get? c=some o->p5.get? c=some o:=λc o c1 c2 c3 c4 e=>s5.extBut _ _ c2 (s4.extBut _ _ c4 (s3.extBut _ _ c2 (s2.extBut _ _ c3 (s1.extBut _ _ c1 e))))
 have sC:t1 (k+1) p5:=S1.keep _ _ _ pH (λo e=>s5.extBut _ _ D.a8.symm (s4.extBut _ _ D.b0 (s3.extBut _ _ D.a8.symm e))) (λo e=>s5.extBut _ _ D.b2 (s4.extBut _ _ D.b4 (s3.extBut _ _ D.b2 e)))
 have SK:t2 (k+1) p5:=S2.keep _ _ _ SJ (λo e=>s5.extBut _ _ D.a9.symm e) (λo e=>s5.extBut _ _ D.b6 e)
 have lz:z<p5.objs.size:=Heap.lt_size z5
 show wpAny _ _ (Builtin.SmallTypes.ownedTupleHandOut (.ref z) (.ref p5.objs.size) >>= _) _ _ (_:Shared)
 refine wpAny_bind ?_
 unfold Builtin.SmallTypes.ownedTupleHandOut
 have z6:IsZip (p5.push { cls:=.type "tuple",data:=.seq #[x,y] }) z ti to .ellipsis:=Heap.get?_push_of_some _ z5
 refine wpAny_bind (wpAny_setField_rec z6 (by simp) λp7 z7 s7=>?_)
 replace z7:IsZip p7 z ti to (rawInt p5.objs.size):=z7
 refine wpAny_setField_rec z7 (by simp) λp8 z8 s8=>?_
 replace z8:IsZip p8 z ti to (rawInt p5.objs.size):=z8
 have up:∀c o,c≠z->p5.get? c=some o->p8.get? c=some o:=λc o c1 e=>s8.extBut _ _ c1 (s7.extBut _ _ c1 (Heap.get?_push_of_some _ e))
 have w8:IsPair p8 p5.objs.size x y:=s8.extBut _ _ (Nat.ne_of_gt lz) (s7.extBut _ _ (Nat.ne_of_gt lz) (Heap.get?_push_size _ rfl))
 have n8:p8.objs.size=p5.objs.size+1:=by rw[s8.1,s7.1,Heap.size_push]
 rw[gs] at z8 w8 n8
 refine wpAny_pure ⟨_,rfl,?_⟩
 show Q (.ref p5.objs.size) _
 rw[gs]
 exact q p8 z8 (up _ _ D.a2 o5) (S1.keep _ _ _ sC (λo e=>up _ o D.a3 e) (λo e=>up _ o D.b1 e)) (S2.keep _ _ _ SK (λo e=>up _ o D.a4 e) (λo e=>up _ o D.b5 e)) w8 n8 λc o c1 c2 c3 c4 e=>up c o c1 (k5 c o c1 c2 c3 c4 e)
theorem My {z ti to j1 j2 m1 m2:Addr} {t1 t2:Nat->Heap->Prop} {v1 v2:Nat->Option Value} {k:Nat} {a b:Value} {Q:Fin->Shared->Prop} (D:Apart z ti to j1 j2 m1 m2) (S1:iP P w A j1 m1 t1 v1) (S2:iP P w A j2 m2 t2 v2)
  (gz:IsZip s.heap z ti to .none) (gi:IsPair s.heap ti (.ref j1) (.ref j2)) (go:IsPair s.heap to a b) (h1:t1 k s.heap) (h2:t2 k s.heap) (zC:v1 k=none\/v2 k=none)
  (q:∀h' e,(∀c o,c≠z->c≠to->c≠j1->c≠j2->s.heap.get? c=some o->h'.get? c=some o)->(∃o,h'.get? e=some o/\o.cls=.type "StopIteration")->E (.ref e) { s with heap:=h' }) :
  wpAny (model P w) A (Builtin.«zip.__next__» ⟨[.ref z],[]⟩) Q E s:=by
 show wpAny _ _ (field (.ref z) 2 >>= _) _ _ (_:Shared)
 refine wpAny_bind (wpAny_field gz rfl (x:=.bool false) rfl ?_)
 show wpAny _ _ (field (.ref z) 3 >>= _) _ _ (_:Shared)
 refine wpAny_bind (wpAny_field gz rfl (x:=.ref ti) rfl ?_)
 refine wpAny_bind (wpAny_seqItems gi rfl ?_)
 show wpAny _ _ (Builtin.SmallTypes.ownedTupleIsFree (.ref z) >>= _) _ _ (_:Shared)
 refine wpAny_bind ?_
 unfold Builtin.SmallTypes.ownedTupleIsFree
 refine wpAny_bind (wpAny_field gz rfl (x:=.none) rfl (wpAny_pure ?_))
 simp only[if_true]
 refine wpAny_bind (wpAny_rule ?_)
 refine wpAny_bind (wpAny_field gz rfl (x:=.ref to) rfl ?_)
 refine wpAny_bind (wpAny_setField_rec gz (by simp) λp1 z1 s1=>?_)
 replace z1:IsZip p1 z ti to .ellipsis:=z1
 refine wpAny_bind ?_
 simp only[List.zipIdx_cons,List.zipIdx_nil,List.forIn_cons,List.forIn_nil]
 refine wpAny_bind (wpAny_bind (wpAny_onRaise ?_))
 show wpAny _ _ (Builtin.SmallTypes.nextOf (.ref j1) >>= _) _ _ (_:Shared)
 have pJ:t1 k p1:=S1.keep k _ _ h1 (λo e=>s1.extBut _ _ D.a3 e) (λo e=>s1.extBut _ _ D.b1 e)
 cases hx:v1 k with
 |none =>
  refine wpAny_bind (S1.stop k _ _ _ pJ hx λp2 e s2 he=>?_)
  obtain⟨oe,g1,g2⟩:=he
  have z2:IsZip p2 z ti to .ellipsis:=s2 _ _ D.a3.symm z1
  have ne:e≠z:=λu=>by subst u;rw[z2] at g1;cases g1;simp at g2
  refine wpAny_setField_rec z2 (by simp) λp3 _ s3=>q p3 e (λc o c1 _ c3 _ u=>s3.extBut _ _ c1 (s2 _ _ c3 (s1.extBut _ _ c1 u))) ⟨oe,s3.extBut _ _ ne g1,g2⟩
 |some x =>
  have hy:v2 k=none:=by
   rcases zC with h|h
   ·rw[hx] at h;cases h
   ·exact h
  refine wpAny_bind (S1.item k _ _ _ x pJ hx λp2 pH s2=>wpAny_pure ?_)
  have o2:IsPair p2 to a b:=s2.extBut _ _ D.a8 (s1.extBut _ _ D.a2 go)
  refine wpAny_bind (wpAny_seqItems o2 rfl ?_)
  refine wpAny_bind (wpAny_updateSeq_pair o2 λp3 o3 s3=>?_)
  refine wpAny_bind (wpAny_letGo (wpAny_pure ?_))
  refine wpAny_bind (wpAny_bind (wpAny_onRaise ?_))
  show wpAny _ _ (Builtin.SmallTypes.nextOf (.ref j2) >>= _) _ _ (_:Shared)
  refine wpAny_bind (S2.stop k _ _ _ (S2.keep k _ _ h2 (λo e=>s3.extBut _ _ D.a9.symm (s2.extBut _ _ D.b0.symm (s1.extBut _ _ D.a4 e))) (λo e=>s3.extBut _ _ D.b6 (s2.extBut _ _ D.b7 (s1.extBut _ _ D.b5 e)))) hy λp4 e s4 he=>?_)
  obtain⟨oe,g1,g2⟩:=he
  have z4:IsZip p4 z ti to .ellipsis:=s4 _ _ D.a4.symm (s3.extBut _ _ D.a2.symm (s2.extBut _ _ D.a3.symm z1))
  have ne:e≠z:=λu=>by subst u;rw[z4] at g1;cases g1;simp at g2
  refine wpAny_setField_rec z4 (by simp) λp5 _ s5=>q p5 e (λc o c1 c2 c3 c4 u=>s5.extBut _ _ c1 (s4 _ _ c4 (s3.extBut _ _ c2 (s2.extBut _ _ c3 (s1.extBut _ _ c1 u))))) ⟨oe,s5.extBut _ _ ne g1,g2⟩
theorem next_item {z ti to j1 j2 m1 m2:Addr} {t1 t2:Nat->Heap->Prop} {v1 v2:Nat->Option Value} {k:Nat} {x y a b:Value} {Q:Option Value->Shared->Prop} (D:Apart z ti to j1 j2 m1 m2) (S1:iP P w A.in1 j1 m1 t1 v1) (S2:iP P w A.in1 j2 m2 t2 v2)
  (gz:IsZip s.heap z ti to .none) (gi:IsPair s.heap ti (.ref j1) (.ref j2)) (go:IsPair s.heap to a b) (h1:t1 k s.heap) (h2:t2 k s.heap) (hx:v1 k=some x) (hy:v2 k=some y)
  (q:∀h',IsZip h' z ti to (rawInt s.heap.objs.size)->IsPair h' to x y->t1 (k+1) h'->t2 (k+1) h'->IsPair h' s.heap.objs.size x y->h'.objs.size=s.heap.objs.size+1 ->
   (∀c o,c≠z->c≠to->c≠j1->c≠j2->s.heap.get? c=some o->h'.get? c=some o)->Q (some (.ref s.heap.objs.size)) { s with heap:=h' }):wpAny (model P w) A (pyNext (.ref z)) Q E s:=by
 have hT:s.TypeIs (.ref z) "zip":=⟨_,gz,rfl⟩
 unfold pyNext
 exact wpAny_bind (wpAny_attempt (wpAny_callSpecial?_slot (name:=Str.ofString "__next__") hT F.slot_zip_next
  (wpAny_call_entry F.slot_zip_next hT F.entry_zip_next (K4 D S1 S2 gz gi go h1 h2 hx hy λh' a1 a2 a3 a4 a5 a6 a7=>wpAny_pure (q h' a1 a2 a3 a4 a5 a6 a7)) (F.args_zip_next_1 _))))
theorem next_end {z ti to j1 j2 m1 m2:Addr} {t1 t2:Nat->Heap->Prop} {v1 v2:Nat->Option Value} {k:Nat} {a b:Value} {Q:Option Value->Shared->Prop} (D:Apart z ti to j1 j2 m1 m2) (S1:iP P w A.in1 j1 m1 t1 v1) (S2:iP P w A.in1 j2 m2 t2 v2)
  (gz:IsZip s.heap z ti to .none) (gi:IsPair s.heap ti (.ref j1) (.ref j2)) (go:IsPair s.heap to a b) (h1:t1 k s.heap) (h2:t2 k s.heap) (zC:v1 k=none\/v2 k=none)
  (q:∀h',(∀c o,c≠z->c≠to->c≠j1->c≠j2->s.heap.get? c=some o->h'.get? c=some o)->Q none { s with heap:=h' }):wpAny (model P w) A (pyNext (.ref z)) Q E s:=by
 have hT:s.TypeIs (.ref z) "zip":=⟨_,gz,rfl⟩
 unfold pyNext
 refine wpAny_bind (wpAny_attempt (wpAny_callSpecial?_slot (name:=Str.ofString "__next__") hT F.slot_zip_next
  (wpAny_call_entry F.slot_zip_next hT F.entry_zip_next (My D S1 S2 gz gi go h1 h2 zC λh' e hk he=>?_) (F.args_zip_next_1 _))))
 obtain⟨o,ho,hc⟩:=he
 exact wpAny_bind (wpAny_isInstance (T:="StopIteration") (b:=true) ⟨o,ho,hc⟩ isSubtype_stop (wpAny_pure (q _ hk)))
end
end HZ
namespace L2
open PySem PySem.Spec PyProof.Rows
theorem qA {X:Cx} {pins:List (Addr×Obj)} {σ:St} {H:Hp} {s:Shared} {a b:Addr} {xs:List V} (I:Inv X pins σ H s) (h:aP X.K H a xs) (f:cj X pins H b):a≠b:=by
 rintro rfl
 obtain⟨f0,_,_,f3,_⟩:=f
 rcases h with (h | ⟨o,h⟩) | ⟨o,its,n,hk,_⟩
 ·rw[f0] at h;cases h
 ·rw[f0] at h;cases h
 ·have hb:=I.mod.v7 a o hk
  rcases f3 with z|z
  ·exact I.ok.kL a o hb z
  ·exact absurd (Nat.lt_of_lt_of_le (Heap.lt_size hb) (Nat.le_trans I.ok.hZ z)) (Nat.lt_irrefl _)
theorem Inv.xk {X:Cx} {pins:List (Addr×Obj)} {σ:St} {H:Hp} {s:Shared} {h':Heap} {t':Nat} {ch:List Addr} (I:Inv X pins σ H s) (k:∀b o,b∉ch->s.heap.get? b=some o->h'.get? b=some o) (hf:∀b∈ch,cj X pins H b) :
  Inv X pins σ H { s with heap:=h',toks:=t' }:=by
 have GI:∀b u,H b=some u->b∉ch:=λb u e z=>by rw[(hf b z).1] at e;cases e
 refine I.step (g':=s.gens) (d':=s.drawn) (ch:=ch) (λb hb=>?_) (λb o _ _ hc e _=>k b o hc e) (λb o _ _ hc e _=>⟨o.slots,k b o hc e⟩) (λ_ _ _ _ n=>n) (λb o hc e=>⟨o,k b o hc e⟩) (λ_ _ e=>e) (λ_ _ _ e=>e)
  (λb ps e=>⟨#[],by rw[e];simp⟩) (λm hm=>?_) (λb u e=>?_) I.bare
 ·obtain⟨_,f1,_,f3,f4,f5⟩:=hf b hb
  exact⟨f3,f1,f4,f5⟩
 ·obtain⟨o,es,ep,ho,r⟩:=hm
  exact⟨o,es,ep,k _ o (λz=>(hf _ z).2.1 rfl) ho,r⟩
 ·refine(I.au b u e).gv (λc v hc q=>k c v ?_ q) (λ_ q=>q) λ_ _ q=>q
  rcases hc with z|z
  ·rw[z];exact GI b u e
  ·exact GI c _ z
theorem Inv.CU {X:Cx} {pins:List (Addr×Obj)} {σ:St} {H:Hp} {s:Shared} {h':Heap} {t':Nat} {ch:List Addr} {p:Addr} {u:HO} (I:Inv X pins σ H s) (k:∀b o,b∉ch->s.heap.get? b=some o->h'.get? b=some o) (hf:∀b∈ch,cj X pins H b)
  (hp:s.heap.objs.size<=p) (new:cb X.prog X.w (upd H p u) h' p u):Inv X pins σ (upd H p u) { s with heap:=h',toks:=t' }:=by
 have hn:H p=none:=I.au.fresh hp
 have au:bK X.prog X.w (upd H p u) h':=(I.xk (t':=t') k hf).au.adopt hn new
 refine I.step (g':=s.gens) (d':=s.drawn) (ch:=ch) (λb hb=>?_) (λb o _ _ hc e _=>k b o hc e) (λb o _ _ hc e _=>⟨o.slots,k b o hc e⟩) (λb o _ e n=>?_) (λb o hc e=>⟨o,k b o hc e⟩) (λc xs e=>by rw[bc (dg e hn)];exact e) (λc o v e=>by rw[bc (dg e hn)];exact e)
  (λc ps e=>⟨#[],by rw[bc (dg e hn),e];simp⟩) (λm hm=>?_) au I.bare
 ·obtain⟨_,f1,_,f3,f4,f5⟩:=hf b hb
  exact⟨f3,f1,f4,f5⟩
 ·rw[bc (Nat.ne_of_lt (Nat.lt_of_lt_of_le (Heap.lt_size e) hp))]
  exact n
 ·obtain⟨o,es,ep,ho,r⟩:=hm
  exact⟨o,es,ep,k _ o (λz=>(hf _ z).2.1 rfl) ho,r⟩
noncomputable def zD (K:Frag) (a b:Addr):It :=
 ⟨λi H=>∃xs ys x y,aP K H a xs/\aP K H b ys/\xs[i]?=some x/\ys[i]?=some y,λi H v H'=>∃p x y,H p=none/\v=.ref p/\H'=upd H p (.tup [x,y])/\∀xs ys,aP K H a xs->aP K H b ys->xs[i]?=some x/\ys[i]?=some y,
  λi H=>∃xs ys,aP K H a xs/\aP K H b ys/\(xs.length<=i\/ys.length<=i)⟩
structure Qc (it:Nat->Heap->Prop) (mf:Nat->Heap->Prop) (z ti to j1 j2:Addr) (i:Nat) (h:Heap):Prop where
 z:IsZip h z ti to .none
 ti:IsPair h ti (.ref j1) (.ref j2)
 to:∃u v,IsPair h to u v
 h1:it i h
 h2:mf i h
structure F6 (z ti to j1 j2:Addr):Prop where
 a1:ti≠z
 a2:to≠z
 a3:j1≠z
 a4:j2≠z
 a5:ti≠to
 a6:ti≠j1
 a7:ti≠j2
 a8:to≠j1
 a9:to≠j2
 b0:j1≠j2
theorem JS {P:Program} {w:World} {K:Frag} {elts:List Expr} {kk:Nat} {pos:Pos} (a b z ti to j1 j2:Addr) (F:F6 z ti to j1 j2) :
  Turn P w K (.Tuple elts kk pos) (zD K a b) [z,ti,to,j1,j2] z (Qc (λi h=>h.IsTupleIter j1 a i) (λi h=>h.IsTupleIter j2 b i) z ti to j1 j2) where
 mem:=by simp
 obj:=λi h st c hc=>by
  have j4:c=z\/c=ti\/c=to\/c=j1\/c=j2:=by simpa using hc
  rcases j4 with rfl|rfl|rfl|rfl|rfl
  ·exact⟨_,st.z,λv q=>nomatch q⟩
  ·exact⟨_,st.ti,λv q=>nomatch q⟩
  ·obtain⟨u,v,q⟩:=st.to;exact⟨_,q,λv q=>nomatch q⟩
  ·obtain⟨o,e,_,d⟩:=st.h1;exact⟨o,e,λv q=>by rw[d] at q;cases q⟩
  ·obtain⟨o,e,_,d⟩:=st.h2;exact⟨o,e,λv q=>by rw[d] at q;cases q⟩
 keep:=λi h h' st k=>⟨k z (by simp) _ st.z,k ti (by simp) _ st.ti,by obtain⟨u,v,q⟩:=st.to;exact⟨u,v,k to (by simp) _ q⟩,st.h1.at λo e=>k j1 (by simp) o e,st.h2.at λo e=>k j2 (by simp) o e⟩
 item:=by
  intro X hP hw hK hc i pins s σ H E I hf st hg
  subst hP hw hK
  obtain⟨xs,ys,x,y,hx,hy,ex,ey⟩:=hg
  obtain⟨i1,r1,p1,z1⟩:=I.tuple hx
  obtain⟨i2,r2,p2,z2⟩:=I.tuple hy
  obtain⟨u,eu,ru⟩:=r1.get ex
  obtain⟨v,ev,rv⟩:=r2.get ey
  have ne:∀c∈[z,ti,to,j1,j2],a≠c/\b≠c:=λc jw=>⟨qA I hx (hf c jw),qA I hy (hf c jw)⟩
  have D:HZ.Apart z ti to j1 j2 a b:=⟨F.a1,F.a2,F.a3,F.a4,F.a5,F.a6,F.a7,F.a8,F.a9,F.b0,(ne z (by simp)).1,(ne to (by simp)).1,(ne j1 (by simp)).1,(ne j2 (by simp)).1,(ne z (by simp)).2,(ne to (by simp)).2,(ne j1 (by simp)).2,(ne j2 (by simp)).2⟩
  obtain⟨w1,w2,wx⟩:=st.to
  have hh:X.A.in1.handled=none:=I.ok.hd hc
  refine HZ.next_item D (HZ.ot hh j1 a i1.toArray) (HZ.ot hh j2 b i2.toArray) st.z st.ti wx ⟨st.h1,p1⟩ ⟨st.h2,p2⟩ (by simpa using eu) (by simpa using ev) λh' c1 c2 c3 c4 c5 c6 c7=>⟨_,rfl,?_⟩
  refine wpAny_letOwnedTupleGo_zip c1 λh2 d1 d2=>?_
  have hn:H s.heap.objs.size=none:=I.au.fresh (Nat.le_refl _)
  have wz:z<s.heap.objs.size:=Heap.lt_size st.z
  have lS:IsTup h2 s.heap.objs.size #[u,v]:=⟨_,d2.extBut _ _ (Nat.ne_of_gt wz) c5,rfl,_,rfl⟩
  have I2:Inv X pins σ (upd H s.heap.objs.size (.tup [x,y])) { s with heap:=h2,toks:=s.toks }:=I.CU (ch:=[z,ti,to,j1,j2]) (λc o nH e=>by
   have q:c≠z/\c≠ti/\c≠to/\c≠j1/\c≠j2:=by simpa using nH
   exact d2.extBut c o q.1 (c7 c o q.1 q.2.2.1 q.2.2.2.1 q.2.2.2.2 e)) hf (Nat.le_refl _) ⟨by show 2<=sizeLine;decide,[u,v],.cons ru (.cons rv .nil),lS⟩
  refine⟨.ref s.heap.objs.size,_,I2,rfl,⟨_,x,y,hn,rfl,rfl,λSM Vr q1 q2=>?_⟩,?_,λc jw=>?_⟩
  ·rw[I.uj q1 hx,I.uj q2 hy];exact⟨ex,ey⟩
  ·refine⟨d1,d2.extBut _ _ F.a1 (c7 _ _ F.a1 F.a5 F.a6 F.a7 st.ti),⟨_,_,d2.extBut _ _ F.a2 c2⟩,c3.1.extBut d2.extBut F.a3,c4.1.extBut d2.extBut F.a4⟩
  ·rw[bc]
   ·exact(hf c jw).1
   ·intro e
    obtain⟨o,eo⟩:∃o,s.heap.get? c=some o:=by
     have j4:c=z\/c=ti\/c=to\/c=j1\/c=j2:=by simpa using jw
     rcases j4 with q|q|q|q|q
     ·rw[q];exact⟨_,st.z⟩
     ·rw[q];exact⟨_,st.ti⟩
     ·rw[q];exact⟨_,wx⟩
     ·rw[q];obtain⟨o,e,_⟩:=st.h1;exact⟨o,e⟩
     ·rw[q];obtain⟨o,e,_⟩:=st.h2;exact⟨o,e⟩
    exact absurd (Heap.lt_size eo) (by rw[e];exact Nat.lt_irrefl _)
 done:=by
  intro X hP hw hK hc i pins s σ H E I hf st hg
  subst hP hw hK
  obtain⟨xs,ys,hx,hy,hle⟩:=hg
  obtain⟨i1,r1,p1,z1⟩:=I.tuple hx
  obtain⟨i2,r2,p2,z2⟩:=I.tuple hy
  have ne:∀c∈[z,ti,to,j1,j2],a≠c/\b≠c:=λc jw=>⟨qA I hx (hf c jw),qA I hy (hf c jw)⟩
  have D:HZ.Apart z ti to j1 j2 a b:=⟨F.a1,F.a2,F.a3,F.a4,F.a5,F.a6,F.a7,F.a8,F.a9,F.b0,(ne z (by simp)).1,(ne to (by simp)).1,(ne j1 (by simp)).1,(ne j2 (by simp)).1,(ne z (by simp)).2,(ne to (by simp)).2,(ne j1 (by simp)).2,(ne j2 (by simp)).2⟩
  obtain⟨w1,w2,wx⟩:=st.to
  have hh:X.A.in1.handled=none:=I.ok.hd hc
  have l1:=r1.length
  have l2:=r2.length
  refine HZ.next_end D (HZ.ot hh j1 a i1.toArray) (HZ.ot hh j2 b i2.toArray) st.z st.ti wx ⟨st.h1,p1⟩ ⟨st.h2,p2⟩ ?_ λh' c7=>⟨rfl,I.xk (t':=s.toks) (ch:=[z,ti,to,j1,j2]) (λc o nH e=>by
   have q:c≠z/\c≠ti/\c≠to/\c≠j1/\c≠j2:=by simpa using nH
   exact c7 c o q.1 q.2.2.1 q.2.2.2.1 q.2.2.2.2 e) hf⟩
  rcases hle with q|q
  ·left;simp;omega
  ·right;simp;omega
 self:=λA i s Q E st h=>wpAny_pyIter_zip st.z h
end L2
namespace HZ
open PySem PySem.Spec PyProof.Rows
noncomputable abbrev y1 (h:Heap) (m1:Addr):Heap:=h.push { cls:=.type "tuple_iterator",data:=.fields #[.ref m1,.int 0 0] }
noncomputable abbrev y2 (h:Heap) (m1 m2:Addr):Heap:=(y1 h m1).push { cls:=.type "tuple_iterator",data:=.fields #[.ref m2,.int 0 0] }
noncomputable abbrev y3 (h:Heap) (m1 m2:Addr):Heap:=(y2 h m1 m2).push { cls:=.type "tuple",data:=.seq #[.ref h.objs.size,.ref (y1 h m1).objs.size] }
noncomputable abbrev y4 (h:Heap) (m1 m2:Addr):Heap:=(y3 h m1 m2).push { cls:=.type "tuple",data:=.seq #[.none,.none] }
noncomputable abbrev y5 (h:Heap) (m1 m2:Addr):Heap:=(y4 h m1 m2).push { cls:=.type "zip",data:=.fields #[.none,.bool false,.bool false,.ref (y2 h m1 m2).objs.size,.ref (y3 h m1 m2).objs.size] }
theorem Jb (m1 m2:Addr) (xs ys:Array Value) :
  Meets (Builtin.«zip.__new__» ⟨[.type "zip",.ref m1,.ref m2],[]⟩) (λ_ R s=>s.heap.IsTuple m1 xs/\s.heap.IsTuple m2 ys/\R (.ok (.ret (.ref (y4 s.heap m1 m2).objs.size))) { s with heap:=y5 s.heap m1 m2 }) :=
 .of_wp λprog w A R s h=>by
  obtain⟨hp,g,d,tk,os⟩:=s;obtain⟨h1,h2,h⟩:=h
  have RH:=sub_zip
  have L1:Heap.IsTuple (Shared.heap ⟨hp,g,d,tk,os⟩) m1 xs:=h1
  have L2:Heap.IsTuple (Shared.heap ⟨hp.push { cls:=.type "tuple_iterator",data:=.fields #[.ref m1,.int 0 0] },g,d,tk,os⟩) m2 ys:=Heap.IsTuple.push h2 _
  wp_walk using wpAny_pyIter_tuple L1,wpAny_pyIter_tuple L2
  exact⟨_,rfl,h⟩
section
variable {P:Program} {w:World} {A:Around} {E:Value->Shared->Prop} {s:Shared}
theorem HP {m1 m2:Addr} {xs ys:Array Value} {Q:Value->Shared->Prop} (h1:s.heap.IsTuple m1 xs) (h2:s.heap.IsTuple m2 ys)
  (h:∀h',IsZip h' (s.heap.objs.size+4) (s.heap.objs.size+2) (s.heap.objs.size+3) .none->IsPair h' (s.heap.objs.size+2) (.ref s.heap.objs.size) (.ref (s.heap.objs.size+1)) ->
   IsPair h' (s.heap.objs.size+3) .none .none->h'.IsTupleIter s.heap.objs.size m1 0->h'.IsTupleIter (s.heap.objs.size+1) m2 0->h'.objs.size=s.heap.objs.size+5 ->
   (∀c o,s.heap.get? c=some o->h'.get? c=some o)->Q (.ref (s.heap.objs.size+4)) { s with heap:=h' }):wpAny (model P w) A (call (.type "zip") [.ref m1,.ref m2]) Q E s:=by
 refine callType_new F.called_zip (by decide) (F.typeCall_zip_2 _ _) (F.newCall_zip_2 _ _) (λobj=>F.args_object_init_3 obj _ _) F.entry_zip_new (Jb m1 m2 xs ys) ⟨h1,h2,?_⟩
 have e1:(y1 s.heap m1).objs.size=s.heap.objs.size+1:=Heap.size_push ..
 have e2:(y2 s.heap m1 m2).objs.size=s.heap.objs.size+2:=by rw[Heap.size_push,e1]
 have e3:(y3 s.heap m1 m2).objs.size=s.heap.objs.size+3:=by rw[Heap.size_push,e2]
 have e4:(y4 s.heap m1 m2).objs.size=s.heap.objs.size+4:=by rw[Heap.size_push,e3]
 have e5:(y5 s.heap m1 m2).objs.size=s.heap.objs.size+5:=by rw[Heap.size_push,e4]
 have g5:(y5 s.heap m1 m2).get? (y4 s.heap m1 m2).objs.size=some _:=Heap.get?_push_size _ rfl
 have g4:(y5 s.heap m1 m2).get? (y3 s.heap m1 m2).objs.size=some _:=Heap.get?_push_of_some _ (Heap.get?_push_size _ rfl)
 have g3:(y5 s.heap m1 m2).get? (y2 s.heap m1 m2).objs.size=some _:=Heap.get?_push_of_some _ (Heap.get?_push_of_some _ (Heap.get?_push_size _ rfl))
 have g2:(y5 s.heap m1 m2).get? (y1 s.heap m1).objs.size=some _:=Heap.get?_push_of_some _ (Heap.get?_push_of_some _ (Heap.get?_push_of_some _ (Heap.get?_push_size _ rfl)))
 have g1:(y5 s.heap m1 m2).get? s.heap.objs.size=some _:=Heap.get?_push_of_some _ (Heap.get?_push_of_some _ (Heap.get?_push_of_some _ (Heap.get?_push_of_some _ (Heap.get?_push_size _ rfl))))
 show _/\_
 rw[e2,e3,e4] at g5
 rw[e1,e2] at g3
 rw[e3] at g4
 rw[e1] at g2
 rw[e4]
 exact⟨⟨_,g5,rfl⟩,h _ g5 g3 g4 ⟨_,g1,rfl,rfl⟩ ⟨_,g2,rfl,rfl⟩ e5 λc o q=>Heap.get?_push_of_some _ (Heap.get?_push_of_some _ (Heap.get?_push_of_some _ (Heap.get?_push_of_some _ (Heap.get?_push_of_some _ q))))⟩
end
end HZ
namespace L2
open PySem PySem.Spec PyProof.Rows
theorem K5 (n:Nat):F6 (n+4) (n+2) (n+3) n (n+1):=by constructor<;>(show (_:Nat)≠_)<;>omega
section
variable {X:Cx} {elts:List Expr} {kk:Nat} {tp:Pos}
noncomputable def Qd (K:Frag) (ta:TA):TI:=fun σ H R=>ta σ H λvs H1=>∃a b xs ys,vs=[.ref a,.ref b]/\aP K H1 a xs/\aP K H1 b ys/\R (zD K a b) H1
theorem JT:bootBuiltins "zip"=some (.type "zip"):=by decide +kernel
theorem Oy {pins:List (Addr×Obj)} {σ:St} {H:Hp} {s:Shared} (I:Inv X pins σ H s):∀b∈[s.heap.objs.size+4,s.heap.objs.size+2,s.heap.objs.size+3,s.heap.objs.size,s.heap.objs.size+1],cj X pins H b:=λb hb=>by
 have dC:s.heap.objs.size<=b:=by
  have q:b=s.heap.objs.size+4\/b=s.heap.objs.size+2\/b=s.heap.objs.size+3\/b=s.heap.objs.size\/b=s.heap.objs.size+1:=by simpa using hb
  omega
 exact I.kM dC (I.au.fresh dC)
theorem Mz {a b:Expr} {ta:TA} {p pos:Pos} (hg:Gl X "zip") (hm:X.mg "zip"=none) (ha:PA X [a,b] ta) (hs:starEach [a,b] X.env=[(false,eval a X.env),(false,eval b X.env)]:=by rfl) (kX:starEach [b] X.env=[(false,eval b X.env)]:=by rfl) :
  PI X (.Tuple elts kk tp) (.Call (.Name "zip" p) [a,b] [] pos) (Qd X.K ta):=by
 intro pins s σ H R I h
 refine Call_ (lE I hg hm JT (PyProof.Rows.callWith_type1 (aA (ha pos pins s σ H _ I h) λus s1 ⟨vs,H1,I1,r1,q1⟩=>?_) (by rw[hs,kX]) (by rw[kX];rfl)))
 obtain⟨a,b,xs,ys,e,hx,hy,q⟩:=q1
 subst e
 obtain⟨u,v,rfl,ru,rv⟩:=vals2 r1
 cases ru
 cases rv
 obtain⟨i1,_,p1,_⟩:=I1.tuple hx
 obtain⟨i2,_,p2,_⟩:=I1.tuple hy
 refine HZ.HP (xs:=i1.toArray) (ys:=i2.toArray) p1 p2 λh' c1 c2 c3 c4 c5 c6 c7=>?_
 refine wpAny_pyIter_zip (s:={ s1 with heap:=h' }) c1 ?_
 exact⟨_,[s1.heap.objs.size+4,s1.heap.objs.size+2,s1.heap.objs.size+3,s1.heap.objs.size,s1.heap.objs.size+1],_,_,H1,rfl,I1.kept (t':=s1.toks) c7,JS a b _ _ _ _ _ (K5 _),⟨c1,c2,⟨_,_,c3⟩,c4,c5⟩,Oy I1,q⟩
end
end L2
namespace PySem
section
variable {P:Program} {w:World} {A:Around} {E:Value->Shared->Prop} {s:Shared}
end
end PySem
namespace L2
open PySem PySem.Spec PyProof.Rows
theorem map_getD (ns:List Int):(List.range ns.length).map (λi=>ns.getD i 0)=ns:=by
 apply List.ext_getElem?
 intro i
 rw[List.getElem?_map]
 by_cases h:i<ns.length
 ·rw[List.getElem?_range h,List.getElem?_eq_getElem h]
  simp[List.getD,List.getElem?_eq_getElem h]
 ·rw[List.getElem?_eq_none (by simpa using h),List.getElem?_eq_none (by omega)]
  rfl
section
variable {X:Cx}
end
end L2
namespace L2
open PySem PySem.Spec PyProof.Rows
section
variable {κ:Type} [DecidableEq κ]
noncomputable def gX (ai:List (κ×V)) (k:κ):Option V:=(ai.find? λkv=>decide (kv.1=k)).map (·.2)
noncomputable def putK (ai:List (κ×V)) (k:κ) (v:V):List (κ×V) :=
 if (ai.any λkv=>decide (kv.1=k))=true then ai.map (λkv=>if kv.1=k then (kv.1,v) else kv) else ai++[(k,v)]
theorem uA {p:κ×V} {r:List (κ×V)} {k:κ} (e:p.1=k):gX (p::r) k=some p.2:=by simp[gX,List.find?_cons,e]
theorem uB {p:κ×V} {r:List (κ×V)} {k:κ} (e:¬ p.1=k):gX (p::r) k=gX r k:=by simp[gX,List.find?_cons,e]
theorem Di (k:κ):∀ai:List (κ×V),(ai.any λkv=>decide (kv.1=k))=(gX ai k).isSome
 | []=>rfl
 |p::r=>by
  rw[List.any_cons]
  by_cases e:p.1=k
  ·simp only[uA e,decide_eq_true e,Bool.true_or,Option.isSome_some]
  ·rw[uB e,decide_eq_false e,Bool.false_or];exact Di k r
theorem tW (ai:List (κ×V)) (k:κ) (v:V):(putK ai k v).length<=ai.length+1:=by
 unfold putK
 split
 ·rw[List.length_map];omega
 ·rw[List.length_append,List.length_cons,List.length_nil];omega
theorem jQ.qg {o:Option V} {u:Option Value} (r:jQ o u):o.isSome=u.isSome:=by
 cases o with
 |none=>cases u with
  |none=>rfl
  |some _=>exact(show False from r).elim
 |some _=>cases u with
  |none=>exact(show False from r).elim
  |some _=>rfl
theorem KV.val {ai:List (κ×V)} {vs:List (κ×Value)} (r:KV ai vs) (k:κ):jQ (gX ai k) (valueAt vs k):=by
 unfold KV at r
 induction r with
 |nil=>exact True.intro
 | @cons p q ps qs h t ih =>
  obtain⟨h1,h2⟩:=h
  by_cases e:p.1=k
  ·have e':q.1=k:=h1.symm.trans e
   have b:valueAt (q::qs) k=some q.2:=by simp[valueAt,List.find?_cons,e']
   rw[uA e,b];exact h2
  ·have e':¬ q.1=k:=λz=>e (h1.trans z)
   have b:valueAt (q::qs) k=valueAt qs k:=by simp[valueAt,List.find?_cons,e']
   rw[uB e,b];exact ih
theorem KV.any {ai:List (κ×V)} {vs:List (κ×Value)} (r:KV ai vs) (k:κ):(ai.any λkv=>decide (kv.1=k))=vs.any λkv=>decide (kv.1=k):=by
 unfold KV at r
 induction r with
 |nil=>rfl
 |cons h t ih=>rw[List.any_cons,List.any_cons,ih,h.1]
theorem KV.zE {ai:List (κ×V)} {vs:List (κ×Value)} (r:KV ai vs) (k:κ) {y:V} {u:Value} (ry:RelV y u) :
  KV (ai.map λkv=>if kv.1=k then (kv.1,y) else kv) (vs.map λkv=>if kv.1=k then (kv.1,u) else kv):=by
 unfold KV at r |-
 induction r with
 |nil=>exact .nil
 | @cons p q ps qs h t ih =>
  rw[List.map_cons,List.map_cons]
  refine .cons ?_ ih
  obtain⟨h1,h2⟩:=h
  by_cases e:p.1=k
  ·rw[if_pos e,if_pos (h1.symm.trans e)];exact⟨h1,ry⟩
  ·rw[if_neg e,if_neg (λz=>e (h1.trans z))];exact⟨h1,h2⟩
theorem KV.put {ai:List (κ×V)} {vs:List (κ×Value)} (r:KV ai vs) (k:κ) {y:V} {u:Value} (ry:RelV y u):KV (putK ai k y) (stored vs k u):=by
 unfold putK stored
 rw[r.any k]
 by_cases e:(vs.any λkv=>decide (kv.1=k))=true
 ·rw[if_pos e,if_pos e];exact r.zE k ry
 ·rw[if_neg e,if_neg e];exact Paired.snoc r ⟨rfl,ry⟩
theorem KV.keys {ai:List (κ×V)} {vs:List (κ×Value)} (r:KV ai vs):ai.map (·.1)=vs.map (·.1):=by
 unfold KV at r
 induction r with
 |nil=>rfl
 |cons h t ih=>rw[List.map_cons,List.map_cons,ih,h.1]
theorem KV.length {ai:List (κ×V)} {vs:List (κ×Value)} (r:KV ai vs):ai.length=vs.length:=Paired.length r
end
theorem oK {P:Program} {w:World} {k:Key} {u:Value} (r:RelV (kV k) u):(cK P w).is k u=true:=by
 cases k with
 |inl i=>obtain⟨t,e⟩:=(show ∃t,u=Value.int i t from r);subst e;exact Cf P w i t
 |inr x=>obtain⟨t,e⟩:=(show ∃t,u=Value.str x t from r);subst e;exact Io P w x t
theorem CV {P:Program} {w:World}:∀{ks:List Key} {us:List Value},Vals (ks.map kV) us->ItemsAre (cK P w) ks us
 | [],_,r=>by rw[List.map_nil] at r;cases r;exact .nil
 |k::ks,_,r=>by
  rw[List.map_cons] at r
  cases r with
  |cons h t=>exact .cons (oK h) (CV t)
noncomputable abbrev KT (H:Hp):List (List Key×V)->List (List Key×Addr×Value)->Prop:=Paired λp q=>p.1=q.1/\H q.2.1=some (.tup (p.1.map kV))/\RelV p.2 q.2.2
theorem KT.val {H:Hp} {ai:List (List Key×V)} {xs:List (List Key×Addr×Value)} (r:KT H ai xs) (k:List Key):jQ (gX ai k) ((atKey xs k).map (·.2)):=by
 induction r with
 |nil=>exact True.intro
 | @cons p q ps qs h t ih =>
  obtain⟨h1,_,h2⟩:=h
  by_cases e:p.1=k
  ·have e':q.1=k:=h1.symm.trans e
   have b:atKey (q::qs) k=some q.2:=by simp[atKey,List.find?_cons,e']
   rw[uA e,b];exact h2
  ·have e':¬ q.1=k:=λz=>e (h1.trans z)
   have b:atKey (q::qs) k=atKey qs k:=by simp[atKey,List.find?_cons,e']
   rw[uB e,b];exact ih
theorem KT.zE {H:Hp} {ai:List (List Key×V)} {xs:List (List Key×Addr×Value)} (r:KT H ai xs) (k:List Key) {y:V} {u:Value} (ry:RelV y u) :
  KT H (ai.map λkv=>if kv.1=k then (kv.1,y) else kv) (xs.map (putAt k u)):=by
 induction r with
 |nil=>exact .nil
 | @cons p q ps qs h t ih =>
  rw[List.map_cons,List.map_cons]
  refine .cons ?_ ih
  obtain⟨h1,h2,h3⟩:=h
  unfold putAt
  by_cases e:p.1=k
  ·rw[if_pos e,if_pos (h1.symm.trans e)];exact⟨h1,h2,ry⟩
  ·rw[if_neg e,if_neg (λz=>e (h1.trans z))];exact⟨h1,h2,h3⟩
theorem KT.put {H:Hp} {ai:List (List Key×V)} {xs:List (List Key×Addr×Value)} (r:KT H ai xs) (k:List Key) {b:Addr} {y:V} {u:Value} (hb:H b=some (.tup (k.map kV))) (ry:RelV y u) :
  KT H (putK ai k y) (storedH xs k b u):=by
 have e:(ai.any λkv=>decide (kv.1=k))=(atKey xs k).isSome:=by
  rw[Di,(r.val k).qg,Option.isSome_map]
 unfold putK storedH
 rw[e]
 by_cases q:(atKey xs k).isSome=true
 ·rw[if_pos q,if_pos q];exact r.zE k ry
 ·rw[if_neg q,if_neg q];exact Paired.snoc r ⟨rfl,hb,ry⟩
theorem KT.keeps {H H':Hp} {ai:List (List Key×V)} {xs:List (List Key×Addr×Value)} (r:KT H ai xs) (ht:∀b ys,H b=some (.tup ys)->H' b=some (.tup ys)):KT H' ai xs :=
 Paired.zo r λ_ _ z=>⟨z.1,ht _ _ z.2.1,z.2.2⟩
section
variable {P:Program} {w:World} {H:Hp} {h:Heap} {a:Addr}
theorem Fg {u:HO} (ok:bK P w H h) (e:Rd H a u):cb P w H h a u:=e.ok ok
theorem qM {ai:List (Key×V)} (ok:bK P w H h) (e:Rd H a (.dK ai)):ai.length<=sizeLine/\(a==sysModules)=false/\∃vs,KV ai vs/\h.DictOf (cK P w) a vs :=
 show cb P w H h a (.dK ai) from Fg ok e
theorem yV {ai:List (Key×V)} (ok:bK P w H h) (e:H a=some (.dK ai)):ai.length<=sizeLine/\(a==sysModules)=false/\∃vs,KV ai vs/\h.DictOf (cK P w) a vs:=qM ok (.inl e)
theorem jK {ks:List Key} (ok:bK P w H h) (e:H a=some (.tup (ks.map kV))):(tupleKind (cK P w)).is h ks a:=by
 obtain⟨_,its,r,o,h1,h2,n,h3⟩:=(show cb P w H h a (.tup (ks.map kV)) from ok a _ e)
 exact⟨o,its.toArray,n,h1,h2,h3,by simpa using CV r⟩
theorem qN {ai:List (List Key×V)} (ok:bK P w H h) (e:Rd H a (.dT ai)):ai.length<=sizeLine/\(a==sysModules)=false /\
  ∃xs,KT H ai xs/\h.DictOfH (tupleKind (cK P w)) a xs:=by
 obtain⟨z,y,xs,r,o,es,ep,h1,h2,h3,h4,h5⟩:=(show cb P w H h a (.dT ai) from Fg ok e)
 refine⟨z,y,xs,r,o,es,ep,h1,h2,h3,h4,λx hx=>?_,h5⟩
 have all:∀{l:List (List Key×V)} {m:List (List Key×Addr×Value)},KT H l m->∀x∈m,(tupleKind (cK P w)).is h x.1 x.2.1:=by
  intro l m q
  induction q with
  |nil=>intro x hx;exact nomatch hx
  | @cons p q ps qs hq t ih =>
   intro x hx
   rcases List.mem_cons.mp hx with e|hx
   ·subst e
    exact jK ok (by rw[<- hq.1];exact hq.2.1)
   ·exact ih x hx
 exact all r x hx
theorem Qe {ai:List (List Key×V)} (ok:bK P w H h) (e:H a=some (.dT ai)):ai.length<=sizeLine/\(a==sysModules)=false /\
  ∃xs,KT H ai xs/\h.DictOfH (tupleKind (cK P w)) a xs:=qN ok (.inl e)
end
def jS (H:Hp) (a:Addr) (y:V) (r:Option V):Prop :=
 (∃ai k,Rd H a (.dK ai)/\y=kV k/\r=gX ai k)\/∃ai k b,Rd H a (.dT ai)/\y=.ref b/\H b=some (.tup (k.map kV))/\r=gX ai k
def rn (H:Hp) (a:Addr) (y v:V) (H':Hp):Prop :=
 (∃ai k,H a=some (.dK ai)/\y=kV k/\ai.length<sizeLine/\H'=upd H a (.dK (putK ai k v))) \/
 ∃ai k b,H a=some (.dT ai)/\y=.ref b/\H b=some (.tup (k.map kV))/\ai.length<sizeLine/\H'=upd H a (.dT (putK ai k v))
theorem jS.k {H:Hp} {a:Addr} {ai:List (Key×V)} {k:Key} (e:H a=some (.dK ai)):jS H a (kV k) (gX ai k):=.inl ⟨ai,k,.inl e,rfl,rfl⟩
theorem rn.k {H:Hp} {a:Addr} {ai:List (Key×V)} {k:Key} {v:V} (e:H a=some (.dK ai)) (hl:ai.length<sizeLine):rn H a (kV k) v (upd H a (.dK (putK ai k v))):=.inl ⟨ai,k,e,rfl,hl,rfl⟩
section
variable {X:Cx} {pins:List (Addr×Obj)} {σ:St} {H:Hp} {s:Shared} {a:Addr} {y v:V} {u r:Value} {o:Option V} {A:Around} {E:Value->Shared->Prop}
theorem Inv.big (I:Inv X pins σ H s):sysModules<s.heap.objs.size:=by
 have h:mainGlobals<s.heap.objs.size:=(I.mod.glob.keeps I.bk).lt
 exact Nat.lt_trans (by decide) h
theorem JU {Q:Value->Shared->Prop} (hu:A.units+1<cLine) (I:Inv X pins σ H s) (g:jS H a y (some v)) (ry:RelV y u) (h:∀w' s',Inv X pins σ H s'->RelV v w'->Q w' s') :
  wpAny (model X.prog X.w) A (getItem (.ref a) u) Q E s:=by
 rcases g with ⟨ai,k,e,ey,l⟩ | ⟨ai,k,b,e,ey,eb,l⟩
 ·subst ey
  obtain⟨z,hd,vs,rel,dd⟩:=qM I.au e
  obtain⟨w',hw,ib⟩:=jQ.some_of (v:=v) (o:=valueAt vs k) (by rw[l];exact rel.val k)
  exact wpAny_getItem_of (oK ry) dd.mapOf hw (h w' _ (I.tok _) ib)
 ·subst ey
  cases (show u=Value.ref b from ry)
  obtain⟨z,hd,xs,rel,dd⟩:=qN I.au e
  obtain⟨w',hw,ib⟩:=jQ.some_of (v:=v) (o:=(atKey xs k).map (·.2)) (by rw[l];exact rel.val k)
  obtain⟨p,hp,SN⟩:=Option.map_eq_some_iff.mp hw
  refine wpAny_getItem_heap (tupleKind_room_in1 hu) (jK I.au eb) dd hp ?_
  rw[SN]
  exact h w' _ (I.tok _) ib
theorem RJ {Q:Value->Shared->Prop} (hu:A.units+1<cLine) (I:Inv X pins σ H s) (g:jS H a y o) (ry:RelV y u) (h:∀s',Inv X pins σ H s'->Q (.bool o.isSome) s') :
  wpAny (model X.prog X.w) A (compareOp .In u (.ref a)) Q E s:=by
 rcases g with ⟨ai,k,e,ey,l⟩ | ⟨ai,k,b,e,ey,eb,l⟩
 ·subst ey
  obtain⟨z,hd,vs,rel,dd⟩:=qM I.au e
  refine wpAny_in_of (oK ry) hd dd.mapOf ?_
  rw[<- (rel.val k).qg,<- l]
  exact h _ (I.tok _)
 ·subst ey
  cases (show u=Value.ref b from ry)
  obtain⟨z,hd,xs,rel,dd⟩:=qN I.au e
  refine wpAny_in_heap (tupleKind_room_in1 hu) (jK I.au eb) hd dd ?_
  have q:=(rel.val k).qg
  rw[Option.isSome_map] at q
  rw[<- q,<- l]
  exact h _ (I.tok _)
theorem MA {Q:Value->Shared->Prop} (hu:A.units+1<cLine) (I:Inv X pins σ H s) (g:jS H a y o) (ry:RelV y u) (h:∀s',Inv X pins σ H s'->Q (.bool (!o.isSome)) s') :
  wpAny (model X.prog X.w) A (compareOp .NotIn u (.ref a)) Q E s:=by
 rcases g with ⟨ai,k,e,ey,l⟩ | ⟨ai,k,b,e,ey,eb,l⟩
 ·subst ey
  obtain⟨z,hd,vs,rel,dd⟩:=qM I.au e
  refine wpAny_notIn_of (oK ry) hd dd.mapOf ?_
  rw[<- (rel.val k).qg,<- l]
  exact h _ (I.tok _)
 ·subst ey
  cases (show u=Value.ref b from ry)
  obtain⟨z,hd,xs,rel,dd⟩:=qN I.au e
  refine wpAny_notIn_heap (tupleKind_room_in1 hu) (jK I.au eb) hd dd ?_
  have q:=(rel.val k).qg
  rw[Option.isSome_map] at q
  rw[<- q,<- l]
  exact h _ (I.tok _)
theorem xW {h':Heap} {t':Nat} {ob:HO} (I:Inv X pins σ H s) (mu:rT (H a)) (hs:Heap.SameBut a s.heap h') (he:∃q,h'.get? a=some q) (new:cb X.prog X.w (upd H a ob) h' a ob) :
  Inv X pins σ (upd H a ob) { s with heap:=h',toks:=t' } :=
 I.write (x:=a) (e:=a) mu (.inl rfl) (λb q hb z=>(hs.2 b hb).trans z) he new
theorem ED {P:Program} {w:World} {H':Hp} {h':Heap} {ai:List (Key×V)} {vs:List (Key×Value)} (z:ai.length<=sizeLine) (hd:(a==sysModules)=false) (rel:KV ai vs) (dd:h'.DictOf (cK P w) a vs) :
  cb P w H' h' a (.dK ai):=⟨z,hd,vs,rel,dd⟩
theorem JV {H':Hp} {Q:Unit->Shared->Prop} (hu:A.units+1<cLine) (I:Inv X pins σ H s) (g:rn H a y v H') (ry:RelV y u) (rv:RelV v r) (h:∀s',Inv X pins σ H' s'->Q () s') :
  wpAny (model X.prog X.w) A (setItem (.ref a) u r) Q E s:=by
 rcases g with ⟨ai,k,e,ey,l,eH⟩ | ⟨ai,k,b,e,ey,eb,l,eH⟩
 ·subst ey eH
  obtain⟨z,hd,vs,rel,dd⟩:=yV I.au e
  have hz:vs.length<=sizeLine:=by rw[<- rel.length];exact z
  have hl:(putK ai k v).length<=sizeLine:=by have:=tW ai k v;omega
  refine wpAny_setItem_pairs (hsz:=hz) (oK ry) dd λh' nJ hs=>h _ ?_
  have he:∃q,h'.get? a=some q:=let ⟨q,_,_,hq,_⟩:=nJ;⟨q,hq⟩
  exact xW I (by rw[e];exact True.intro) hs he (ED hl hd (rel.put k rv) nJ)
 ·subst ey eH
  cases (show u=Value.ref b from ry)
  obtain⟨z,hd,xs,rel,dd⟩:=Qe I.au e
  have hz:xs.length<=sizeLine:=by rw[<- Paired.length rel];exact z
  have hl:(putK ai k v).length<=sizeLine:=by have:=tW ai k v;omega
  refine wpAny_setItem_heap (hsz:=hz) (tupleKind_room_in1 hu) (jK I.au eb) dd λh' nJ hs=>h _ ?_
  obtain⟨q,es,ep,hq,h2,h3,h4,_,h5⟩:=nJ
  refine xW I (by rw[e];exact True.intro) hs ⟨q,hq⟩ ⟨hl,hd,_,(rel.put k eb rv).keeps λc ys ec=>?_,q,es,ep,hq,h2,h3,h4,h5⟩
  rw[bc (Py ec e (λz=>nomatch z))]
  exact ec
end
section
variable {X:Cx} {pins:List (Addr×Obj)} {σ:St} {H:Hp} {s:Shared} {a:Addr} {ai:List (Key×V)} {k:Key} {u:Value} {A:Around} {E:Value->Shared->Prop}
end
def zF (i:Expr):Prop:=∀ov iv,subscripted i false ov iv=operate [ov,iv] (getItem ov iv)
theorem DY {prog:Program} {w:World} {A:Around} {E:Value->Shared->Prop} {s:Shared} {env:Env} {value slice:Expr} {pos:Pos} {T id:String} {Q:Value->Shared->Prop}
  (hl:typeLookup (.type T) "__getitem__"=pure (some (.builtin id))) (hs:zF slice)
  (h:wpAny (model prog w) A (eval value env) (λo aZ=>wpAny (model prog w) A (eval slice env) (λi kN=>kN.TypeIs o T/\wpAny (model prog w) A (getItem o i) Q E kN) E aZ) E s) :
  wpAny (model prog w) A (eval (.Subscript value slice pos) env) Q E s:=by
 refine Subscript_ (wpAny_mono h (λo aZ rp=>wpAny_mono rp (λi kN zH=>?_) λ_ _ x=>x) λ_ _ x=>x)
 obtain⟨hT,zH⟩:=zH
 unfold subscriptTail
 refine wpAny_bind ?_
 rw[getitemInPython_of_ne hT.not_modules]
 refine wpAny_bind (wpAny_specialOf hT hl ?_)
 have fin:wpAny (model prog w) A (subscripted slice false o i) (λr F7=>wpAny (model prog w) A (letTemporaryGo value o r >>= λ_=>pure r) Q E F7) E kN:=by
  rw[hs o i]
  exact wpAny_operating (wpAny_mono zH (λr F7 RK=>wpAny_bind (wpAny_letTemporaryGo (wpAny_pure RK))) λ_ _ x=>x)
 first
  |exact wpAny_pure (wpAny_bind fin)
  |exact wpAny_bind (wpAny_pure (wpAny_bind fin))
  |exact wpAny_bind fin
theorem Iu {X:Cx} {pins:List (Addr×Obj)} {σ:St} {H:Hp} {s:Shared} {a:Addr} {y:V} {o:Option V} (I:Inv X pins σ H s) (g:jS H a y o):s.TypeIs (.ref a) "dict":=by
 rcases g with ⟨ai,k,e,_,_⟩ | ⟨ai,k,b,e,_,_,_⟩
 ·obtain⟨_,_,vs,_,dd⟩:=qM I.au e
  exact dd.typeIs
 ·obtain⟨_,_,xs,_,dd⟩:=qN I.au e
  exact dd.typeIs
noncomputable def Qf (td ty:TE):TE:=fun σ H Q=>td σ H λx H1=>ty σ H1 λy H2=>∃a v,x=.ref a/\jS H2 a y (some v)/\Q v H2
noncomputable def Qg (td ty tv:TE):TS:=λD σ H=>tv σ H λv H1=>td σ H1 λx H2=>ty σ H2 λy H3=>∃a H4,x=.ref a/\rn H3 a y v H4/\D.nx σ H4
section
variable {X:Cx} {o i e value:Expr} {pos pos' rl:Pos} {td ty tv:TE}
theorem MB (hu:X.A.units+1<cLine) (ho:PE X o td) (hi:PE X i ty) (hs:zF i):PE X (.Subscript o i pos) (Qf td ty):=by
 intro pins s σ H Q I h
 refine DY PySem.F.slot_dict_getitem.lookup hs (aA (ho pins s σ H _ I h) λu s1 ⟨x,H1,I1,rx,q1⟩=>aA (hi pins s1 σ H1 _ I1 q1) λiv s2 ⟨y,H2,I2,ry,a,v,ex,g,q2⟩=>?_)
 subst ex
 obtain rfl:u=Value.ref a:=rx
 exact⟨Iu I2 g,JU hu I2 g ry λw' s3 I3 ib=>⟨v,H2,I3,ib,q2⟩⟩
theorem MC (hu:X.A.units+1<cLine) (ho:PE X o td) (hi:PE X i ty) (hv:PE X value tv) (hs:swapsWith value (some (.Subscript o i pos')) pos.line X.env=pure false) :
  PS X (.Assign [.Subscript o i pos'] value pos) (Qg td ty tv):=by
 intro pins s σ H D I h
 refine wpAny_Assign_Subscript (aA (hv pins s σ H _ I h) λr s1 ⟨v,H1,I1,rv,q1⟩=>aA (ho pins s1 σ H1 _ I1 q1) λu s2 ⟨x,H2,I2,rx,q2⟩=>aA (hi pins s2 σ H2 _ I2 q2) λiv s3 ⟨y,H3,I3,ry,a,H4,ex,g,q3⟩=>?_) hs
 subst ex
 obtain rfl:u=Value.ref a:=rx
 exact JV hu I3 g ry rv λs4 I4=>⟨σ,H4,I4,q3⟩
end
theorem Dj {P:Program} {w:World} {H:Hp} (h:Heap) (hb:sysModules<h.objs.size):cb P w H (h.push { cls:=.type "dict",data:=.dict #[] }) h.objs.size (.dK []) :=
 ⟨Nat.zero_le _,beq_eq_false_iff_ne.mpr (Ne.symm (Nat.ne_of_lt hb)),[],.nil,Heap.DictOf.new h⟩
noncomputable def Oz:TE:=λ_ H Q=>∀p,H p=none->Q (.ref p) (upd H p (.dK []))
section
variable {X:Cx} {pos:Pos}
theorem Dk:PE X (.Dict [] [] pos) Oz:=λpins s σ H Q I h =>
 wpAny_Dict_empty ⟨.ref s.heap.objs.size,_,I.laid (a:=s.heap.objs.size) (o:=.dK []) (t':=s.toks) (λ_ _ q=>Heap.get?_push_of_some _ q) (Nat.le_refl _) (Dj s.heap I.big),rfl,h _ (I.au.fresh (Nat.le_refl _))⟩
end
noncomputable def yu:List (TE×TE)->St->Hp->(List (V×V)->Hp->Prop)->Prop
 | [],_,H,Q=>Q [] H
 |(tk,tv)::r,σ,H,Q=>tk σ H λx H1=>tv σ H1 λy H2=>yu r σ H2 λps H3=>Q ((x,y)::ps) H3
noncomputable abbrev VV:List (V×V)->List (Value×Value)->Prop:=Paired λp q=>RelV p.1 q.1/\RelV p.2 q.2
def wA (X:Cx) (pos:Pos) (keys:List (Option Expr)) (values:List Expr) (kY:List (TE×TE)):Prop :=
 ∀(pins:List (Addr×Obj)) (s:Shared) (σ:St) (H:Hp) (Q:List (V×V)->Hp->Prop),Inv X pins σ H s->yu kY σ H Q ->
  wpAny (model X.prog X.w) X.A (evalPairs (pairTrees keys values X.env pos)) (λvs s'=>∃ps H',Inv X pins σ H' s'/\VV ps vs/\Q ps H') X.xe s
theorem MD {X:Cx} {pos:Pos}:wA X pos [] [] []:=λpins s σ H Q I h=>pairTrees_nil_walk ⟨[],H,I,.nil,h⟩
theorem K6 {X:Cx} {pos:Pos} {k v:Expr} {ks:List (Option Expr)} {vs:List Expr} {tk tv:TE} {kY:List (TE×TE)} (hk:PE X k tk) (hv:PE X v tv) (hr:wA X pos ks vs kY) :
  wA X pos (some k::ks) (v::vs) ((tk,tv)::kY):=λpins s σ H Q I h =>
 pairTrees_cons_walk (aA (hk pins s σ H _ I h) λu s1 ⟨x,H1,I1,rx,q1⟩=>aA (hv pins s1 σ H1 _ I1 q1) λw2 s2 ⟨y,H2,I2,ry,q2⟩ =>
  aA (hr pins s2 σ H2 _ I2 q2) λws s3 ⟨ps,H3,I3,rel,q3⟩=>⟨(x,y)::ps,H3,I3,.cons ⟨rx,ry⟩ rel,q3⟩)
noncomputable def oB (ai more:List (Key×V)):List (Key×V):=more.foldl (λacc kv=>putK acc kv.1 kv.2) ai
theorem KV.merge:∀{more:List (Key×V)} {rs:List (Key×Value)} {ai:List (Key×V)} {vs:List (Key×Value)},KV more rs->KV ai vs->KV (oB ai more) (merged vs rs):=by
 intro more rs ai vs r
 unfold KV at r
 induction r generalizing ai vs with
 |nil=>intro q;exact q
 | @cons p q ps qs h t ih =>
  intro r0
  have e:KV (putK ai p.1 p.2) (stored vs q.1 q.2):=by
   have:=r0.put p.1 h.2
   rw[<- h.1];exact this
  exact ih e
theorem BQ:∀(more ai:List (Key×V)),(oB ai more).length<=ai.length+more.length
 | [],ai=>by show ai.length<=ai.length+0;omega
 |p::r,ai=>by
  have h1:=BQ r (putK ai p.1 p.2)
  have h2:=tW ai p.1 p.2
  show (oB (putK ai p.1 p.2) r).length<=_
  rw[List.length_cons];omega
theorem Cu {P:Program} {w:World}:∀{ai:List (Key×V)} {ws:List (Value×Value)},VV (ai.map λkv=>(kV kv.1,kv.2)) ws->∃rs,Carries (cK P w) ws rs/\KV ai rs
 | [],_,r=>by rw[List.map_nil] at r;cases r;exact⟨[],True.intro,.nil⟩
 |p::ai,_,r=>by
  rw[List.map_cons] at r
  cases r with
  | @cons a b as bs h t =>
   obtain⟨rs,c,q⟩:=Cu (P:=P) (w:=w) t
   obtain⟨b1,b2⟩:=b
   exact⟨(p.1,b2)::rs,⟨oK h.1,rfl,c⟩,.cons ⟨rfl,h.2⟩ q⟩
noncomputable def Qh (kY:List (TE×TE)):TE:=fun σ H Q=>∀p,H p=none->yu kY σ (upd H p (.dK [])) λps H2=>H2 p=some (.dK [])/\∃ai:List (Key×V),ps=ai.map (λkv=>(kV kv.1,kv.2))/\ai.length<=15/\Q (.ref p) (upd H2 p (.dK (oB [] ai)))
theorem ME {X:Cx} {pos:Pos} {keys:List (Option Expr)} {values:List Expr} {kY:List (TE×TE)} (h:wA X pos keys values kY) (m9:keys.all (·.isSome)=true) (hl:keys.length=values.length) (h0:keys≠[])
  (sC:keys.length<=15):PE X (.Dict keys values pos) (Qh kY):=by
 intro pins s σ H Q I q
 have hn:=I.au.fresh (Nat.le_refl s.heap.objs.size)
 have I1:=I.laid (a:=s.heap.objs.size) (o:=.dK []) (h':=s.heap.push { cls:=.type "dict",data:=.dict #[] }) (t':=s.toks) (λ_ _ q=>Heap.get?_push_of_some _ q) (Nat.le_refl _) (Dj s.heap I.big)
 refine wpAny_Dict_walk (knd:=cK X.prog X.w) m9 hl h0 sC (aA (h pins _ σ _ _ I1 (q _ hn)) λws s2 ⟨ps,H2,I2,rel,e,ai,ep,lk,q2⟩=>?_)
 subst ep
 obtain⟨rs,c,rk⟩:=Cu (P:=X.prog) (w:=X.w) rel
 obtain⟨z,hd,Vs,r0,dd⟩:=yV I2.au e
 cases r0
 refine⟨rs,c,dd,λh' nJ hs=>⟨.ref s.heap.objs.size,_,?_,rfl,q2⟩⟩
 have hz:(oB [] ai).length<=sizeLine:=by
  have h1:=BQ ai []
  rw[List.length_nil] at h1
  rw[sizeLine_eq];omega
 have he:∃q,h'.get? s.heap.objs.size=some q:=let ⟨q,_,_,hq,_⟩:=nJ;⟨q,hq⟩
 exact xW I2 (by rw[e];exact True.intro) hs he (ED hz hd (rk.merge .nil) nJ)
structure M1 (X:Cx) (o:Expr) (m:Str) (apos:Pos) (e:Expr) (cU:Pos):Prop where
 base:attributeBase o m X.env (eval o X.env)=eval o X.env
 mi:((backTo cU (starEach [e] X.env)).all (λx=>!x.1)&&(backToKw cU (keywordEach [] X.env)).all (λx=>x.1.isSome)
  && decide (([e]:List Expr).length+([]:List Keyword).length+(if ([]:List Keyword).isEmpty then 0 else 1)<30))=true
 line:(apos.endLine==cU.line)=true
 trees:backTo cU (starEach [e] X.env)=[(false,eval e X.env)]
structure M2 (X:Cx) (o:Expr) (m:Str) (apos:Pos) (e f:Expr) (cU:Pos):Prop where
 base:attributeBase o m X.env (eval o X.env)=eval o X.env
 mi:((backTo cU (starEach [e,f] X.env)).all (λx=>!x.1)&&(backToKw cU (keywordEach [] X.env)).all (λx=>x.1.isSome)
  && decide (([e,f]:List Expr).length+([]:List Keyword).length+(if ([]:List Keyword).isEmpty then 0 else 1)<30))=true
 line:(apos.endLine==cU.line)=true
 trees:backTo cU (starEach [e,f] X.env)=[(false,eval e X.env),(false,eval f X.env)]
section
variable {X:Cx} {pins:List (Addr×Obj)} {σ:St} {H:Hp} {s:Shared} {a:Addr} {y d:V} {u r:Value} {o:Option V} {A:Around} {E:Value->Shared->Prop}
end
section
variable {X:Cx} {o e f:Expr} {apos cU:Pos} {td ty tx:TE}
end
section
variable {X:Cx} {pins:List (Addr×Obj)} {σ:St} {H:Hp} {s:Shared} {a:Addr} {ai:List (Key×V)} {A:Around} {E:Value->Shared->Prop}
end
section
variable {X:Cx} {pins:List (Addr×Obj)} {σ:St} {H:Hp} {s:Shared} {a:Addr} {y:V} {u:Value} {A:Around} {E:Value->Shared->Prop}
end
end L2
namespace L2
open PySem PySem.Spec PyProof.Rows
section
variable {K:Frag} {caps:St} {H:Hp} {tf:TT} {te:TE} {Q:VK}
end
noncomputable def EE (sc:Scope) (on:List (Str×NameKind)) (oN N:List Str) (nt:Nat) (cap:List Nat):Bool :=
 decide (sc.kind=.function)&&sc.names.all (λx=>decide (x.2≠.cell))&&sc.names.all (λx=>decide (x.2=.local->sc.names.lookup x.1=some .local)) &&
 sc.names.all (λx=>decide (x.2=.free->sc.names.lookup x.1=some .free/\(on.lookup x.1=some .cell\/on.lookup x.1=some .free)))&&decide (N.length=nt+cap.length) &&
 (List.range cap.length).all (λk=>match cap[k]? with
  |some j=>match oN[j]? with
   |some x=>decide (N[nt+k]?=some x)&&decide ((x,NameKind.free)∈sc.names)
   |none=>false
  |none=>true)
theorem Fh {X:Cx} {sc:Scope} {N:List Str} {nt:Nat} {cap:List Nat} (h:EE sc X.env.scope.names X.N N nt cap=true):oz X sc N nt cap:=by
 unfold EE at h
 simp only[Bool.and_eq_true,List.all_eq_true,decide_eq_true_eq] at h
 obtain⟨⟨⟨⟨⟨h1,h2⟩,h3⟩,h4⟩,h5⟩,h6⟩:=h
 refine⟨h1,h2,h3,λx hx e=>h4 x hx e,h5,λk j e=>?_⟩
 have hk:k<cap.length:=(List.getElem?_eq_some_iff.mp e).1
 have:=h6 k (List.mem_range.mpr hk)
 rw[e] at this
 dsimp only at this
 cases ex:X.N[j]? with
 |none=>rw[ex] at this;cases this
 |some x =>
  rw[ex] at this
  simp only[Bool.and_eq_true,decide_eq_true_eq] at this
  exact⟨x,rfl,this.1,this.2⟩
end L2
namespace TS
open PySem
abbrev jj (l:List Nat):Prop:=l.Pairwise (· < ·)
theorem K8 (xs:Array Nat) (k d:Nat):xs.getD k d=xs.toList.getD k d:=by
 cases xs with
 |mk l =>
  by_cases h:k<l.length
  ·simp[Array.getD,List.getD,h]
  ·simp[Array.getD,List.getD,h]
theorem uJ {l:List Nat} (h:jj l) {a b:Nat} (GJ:a<b) (hb:b<l.length):l.getD a 0<l.getD b 0:=by
 have:=List.pairwise_iff_getElem.mp h a b (by omega) hb GJ
 simpa [List.getD,List.getElem?_eq_getElem hb,List.getElem?_eq_getElem (show a<l.length by omega)] using this
theorem K9 (l:List Nat) {k:Nat} (hk:k<l.length) (d e:Nat):l.getD k d=l.getD k e:=by
 simp[List.getD,List.getElem?_eq_getElem hk]
theorem xX (xs:Array Nat) (j:Nat) (hr:jj xs.toList):∀(fuel lo hi:Nat),hi-lo<=fuel->lo<=hi->hi<=xs.toList.length->(∀k,k<lo->xs.toList.getD k 0<j)->(∀k,hi<=k->k<xs.toList.length->j<=xs.toList.getD k 0) ->
  SetTable.below.go xs j fuel lo hi<=xs.toList.length/\(∀k,k<SetTable.below.go xs j fuel lo hi->xs.toList.getD k 0<j)/\(∀k,SetTable.below.go xs j fuel lo hi<=k->k<xs.toList.length->j<=xs.toList.getD k 0)
 |0,lo,hi,hf,hl,hh,h1,h2=>by
  have e:lo=hi:=by omega
  subst e
  exact⟨hh,h1,h2⟩
 |fuel+1,lo,hi,hf,hl,hh,h1,h2=>by
  unfold SetTable.below.go
  by_cases aU:lo<hi
  ·rw[if_pos aU]
   dsimp only
   have hm:(lo+hi) / 2<xs.toList.length:=by omega
   rw[K8,K9 _ hm j 0]
   by_cases hc:xs.toList.getD ((lo+hi) / 2) 0<j
   ·rw[if_pos hc]
    refine xX xs j hr fuel _ _ (by omega) (by omega) hh (λk hk=>?_) h2
    by_cases ef:k=(lo+hi) / 2
    ·rw[ef];exact hc
    ·exact Nat.lt_trans (uJ hr (by omega) hm) hc
   ·rw[if_neg hc]
    refine xX xs j hr fuel _ _ (by omega) (by omega) (by omega) h1 (λk hk ef=>?_)
    by_cases mj:k=(lo+hi) / 2
    ·rw[mj];omega
    ·have:=uJ hr (show (lo+hi) / 2<k by omega) ef
     omega
  ·rw[if_neg aU]
   have e:lo=hi:=by omega
   subst e
   exact⟨hh,h1,h2⟩
theorem Cv (xs:Array Nat) (j:Nat) (hr:jj xs.toList):SetTable.below xs j<=xs.toList.length/\(∀k,k<SetTable.below xs j->xs.toList.getD k 0<j)/\(∀k,SetTable.below xs j<=k->k<xs.toList.length->j<=xs.toList.getD k 0):=by
 unfold SetTable.below
 exact xX xs j hr xs.size 0 xs.size (by omega) (Nat.zero_le _) (by simp) (λk hk=>by omega) (λk hk ef=>by simp at ef;omega)
theorem Iv {l:List Nat} {p j:Nat} (h:∀k,k<p->l.getD k 0<j):∀x∈l.take p,x<j:=by
 intro x hx
 obtain⟨k,hk,e⟩:=List.getElem_of_mem hx
 have dD:k<p/\k<l.length:=by rw[List.length_take] at hk;omega
 have:=h k dD.1
 rw[List.getElem_take] at e
 rw[<- e]
 simpa [List.getD,List.getElem?_eq_getElem dD.2] using this
theorem Iw {l:List Nat} {p j:Nat} (h:∀k,p<=k->k<l.length->j<=l.getD k 0):∀x∈l.drop p,j<=x:=by
 intro x hx
 obtain⟨k,hk,e⟩:=List.getElem_of_mem hx
 have dD:p+k<l.length:=by rw[List.length_drop] at hk;omega
 have:=h (p+k) (by omega) dD
 rw[List.getElem_drop] at e
 rw[<- e]
 simpa [List.getD,List.getElem?_eq_getElem dD] using this
theorem La {xs:Array Nat} {j:Nat} (hr:jj xs.toList) (hn:xs[SetTable.below xs j]?≠some j):jj (SetTable.insertAt xs (SetTable.below xs j) j).toList:=by
 obtain⟨h0,h1,h2⟩:=Cv xs j hr
 rw[SetTable.toList_insertAt]
 have a1:=Iv h1
 have a2:∀x∈xs.toList.drop (SetTable.below xs j),j<x:=by
  intro x hx
  have GK:=Iw h2
  have hd:jj (xs.toList.drop (SetTable.below xs j)):=List.Pairwise.sublist (List.drop_sublist _ _) hr
  cases hc:xs.toList.drop (SetTable.below xs j) with
  |nil=>rw[hc] at hx;cases hx
  |cons y r =>
   rw[hc] at hd hx GK
   have hy:j≠y:=by
    intro e
    apply hn
    have:(xs.toList.drop (SetTable.below xs j))[0]?=some y:=by rw[hc];rfl
    rw[List.getElem?_drop] at this
    have e2:xs.toList[SetTable.below xs j]?=some y:=by simpa using this
    rw[<- Array.getElem?_toList,e2,e]
   have GN:j<y:=Nat.lt_of_le_of_ne (GK y List.mem_cons_self) hy
   rcases List.mem_cons.mp hx with e|hx
   ·rw[e];exact GN
   ·exact Nat.lt_trans GN ((List.pairwise_cons.mp hd).1 x hx)
 first
  |(refine List.pairwise_append.mpr ⟨List.Pairwise.sublist (List.take_sublist _ _) hr,List.pairwise_cons.mpr ⟨a2,List.Pairwise.sublist (List.drop_sublist _ _) hr⟩,λx hx y hy=>?_⟩
    rcases List.mem_cons.mp hy with e|hy
    ·rw[e];exact a1 x hx
    ·exact Nat.lt_trans (a1 x hx) (a2 y hy))
  |trace_state
theorem xY (t:SetTable) (h:Int):∀(fuel:Nat) (p:SetTable.Probe) (j:Nat) (dm:Option Nat),(∀d,p.dummy=some d->t.slot d=.dummy)->SetTable.probe.go t (λ_=>h+1) h fuel p=some (.empty j dm)->t.slot j=.empty/\∀d,dm=some d->t.slot d=.dummy
 |0,p,j,dm,hp,e=>by simp[SetTable.probe.go] at e
 |fuel+1,p,j,dm,hp,e=>by
  unfold SetTable.probe.go at e
  cases hs:t.slot p.j with
  |empty =>
   rw[hs] at e
   simp at e
   rw[<- e.1,<- e.2]
   exact⟨hs,hp⟩
  |dummy =>
   rw[hs] at e
   refine xY t h fuel _ j dm (λd hd=>?_) e
   unfold SetTable.advance at hd
   split at hd
   ·simp at hd;rw[<- hd];exact hs
   ·simp at hd;rw[<- hd];exact hs
  |live i =>
   rw[hs] at e
   have bz:(h+1==h)=false:=by simp;omega
   simp only[bz,Bool.false_eq_true,if_false] at e
   refine xY t h fuel _ j dm (λd hd=>?_) e
   unfold SetTable.advance at hd
   split at hd
   ·exact hp d hd
   ·exact hp d hd
theorem CY {t:SetTable} {j:Nat} (h:t.slot j=.empty\/t.slot j=.dummy):t.place[SetTable.below t.place j]?≠some j:=by
 intro e
 have:t.slot j=.live (SetTable.below t.place j):=by
  unfold SetTable.slot
  simp[e]
 rw[this] at h
 rcases h with h|h<;>cases h
theorem JW {t:SetTable} {h:Int} {j:Nat} {b:Bool} (e:t.freeSlot h=some (j,b)):t.place[SetTable.below t.place j]?≠some j:=by
 unfold SetTable.freeSlot SetTable.probe at e
 split at e
 ·rename_i j' dm hg
  have k:=xY t h _ _ j' dm (λd hd=>by simp[SetTable.probeStart] at hd) hg
  simp at e
  rw[<- e.1]
  cases dm with
  |none=>exact CY (.inl k.1)
  |some d=>exact CY (.inr (k.2 d rfl))
 ·cases e
structure gj (led:Bool) (t:SetTable):Prop where
 led:t.led=led
 rise:t.plain=true->jj t.place.toList
theorem tX {led:Bool} {t:SetTable} (h:gj led t) (n:Nat):gj led (t.standIn n):=⟨h.led,λz=>by simp[SetTable.standIn] at z⟩
theorem Jc {led:Bool} {t:SetTable} (h:gj led t) (es:Array (Int×Value)) (hs:Int) (x:Value):gj led (layNew t es hs x).2.1:=by
 unfold layNew
 split
 ·rename_i slot wd e
  dsimp only
  unfold SetTable.orStandIn
  have hp:gj led (t.put slot).1:=⟨h.led,λz=>La (h.rise z) (JW e)⟩
  split
  ·exact hp
  ·exact tX hp _
 ·exact tX h _
theorem Lb {mask finger moves:Nat} {led plain:Bool} {hs:Array Int} {t:SetTable} {o:Array Nat} (e:SetTable.laid mask finger moves led plain hs=some (t,o)):gj led t/\t.plain=plain:=by
 unfold SetTable.laid at e
 cases hl:SetTable.layClean mask hs with
 |none=>rw[hl] at e;simp at e
 |some owner =>
  rw[hl] at e
  simp at e
  obtain⟨e1,e2⟩:=e
  subst e1
  refine⟨⟨rfl,λ_=>?_⟩,rfl⟩
  show jj (List.toArray _).toList
  simp only[List.map_filterMap]
  refine List.pairwise_filterMap.mpr ?_
  refine List.Pairwise.imp (R:=(· < ·)) ?_ (List.pairwise_lt_range)
  intro a b GJ x hx y hy
  cases ha:(owner[a]?.getD none) with
  |none=>rw[ha] at hx;simp at hx
  |some q =>
   cases hb:(owner[b]?.getD none) with
   |none=>rw[hb] at hy;simp at hy
   |some r =>
    rw[ha] at hx;rw[hb] at hy
    simp at hx hy
    omega
theorem JX {led:Bool} {t:SetTable} (h:gj led t) (es:Array (Int×Value)) (n:Nat):gj led (relayAll t es n).2.1:=by
 unfold relayAll
 split
 ·rename_i t' o e
  dsimp only
  split
  ·unfold SetTable.relaid at e
   have k:=Lb e
   exact⟨k.1.led.trans h.led,k.1.rise⟩
  ·exact tX h _
 ·exact tX h _
theorem JY (led:Bool):gj led (.fresh 0 0 led):=⟨rfl,λ_=>List.Pairwise.nil⟩
end TS
namespace TS
open PySem PySem.Spec PyProof.Rows
section
variable {P:Program} {w:World} {A:Around} {E:Value->Shared->Prop} {s:Shared} {led:Bool}
def eR (P:Program) (w:World) (led:Bool) (h:Heap) (a:Addr) (S:Int->Bool) (n:Nat):Prop :=
 ∃o es ep t,h.get? a=some o/\o.ExactSet/\o.data=.set es ep t/\ElemsOf (intKind P w) es.toList/\(∀k,S k=true↔∃e∈es.toList,(intKind P w).is k e.2=true)/\es.size<scanBound/\t.fits es.size=true/\es.size=n/\gj led t
theorem eR.at {h h':Heap} {a:Addr} {S:Int->Bool} {n:Nat} (x:eR P w led h a S n) (k:∀o,h.get? a=some o->h'.get? a=some o):eR P w led h' a S n:=by
 obtain⟨o,es,ep,t,ho,r⟩:=x
 exact⟨o,es,ep,t,k o ho,r⟩
theorem eR.congr {h:Heap} {a:Addr} {S S':Int->Bool} {n n':Nat} (x:eR P w led h a S n) (e:∀k,S k=S' k) (en:n=n'):eR P w led h a S' n':=by
 obtain rfl:S=S':=funext e
 subst en;exact x
theorem xZ {a:Addr} {u:Obj} {es fv:Array (Int×Value)} {ep:Nat} {t t':SetTable} {h:Heap} (hu:h.get? a=some u) (hx:u.ExactSet) (hd:u.data=.set es ep t) {S:Int->Bool}
  (c1:ElemsOf (intKind P w) fv.toList) (c2:∀k,S k=true↔∃e∈fv.toList,(intKind P w).is k e.2=true) (c3:fv.size<scanBound) (c4:t'.fits fv.size=true) (c5:gj led t') :
  (h.update a (Obj.putSet fv t')).get? a=some { u with data:=.set fv (ep+1) t' }/\eR P w led (h.update a (Obj.putSet fv t')) a S fv.size:=by
 have g:=(SetOf_store (knd:=intKind P w) hu hx hd c1 c2 c3 c4).1
 exact⟨g,_,fv,ep+1,t',g,hx,rfl,c1,c2,c3,c4,rfl,c5⟩
theorem MF {a:Addr} {S:Int->Bool} {n:Nat} {k:Int} {tk:Tok} {Q:Bool->Shared->Prop} (hS:eR P w led s.heap a S n) (Qi:n+1<scanBound)
  (h:∀h',Heap.SameBut a s.heap h'->eR P w led h' a (λj=>S j||decide (j=k)) (if S k then n else n+1)->Q (!S k) { s with heap:=h' }) :
  wpAny (model P w) A (setAddHashed a (.int k tk) ((intKind P w).hash k)) Q E s:=by
 obtain⟨u,es,ep,t,hu,hx,hd,c1,c2,c3,c4,hn,c5⟩:=hS
 have ky:(intKind P w).is k (.int k tk)=true:=intKind_is _ _ _ _
 have sc:(Value.int k tk).scannable=true:=rfl
 have Vt:es.size+1<scanBound:=by rw[hn];exact Qi
 unfold setAddHashed setAddHashedIn
 refine wpAny_holding ?_
 refine wpAny_bind (wpAny_setState_of hu hd c4 ?_)
 dsimp only
 rw[byScan_of sc c3 c1,if_pos rfl]
 unfold setAddByScan
 refine wpAny_bind (wpAny_bind (wpAny_rule ?_))
 refine wpAny_bind (wpAny_setScan_of ky hu hd c4 c1 ?_)
 cases GO:es.toList.findIdx? (λe=>(intKind P w).is k e.2) with
 |some j =>
  dsimp only
  obtain⟨hj,pj,_⟩:=List.findIdx?_eq_some_iff_getElem.mp GO
  have Sk:S k=true:=(c2 k).mpr ⟨es.toList[j],List.getElem_mem hj,pj⟩
  have q:=h s.heap (Heap.SameBut.refl a s.heap) ⟨u,es,ep,t,hu,hx,hd,c1,λj'=>by
   rw[Bool.or_eq_true,decide_eq_true_eq,<- c2 j']
   exact⟨λz=>z.elim id λe=>by rw[e];exact Sk,Or.inl⟩,c3,c4,by rw[Sk];exact hn,c5⟩
  rw[Sk] at q
  exact wpAny_pure (wpAny_pure q)
 |none =>
  dsimp only
  have Sk:S k=false:=by
   rw[<- Bool.not_eq_true,c2 k]
   rintro ⟨e,he,pe⟩
   have z:=List.findIdx?_eq_none_iff.mp GO e he
   rw[pe] at z;cases z
  have way:∀(b:Bool) {s1:Shared} {Q1:Unit->Shared->Prop},Q1 () s1->wpAny (model P w) A (match b with|true=>rule "set.scan.the-table-gave-way"|false=>pure ()) Q1 E s1 :=
   λb s1 Q1 q=>by cases b<;>first|exact wpAny_pure q|exact wpAny_rule q
  have pm:=layNew_perm t es ((intKind P w).hash k) (.int k tk)
  have ft:=layNew_fits t es ((intKind P w).hash k) (.int k tk)
  have tb:=Jc c5 es ((intKind P w).hash k) (.int k tk)
  generalize layNew t es ((intKind P w).hash k) (.int k tk)=L at pm ft tb |-
  obtain⟨ei,t1,U7,Vd⟩:=L
  dsimp only at pm ft tb |-
  rw[Array.toList_push] at pm
  have d1:ElemsOf (intKind P w) ei.toList:=(c1.push ky sc).perm pm
  have d2:∀j,(S j||decide (j=k))=true↔∃e∈ei.toList,(intKind P w).is j e.2=true:=mem_push_iff ky c2 pm
  have z1:ei.size=n+1:=by
   have l:=pm.length_eq
   rw[List.length_append,Array.length_toList,Array.length_toList,hn] at l
   exact l
  have d3:ei.size<scanBound:=by omega
  refine wpAny_bind (way _ ?_)
  obtain⟨g1,T1⟩:=xZ (S:=λj=>S j||decide (j=k)) hu hx hd d1 d2 d3 ft tb
  have wB:=Heap.SameBut.update s.heap a (Obj.putSet ei t1)
  have fin:∀h',Heap.SameBut a s.heap h'->eR P w led h' a (λj=>S j||decide (j=k)) ei.size->Q true { s with heap:=h' }:=λh' sb T=>by
   have q:=h h' sb
   rw[Sk] at q
   rw[z1] at T
   exact q T
  have iQ:=relayAll_perm t1 ei (SetTable.grown ei.size)
  have kZ:=relayAll_fits t1 ei (SetTable.grown ei.size)
  have pK:=JX tb ei (SetTable.grown ei.size)
  have hv:hashByValue 8 (Value.int k tk)=pure true:=rfl
  split
  ·refine wpAny_bind ?_
   rw[hv]
   refine wpAny_pure ?_
   simp only[if_true]
   refine wpAny_bind (wpAny_storeSet_of hu hd ?_ (fits_of_scanBound d3))
   split
   ·generalize relayAll t1 ei (SetTable.grown ei.size)=L2 at iQ kZ pK |-
    obtain⟨sD,t2,Qj⟩:=L2
    dsimp only at iQ kZ pK |-
    have z2:sD.size=ei.size:=by
     have l:=iQ.length_eq
     rwa [Array.length_toList,Array.length_toList] at l
    have f2:∀j,(S j||decide (j=k))=true↔∃e∈sD.toList,(intKind P w).is j e.2=true:=λj=>(d2 j).trans ⟨λ⟨e,he,q⟩=>⟨e,iQ.mem_iff.mpr he,q⟩,λ⟨e,he,q⟩=>⟨e,iQ.mem_iff.mp he,q⟩⟩
    refine wpAny_bind (way _ ?_)
    refine wpAny_bind (wpAny_storeSet_of g1 rfl ?_ (fits_of_scanBound (by rw[z2];exact d3)))
    obtain⟨g2,T2⟩:=xZ (S:=λj=>S j||decide (j=k)) (led:=led) g1 hx rfl (d1.perm iQ) f2 (by rw[z2];exact d3) kZ pK
    rw[z2] at T2
    exact wpAny_pure (wpAny_pure (fin _ (wB.trans (Heap.SameBut.update _ a _)) T2))
   ·exact wpAny_pure (wpAny_pure (fin _ wB T1))
  ·refine wpAny_bind (wpAny_pure ?_)
   simp only[if_true]
   refine wpAny_bind (wpAny_storeSet_of hu hd ?_ (fits_of_scanBound d3))
   split
   ·generalize relayAll t1 ei (SetTable.grown ei.size)=L2 at iQ kZ pK |-
    obtain⟨sD,t2,Qj⟩:=L2
    dsimp only at iQ kZ pK |-
    have z2:sD.size=ei.size:=by
     have l:=iQ.length_eq
     rwa [Array.length_toList,Array.length_toList] at l
    have f2:∀j,(S j||decide (j=k))=true↔∃e∈sD.toList,(intKind P w).is j e.2=true:=λj=>(d2 j).trans ⟨λ⟨e,he,q⟩=>⟨e,iQ.mem_iff.mpr he,q⟩,λ⟨e,he,q⟩=>⟨e,iQ.mem_iff.mp he,q⟩⟩
    refine wpAny_bind (way _ ?_)
    refine wpAny_bind (wpAny_storeSet_of g1 rfl ?_ (fits_of_scanBound (by rw[z2];exact d3)))
    obtain⟨g2,T2⟩:=xZ (S:=λj=>S j||decide (j=k)) (led:=led) g1 hx rfl (d1.perm iQ) f2 (by rw[z2];exact d3) kZ pK
    rw[z2] at T2
    exact wpAny_pure (wpAny_pure (fin _ (wB.trans (Heap.SameBut.update _ a _)) T2))
   ·exact wpAny_pure (wpAny_pure (fin _ wB T1))
end
end TS
namespace TS
open PySem PySem.Spec PyProof.Rows
theorem HJ:entryFor table "set.__iter__"=some Builtin.«frozenset.__iter__»:=entryFor_alias (id':="frozenset.__iter__") (by kernel_rfl) rfl (by decide +kernel) (by kernel_rfl)
theorem iS:Slot "set_iterator" "__next__" "set_iterator.__next__" :=
 .of (owner:="set_iterator") (n:="__next__") (by rw[typeLookup_type,builtinLookup_eq_fast];kernel_rfl) (by decide +kernel) (by decide +kernel) (by decide +kernel)
  (by first|exact .inl (by decide +kernel)|exact .inr (by decide +kernel)) (by rw[isSubtype_type];kernel_rfl)
theorem tK:entryFor table "set_iterator.__next__"=some Builtin.«set_iterator.__next__»:=entryFor_of_tree (by kernel_rfl)
theorem tN (a:Value):argsOk "set_iterator.__next__" ⟨[a],[]⟩:=by unfold argsOk;kernel_rfl
theorem B1:Slot "set_iterator" "__iter__" "set_iterator.__iter__" :=
 .of (owner:="set_iterator") (n:="__iter__") (by rw[typeLookup_type,builtinLookup_eq_fast];kernel_rfl) (by decide +kernel) (by decide +kernel) (by decide +kernel)
  (by first|exact .inl (by decide +kernel)|exact .inr (by decide +kernel)) (by rw[isSubtype_type];kernel_rfl)
def gY (h:Heap) (I a:Addr) (first:Value) (i n ep:Nat):Prop:=∃o,h.get? I=some o/\o.cls=.type "set_iterator"/\o.data=.fields #[first,.int i 0,.ref a,.int n 0,.int ep 0]
section
variable {P:Program} {w:World} {A:Around} {E:Value->Shared->Prop} {s:Shared}
theorem DZ {I a:Addr} {slot i n ep nx:Nat} {u:Obj} {es:Array (Int×Value)} {t:SetTable} {x:Value} {Q:Option Value->Shared->Prop} (hit:gY s.heap I a (.int slot 0) i n ep)
  (hu:s.heap.get? a=some u) (hd:u.data=.set es ep t) (hf:t.fits es.size=true) (hn:es.size=n)
  (hs:∀(A':Around) (Q':Option (Value×Nat)->Shared->Prop) (E':Value->Shared->Prop),Q' (some (x,nx)) s->wpAny (model P w) A' (setNext a slot i ep) Q' E' s)
  (hQ:∀h',gY h' I a (.int nx 0) (i+1) n ep->Heap.SameBut I s.heap h'->Q (some x) { s with heap:=h' }):wpAny (model P w) A (pyNext (.ref I)) Q E s:=by
 obtain⟨o,ho,hc,df⟩:=id hit
 have hT:s.TypeIs (.ref I) "set_iterator":=⟨o,ho,hc⟩
 unfold pyNext
 refine wpAny_bind (wpAny_attempt (wpAny_callSpecial?_slot (name:=Str.ofString "__next__") hT iS
  (wpAny_call_entry iS hT tK ?_ (tN _))))
 unfold Builtin.«set_iterator.__next__» slotArgs
 simp only[List.isEmpty_nil,Bool.not_true,Bool.false_eq_true,↓reduceIte,bind_assoc,List.length_nil,bne_self_eq_false]
 refine wpAny_bind (wpAny_pure ?_)
 refine wpAny_bind (wpAny_fieldsOf ho df ?_)
 dsimp only
 refine wpAny_bind (wpAny_setEntries_of hu hd hf ?_)
 rw[hn]
 simp only[bne_self_eq_false,Bool.false_eq_true,↓reduceIte,Int.toNat_natCast]
 refine wpAny_bind (hs _ _ _ ?_)
 dsimp only
 refine wpAny_bind (wpAny_setField ho df (by simp) ?_)
 refine wpAny_bind (wpAny_setField (Heap.get?_update_self _ ho (Obj.isFreed_of_fields (Obj.data_mapFields df _))) (Obj.data_mapFields df _) (by simp) ?_)
 refine wpAny_pure ⟨x,rfl,wpAny_pure (hQ _ ⟨_,Heap.get?_update_self _ (Heap.get?_update_self _ ho (Obj.isFreed_of_fields (Obj.data_mapFields df _))) (Obj.isFreed_of_fields (Obj.data_mapFields (Obj.data_mapFields df _) _)),(Obj.cls_mapFields ..).trans ((Obj.cls_mapFields ..).trans hc),?_⟩ ((Heap.SameBut.update ..).trans (Heap.SameBut.update ..)))⟩
 rw[Obj.data_mapFields (Obj.data_mapFields df _)]
 simp[rawInt]
theorem Jd {src:Source} {m:Nat} {Q:Nat->Shared->Prop} (hm:m≠0) (h:Q (w.draws src (s.drawn.get src) % m) { s with drawn:=s.drawn.bump src }):wpAny (model P w) A (choose src m) Q E s:=fun Γ p Vu=>by
 unfold choose
 rw[Sem.wp_choose]
 exact⟨hm,h⟩
theorem CZ {I:Addr} {o:Obj} {vs:Array Value} {Q:Option Value->Shared->Prop} (hh:A.handled=none) (ho:s.heap.get? I=some o) (df:o.data=.fields vs) (h2:2<vs.size)
  (hQ:∀h',Heap.ExtBut I s.heap h'->Q none { s with heap:=h' }) :
  wpAny (model P w) A.in1 (setField (.ref I) 2 .none >>= λ_=>newExc (.type "StopIteration") [] >>= λe=>(raiseNew e:Sem Fin)) (λfin s'=>∃v,fin=Fin.done (Flow.ret v)/\wpAny (model P w) A (pure (some v)) Q E s')
   (λe s'=>wpAny (model P w) A (isInstance e (Value.type "StopIteration") >>= λb=>if b=true then pure none else throw e) Q E s') s:=by
 refine wpAny_bind (wpAny_setField ho df h2 ?_)
 refine wpAny_bind ?_
 simp only[newExc,newTuple]
 refine wpAny_bind (wpAny_newObj_type ?_ (by size_fits))
 refine wpAny_bind (m:=firstArgMember _ _) (wpAny_of_eq (a:=Value.none) (by first|rfl | (simp only[firstArgMember];rfl)) ?_)
 refine wpAny_newObj_type ?_ (by size_fits)
 simp only[raiseNew]
 refine wpAny_bind (wpAny_handled ?_)
 first|rw[show A.in1.handled=none from hh]|rw[hh]
 refine wpAny_bind (wpAny_pure (wpAny_throw ?_))
 refine wpAny_bind (wpAny_isInstance (T:="StopIteration") (b:=true) ⟨_,Heap.get?_push_size _ rfl,rfl⟩ isSubtype_stop ?_)
 exact wpAny_pure (hQ _ (((Heap.SameBut.update ..).extBut.push _).push _))
theorem EF {I a:Addr} {slot i n ep:Nat} {u:Obj} {es:Array (Int×Value)} {t:SetTable} {Q:Option Value->Shared->Prop} (hh:A.handled=none) (hit:gY s.heap I a (.int slot 0) i n ep)
  (hu:s.heap.get? a=some u) (hd:u.data=.set es ep t) (hf:t.fits es.size=true) (hn:es.size=n)
  (hs:∀(A':Around) (Q':Option (Value×Nat)->Shared->Prop) (E':Value->Shared->Prop),Q' none s->wpAny (model P w) A' (setNext a slot i ep) Q' E' s)
  (hQ:∀h',Heap.ExtBut I s.heap h'->Q none { s with heap:=h' }):wpAny (model P w) A (pyNext (.ref I)) Q E s:=by
 obtain⟨o,ho,hc,df⟩:=id hit
 have hT:s.TypeIs (.ref I) "set_iterator":=⟨o,ho,hc⟩
 unfold pyNext
 refine wpAny_bind (wpAny_attempt (wpAny_callSpecial?_slot (name:=Str.ofString "__next__") hT iS
  (wpAny_call_entry iS hT tK ?_ (tN _))))
 unfold Builtin.«set_iterator.__next__» slotArgs
 simp only[List.isEmpty_nil,Bool.not_true,Bool.false_eq_true,↓reduceIte,bind_assoc,List.length_nil,bne_self_eq_false]
 refine wpAny_bind (wpAny_pure ?_)
 refine wpAny_bind (wpAny_fieldsOf ho df ?_)
 dsimp only
 refine wpAny_bind (wpAny_setEntries_of hu hd hf ?_)
 rw[hn]
 simp only[bne_self_eq_false,Bool.false_eq_true,↓reduceIte,Int.toNat_natCast]
 refine wpAny_bind (hs _ _ _ ?_)
 dsimp only
 exact CZ hh ho df (by simp) hQ
theorem Lc {I a tp:Addr} {i n ep pl:Nat} {u:Obj} {es:Array (Int×Value)} {t:SetTable} {x:Int×Value} {places:Array Value} {tk:Tok} {Q:Option Value->Shared->Prop} (hit:gY s.heap I a (.ref tp) i n ep)
  (hu:s.heap.get? a=some u) (hd:u.data=.set es ep t) (hf:t.fits es.size=true) (hn:es.size=n) (Au:s.heap.IsTuple tp places) (bX:places[i]?=some (.int pl tk)) (hx:es[pl]?=some x)
  (hQ:∀h',gY h' I a (.ref tp) (i+1) n ep->Heap.SameBut I s.heap h'->Q (some x.2) { s with heap:=h' }):wpAny (model P w) A (pyNext (.ref I)) Q E s:=by
 obtain⟨o,ho,hc,df⟩:=id hit
 obtain⟨op,Av,SO,np,sy⟩:=Au
 have hT:s.TypeIs (.ref I) "set_iterator":=⟨o,ho,hc⟩
 unfold pyNext
 refine wpAny_bind (wpAny_attempt (wpAny_callSpecial?_slot (name:=Str.ofString "__next__") hT iS
  (wpAny_call_entry iS hT tK ?_ (tN _))))
 unfold Builtin.«set_iterator.__next__» slotArgs
 simp only[List.isEmpty_nil,Bool.not_true,Bool.false_eq_true,↓reduceIte,bind_assoc,List.length_nil,bne_self_eq_false]
 refine wpAny_bind (wpAny_pure ?_)
 refine wpAny_bind (wpAny_fieldsOf ho df ?_)
 dsimp only
 refine wpAny_bind (wpAny_setEntries_of hu hd hf ?_)
 rw[hn]
 simp only[bne_self_eq_false,Bool.false_eq_true,↓reduceIte,Int.toNat_natCast]
 refine wpAny_bind (wpAny_seqItems Av sy ?_)
 dsimp only
 rw[bX]
 dsimp only
 unfold setNextDrawn
 refine wpAny_bind (wpAny_bind (wpAny_setState_of hu hd hf ?_))
 dsimp only
 simp only[bne_self_eq_false,Bool.false_eq_true,↓reduceIte,Int.toNat_natCast]
 rw[hx]
 dsimp only
 refine wpAny_pure ?_
 refine wpAny_bind (wpAny_setField ho df (by simp) ?_)
 refine wpAny_pure ⟨x.2,rfl,wpAny_pure (hQ _ ⟨_,Heap.get?_update_self _ ho (Obj.isFreed_of_fields (Obj.data_mapFields df _)),(Obj.cls_mapFields ..).trans hc,?_⟩ (Heap.SameBut.update ..))⟩
 rw[Obj.data_mapFields df]
 simp[rawInt]
theorem MG {I a tp:Addr} {i n ep:Nat} {u:Obj} {es:Array (Int×Value)} {t:SetTable} {places:Array Value} {Q:Option Value->Shared->Prop} (hh:A.handled=none) (hit:gY s.heap I a (.ref tp) i n ep)
  (hu:s.heap.get? a=some u) (hd:u.data=.set es ep t) (hf:t.fits es.size=true) (hn:es.size=n) (Au:s.heap.IsTuple tp places) (bX:places[i]?=none)
  (hQ:∀h',Heap.ExtBut I s.heap h'->Q none { s with heap:=h' }):wpAny (model P w) A (pyNext (.ref I)) Q E s:=by
 obtain⟨o,ho,hc,df⟩:=id hit
 obtain⟨op,Av,SO,np,sy⟩:=Au
 have hT:s.TypeIs (.ref I) "set_iterator":=⟨o,ho,hc⟩
 unfold pyNext
 refine wpAny_bind (wpAny_attempt (wpAny_callSpecial?_slot (name:=Str.ofString "__next__") hT iS
  (wpAny_call_entry iS hT tK ?_ (tN _))))
 unfold Builtin.«set_iterator.__next__» slotArgs
 simp only[List.isEmpty_nil,Bool.not_true,Bool.false_eq_true,↓reduceIte,bind_assoc,List.length_nil,bne_self_eq_false]
 refine wpAny_bind (wpAny_pure ?_)
 refine wpAny_bind (wpAny_fieldsOf ho df ?_)
 dsimp only
 refine wpAny_bind (wpAny_setEntries_of hu hd hf ?_)
 rw[hn]
 simp only[bne_self_eq_false,Bool.false_eq_true,↓reduceIte,Int.toNat_natCast]
 refine wpAny_bind (wpAny_seqItems Av sy ?_)
 dsimp only
 rw[bX]
 dsimp only
 refine wpAny_bind (wpAny_setField ho df (by simp) ?_)
 exact CZ (s:={ s with heap:=_ }) hh (Heap.get?_update_self _ ho (Obj.isFreed_of_fields (Obj.data_mapFields df _))) (Obj.data_mapFields df _) (by simp) λh' e=>hQ h' (Heap.ExtBut.trans (Heap.SameBut.update ..).extBut e)
end
end TS
namespace TS
open PySem PySem.Spec PyProof.Rows
theorem HQ:entryFor table "set_iterator.__iter__"=some Builtin.«dict_keyiterator.__iter__»:=entryFor_alias (id':="dict_keyiterator.__iter__") (by kernel_rfl) rfl (by decide +kernel) (by kernel_rfl)
theorem Ia (a:Value):argsOk "set_iterator.__iter__" ⟨[a],[]⟩:=by unfold argsOk;kernel_rfl
section
variable {P:Program} {w:World} {A:Around} {E:Value->Shared->Prop} {s:Shared}
theorem x8 {I a:Addr} {f:Value} {i n ep:Nat} {Q:Value->Shared->Prop} (hit:gY s.heap I a f i n ep) (h:Q (.ref I) s):wpAny (model P w) A (pyIter (.ref I)) Q E s:=by
 obtain⟨o,ho,hc,df⟩:=id hit
 have hT:s.TypeIs (.ref I) "set_iterator":=⟨o,ho,hc⟩
 refine wpAny_pyIter_slot hT B1 (wpAny_call_entry B1 hT HQ ?_ (Ia _))
 show wpAny _ _ (ret (.ref I)) _ _ s
 exact wpAny_pure ⟨_,rfl,"set_iterator",_,hT,iS.lookup,h⟩
theorem gY.at {h h':Heap} {I a:Addr} {f:Value} {i n ep:Nat} (x:gY h I a f i n ep) (k:∀o,h.get? I=some o->h'.get? I=some o):gY h' I a f i n ep:=by
 obtain⟨o,ho,r⟩:=x
 exact⟨o,k o ho,r⟩
theorem C0 {a:Addr} {slot i ep:Nat} {u:Obj} {es:Array (Int×Value)} {t:SetTable} (fX:w.params.followText "set-order"=true) (hu:s.heap.get? a=some u) (hd:u.data=.set es ep t) (hf:t.fits es.size=true)
  {Q':Option (Value×Nat)->Shared->Prop} (h:Q' (((pickOrder (w.params.setOrder a ep) es)[i]?).map λe=>(e.2,slot)) s):wpAny (model P w) A (setNext a slot i ep) Q' E s:=by
 unfold setNext
 refine wpAny_bind (wpAny_setState_of hu hd hf ?_)
 dsimp only
 unfold setsByText
 refine wpAny_bind (wpAny_bind (wpAny_askSetting (wpAny_pure ?_)))
 show wpAny _ _ (if w.params.followText "set-order"=true then _ else _) _ _ _
 rw[if_pos fX]
 simp only[bne_self_eq_false,Bool.false_eq_true,↓reduceIte]
 unfold setWalk
 refine wpAny_bind (wpAny_bind (wpAny_setState_of hu hd hf ?_))
 dsimp only
 unfold setsByText
 refine wpAny_bind (wpAny_bind (wpAny_askSetting (wpAny_pure ?_)))
 show wpAny _ _ (if w.params.followText "set-order"=true then _ else _) _ _ _
 rw[if_pos fX]
 refine wpAny_bind (wpAny_askSetting (wpAny_pure ?_))
 exact wpAny_pure h
theorem qi {xs:Array Nat} {slot i:Nat} (hr:jj xs.toList) (hi:i<=xs.toList.length) (h1:∀k,k<i->xs.toList.getD k 0<slot) (h2:∀k,i<=k->k<xs.toList.length->slot<=xs.toList.getD k 0):SetTable.below xs slot=i:=by
 obtain⟨a0,a1,a2⟩:=Cv xs slot hr
 by_cases aU:SetTable.below xs slot<i
 ·have b1:=a2 _ (Nat.le_refl _) (by omega)
  have b2:=h1 _ aU
  omega
 ·by_cases SQ:i<SetTable.below xs slot
  ·have b1:=a1 i SQ
   have b2:=h2 i (Nat.le_refl _) (by omega)
   omega
  ·omega
theorem Cw {a:Addr} {slot i ep:Nat} {u:Obj} {es:Array (Int×Value)} {t:SetTable} (fX:w.params.followText "set-order"=false) (hu:s.heap.get? a=some u) (hd:u.data=.set es ep t) (hf:t.fits es.size=true)
  (hl:t.led=true) (hp:t.plain=true\/es.size<=1) (hb:SetTable.below t.place slot=i)
  {Q':Option (Value×Nat)->Shared->Prop} (h:Q' (match es[i]?,t.place[i]? with|some (_,x),some j=>some (x,j+1) | _,_=>none) s):wpAny (model P w) A (setNext a slot i ep) Q' E s:=by
 unfold setNext
 refine wpAny_bind (wpAny_setState_of hu hd hf ?_)
 dsimp only
 unfold setsByText
 refine wpAny_bind (wpAny_bind (wpAny_askSetting (wpAny_pure ?_)))
 show wpAny _ _ (if w.params.followText "set-order"=true then _ else _) _ _ _
 rw[if_neg (by rw[fX];decide)]
 split
 ·rename_i SR
  have zI:(!t.plain&&decide (es.size > 1))=true:=SR
  rcases hp with hp|hp
  ·rw[hp] at zI;cases zI
  ·simp at zI;omega
 ·refine wpAny_bind ?_
  show wpAny _ _ (if (!t.led&&!es.isEmpty)=true then _ else _) _ _ _
  rw[hl]
  simp only[Bool.not_true,Bool.false_and,Bool.false_eq_true,↓reduceIte]
  refine wpAny_pure ?_
  rw[hb]
  exact wpAny_pure h
theorem xf {I:Addr} {h':Heap} (sb:Heap.SameBut I s.heap h'):Moved [I] (λa b=>b=a) s { s with heap:=h' }:=⟨λb o hb e=>by rw[sb.2 b (λz=>hb (by simp[z]))];exact e,rfl,rfl,rfl,Nat.le_refl _⟩
theorem xm {I:Addr} {h':Heap} (sb:Heap.ExtBut I s.heap h'):Moved [I] (λa b=>b=a) s { s with heap:=h' }:=⟨λb o hb e=>sb b o (λz=>hb (by simp[z])) e,rfl,rfl,rfl,Nat.le_refl _⟩
end
theorem Je {P:Program} {w:World} {A:Around} (hh:A.handled=none) {I a:Addr} (bz:a≠I) {u:Obj} {es:Array (Int×Value)} {ep:Nat} {t:SetTable} (fX:w.params.followText "set-order"=true) (hd:u.data=.set es ep t) (hf:t.fits es.size=true) (hsz:(pickOrder (w.params.setOrder a ep) es).size=es.size) :
  WalksS P w A I [I,a] [I] (λa b=>b=a) es.size (λi v=>((pickOrder (w.params.setOrder a ep) es).map (·.2))[i]?=some v) (λi s=>gY s.heap I a (.int 0 0) i es.size ep/\s.heap.get? a=some u) where
 sub:=λb hb=>by simp at hb;simp[hb]
 grefl:=λ_=>rfl
 gtrans:=λ_ _ _ h1 h2=>h2.trans h1
 frame:=λi s h' tk st _ hk=>⟨st.1.at λo e=>hk I (by simp) o e,hk a (by simp) _ st.2⟩
 item:=λi s Q E hi st hQ=>by
  have hx:i<(pickOrder (w.params.setOrder a ep) es).size:=by rw[hsz];exact hi
  have ex:(pickOrder (w.params.setOrder a ep) es)[i]?=some (pickOrder (w.params.setOrder a ep) es)[i]:=by simp[hx]
  refine DZ (nx:=0) (x:=(pickOrder (w.params.setOrder a ep) es)[i].2) (slot:=0) st.1 st.2 hd hf rfl (λA' Q' E' q=>C0 fX st.2 hd hf (by rw[ex];exact q)) λh' it sb=>?_
  exact hQ _ _ (by simp[ex]) ⟨it,by rw[sb.2 a bz];exact st.2⟩ (xf sb)
 done:=λs Q E st hQ=>by
  refine EF (slot:=0) hh st.1 st.2 hd hf rfl (λA' Q' E' q=>C0 fX st.2 hd hf (by
   rw[show (pickOrder (w.params.setOrder a ep) es)[es.size]?=none by simp[hsz]];exact q)) λh' sb=>hQ _ (xm sb)
 self:=λi s Q E st hQ=>x8 st.1 hQ
theorem Iy {P:Program} {w:World} {A:Around} (hh:A.handled=none) {I a:Addr} (bz:a≠I) {u:Obj} {es:Array (Int×Value)} {ep:Nat} {t:SetTable} (fX:w.params.followText "set-order"=false) (hd:u.data=.set es ep t) (hf:t.fits es.size=true) (hl:t.led=true) (hp:t.plain=true\/es.size<=1) (hr:jj t.place.toList) :
  WalksS P w A I [I,a] [I] (λa b=>b=a) es.size (λi v=>(es.map (·.2))[i]?=some v) (λi s=>∃slot:Nat,gY s.heap I a (.int slot 0) i es.size ep/\s.heap.get? a=some u/\i<=es.size/\(∀k,k<i->t.place.toList.getD k 0<slot)/\∀k,i<=k->k<t.place.toList.length->slot<=t.place.toList.getD k 0) where
 sub:=λb hb=>by simp at hb;simp[hb]
 grefl:=λ_=>rfl
 gtrans:=λ_ _ _ h1 h2=>h2.trans h1
 frame:=λi s h' tk st _ hk=>by
  obtain⟨slot,x1,x2,x3⟩:=st
  exact⟨slot,x1.at λo e=>hk I (by simp) o e,hk a (by simp) _ x2,x3⟩
 item:=λi s Q E hi st hQ=>by
  obtain⟨slot,x1,x2,x3,x4,x5⟩:=st
  have bX:t.place.toList.length=es.size:=by
   simp only[SetTable.fits,Bool.and_eq_true,beq_iff_eq,decide_eq_true_eq] at hf
   simpa using hf.1
  have pL:i<t.place.toList.length:=by omega
  have e1:es[i]?=some es[i]:=by simp[hi]
  have e2:t.place[i]?=some (t.place.toList.getD i 0):=by
   rw[<- Array.getElem?_toList,List.getElem?_eq_getElem pL]
   simp[List.getD,List.getElem?_eq_getElem pL]
  refine DZ (nx:=t.place.toList.getD i 0+1) (x:=es[i].2) (slot:=slot) x1 x2 hd hf rfl (λA' Q' E' q=>Cw fX x2 hd hf hl hp (qi hr (by omega) x4 x5) (by rw[e1,e2];exact q)) λh' it sb=>?_
  refine hQ _ _ (by simp[e1]) ⟨_,it,by rw[sb.2 a bz];exact x2,hi,λk hk=>?_,λk hk ef=>?_⟩ (xf sb)
  ·by_cases pM:k=i
   ·rw[pM];omega
   ·have:=uJ hr (show k<i by omega) pL
    omega
  ·have:=uJ hr (show i<k by omega) ef
   omega
 done:=λs Q E st hQ=>by
  obtain⟨slot,x1,x2,x3,x4,x5⟩:=st
  have bX:t.place.toList.length=es.size:=by
   simp only[SetTable.fits,Bool.and_eq_true,beq_iff_eq,decide_eq_true_eq] at hf
   simpa using hf.1
  refine EF (slot:=slot) hh x1 x2 hd hf rfl (λA' Q' E' q=>Cw fX x2 hd hf hl hp (qi hr (by omega) x4 x5) (by
   rw[show es[es.size]?=none by simp];exact q)) λh' sb=>hQ _ (xm sb)
 self:=λi s Q E st hQ=>by
  obtain⟨slot,x1,_⟩:=st
  exact x8 x1 hQ
theorem Iz {P:Program} {w:World} {A:Around} (hh:A.handled=none) {I a tp:Addr} (bz:a≠I) (SU:tp≠I) {u:Obj} {es:Array (Int×Value)} {ep:Nat} {t:SetTable} (hd:u.data=.set es ep t) (hf:t.fits es.size=true) (pl:List Nat) (bX:pl.length=es.size) (Aw:∀x∈pl,x<es.size) :
  WalksS P w A I [I,a,tp] [I] (λa b=>b=a) es.size (λi v=>(pl.map λk=>(es.getD k (0,Value.none)).2)[i]?=some v) (λi s=>gY s.heap I a (.ref tp) i es.size ep/\s.heap.get? a=some u/\s.heap.IsTuple tp (pl.map λ(k:Nat)=>rawInt k).toArray) where
 sub:=λb hb=>by simp at hb;simp[hb]
 grefl:=λ_=>rfl
 gtrans:=λ_ _ _ h1 h2=>h2.trans h1
 frame:=λi s h' tk st _ hk=>⟨st.1.at λo e=>hk I (by simp) o e,hk a (by simp) _ st.2.1,let ⟨o,ho,r⟩:=st.2.2;⟨o,hk tp (by simp) o ho,r⟩⟩
 item:=λi s Q E hi st hQ=>by
  have pL:i<pl.length:=by omega
  have e1:pl[i]?=some pl[i]:=List.getElem?_eq_getElem pL
  have hk:=Aw _ (List.getElem_mem pL)
  refine Lc (pl:=pl[i]) (x:=es.getD pl[i] (0,Value.none)) (tk:=0) st.1 st.2.1 hd hf rfl st.2.2 (by simp[e1,rawInt]) (by simp[hk,Array.getD]) λh' it sb=>?_
  refine hQ _ _ (by simp[e1]) ⟨it,by rw[sb.2 a bz];exact st.2.1,let ⟨o,ho,r⟩:=st.2.2;⟨o,by rw[sb.2 tp SU];exact ho,r⟩⟩ (xf sb)
 done:=λs Q E st hQ=>MG hh st.1 st.2.1 hd hf rfl st.2.2 (by simp[bX]) λh' sb=>hQ _ (xm sb)
 self:=λi s Q E st hQ=>x8 st.1 hQ
end TS
namespace TS
open PySem PySem.Spec PyProof.Rows
noncomputable def dB (w:World):Bool:=!(w.params.followText "set-order")
section
variable {P:Program} {w:World} {A:Around} {E:Value->Shared->Prop} {s:Shared}
theorem Ld (a:Value) {Q₁:Value->Shared->Prop}
  (hq:Q₁ (.ref s.heap.objs.size) { s with heap:=s.heap.push { cls:=.type "set",dict:=none,data:=.set #[] 0 (.fresh 0 0 (dB w)) } }) :
  codeAny (model P w) A (.call (.builtin "set.__new__") ⟨[.type "set",a],[]⟩) (wants Q₁ E) s:=by
 refine codeAny_of_tree ?_
 show wpAny _ A.in1 (checkBuiltinCall "set.__new__" ⟨[.type "set",a],[]⟩ >>= λ_=>again (.builtin "set.__new__" ⟨[.type "set",a],[]⟩)) _ _ s
 refine wpAny_bind ?_
 refine wpAny_of_eq (F.newCall_set_1 a) ?_
 refine wpAny_pure ⟨plainId_quiet F.plain_set_new _,codeAny_builtin F.entry_set_new ?_⟩
 rw[Around.under_plainId F.plain_set_new _]
 unfold Builtin.«set.__new__» Builtin.Frozenset.newClass
 have ss:=sub_set_self
 obtain⟨h1,h2,h3,h4,h5⟩:=s
 dsimp only
 wp_walk
 refine wpAny_askSetting (wpAny_pure ?_)
 dsimp only
 simp only[newObj]
 refine wpAny_bind (wpAny_alloc ?_)
 exact wpAny_pure (wpAny_pure hq)
end
section
variable {P:Program} {w:World} {A:Around} {R:Result->Shared->Prop} {I:Addr} {fp wr:List Addr} {G:Array GenState->Array GenState->Prop} {n:Nat} {Pv:Nat->Value->Prop} {St:Nat->Shared->Prop} {led:Bool}
theorem Lf (W:WalksS P w A.in1 I fp wr G n Pv St) (S:Addr) (sE:S∉fp)
  (val:Nat->Int) (RL:∀i v,Pv i v->∃t,v=.int (val i) t) (hb:n+1<scanBound) :
  ∀(k i:Nat) (s:Shared),n-i=k->i<=n->St i s ->
   eR P w led s.heap S (λj=>(firstMet val i).any (·==j)) (firstMet val i).length ->
   (∀s',Moved (S::wr) G s s'->eR P w led s'.heap S (λj=>(firstMet val n).any (·==j)) (firstMet val n).length->R (.ok (.ret .none)) s') ->
   codeAny (model P w) A (.builtin "set.update.loop" ⟨[.ref S,.ref I],[]⟩) R s:=by
 have nw:S∉wr:=λz=>sE (W.sub _ z)
 have sw:∀b∈wr,b∈S::wr:=λb z=>List.mem_cons_of_mem _ z
 intro k
 induction k with
 |zero =>
  intro i s hk hi st T hR
  obtain rfl:i=n:=by omega
  refine codeAny_builtin F.entry_set_update_loop ?_
  rw[Around.under_plainId F.plain_set_update_loop _]
  show wpAny _ A.in1 (pyNext (.ref I) >>= _) _ _ s
  refine wpAny_bind (W.done s _ _ st λs' m=>?_)
  show wpAny _ A.in1 (ret Value.none) _ _ s'
  exact wpAny_pure (hR s' (m.mono sw) (T.at λo e=>m.heap S o nw e))
 |succ k ih =>
  intro i s hk hi st T hR
  have lt:i<n:=by omega
  refine codeAny_builtin F.entry_set_update_loop ?_
  rw[Around.under_plainId F.plain_set_update_loop _]
  show wpAny _ A.in1 (pyNext (.ref I) >>= _) _ _ s
  refine wpAny_bind (W.item i s _ _ lt st λv s' pv eY m=>?_)
  obtain⟨t,rfl⟩:=RL i v pv
  have T':=T.at (h':=s'.heap) λo e=>m.heap S o nw e
  show wpAny _ A.in1 (holding [Value.int (val i) t] (setAdd S (.int (val i) t)) >>= _) _ _ s'
  refine wpAny_bind (wpAny_holding ?_)
  unfold setAdd
  refine wpAny_holding ?_
  refine wpAny_bind ((intKind P w).pyHash (k:=val i) (intKind_is _ _ _ _) ?_)
  have room:(firstMet val i).length+1<scanBound:=by have:=firstMet_length_le val i;omega
  refine MF (s:={ s' with toks:=s'.toks+1 }) T' room λh' sb T2=>?_
  have T3:eR P w led h' S (λj=>(firstMet val (i+1)).any (·==j)) (firstMet val (i+1)).length:=T2.congr (λj=>by rw[firstMet_succ,step_any]) (by rw[firstMet_succ,step_length])
  refine wpAny_pure ⟨plainId_quiet F.plain_set_update_loop _,ih (i+1) _ (by omega) lt (W.frame _ s' _ _ eY (Nat.le_succ _) λb dC o e=>?_) T3 λpB SV SW=>?_⟩
  ·rw[sb.2 b λz:b=S=>sE (z ▸ dC)];exact e
  ·refine hR pB (Moved.trans W.gtrans ((m.mono sw).then_heap (Nat.le_succ _) λb o dC e=>?_) SV) SW
   rw[sb.2 b λz:b=S=>dC (by rw[z];exact List.mem_cons_self)];exact e
end
section
variable {P:Program} {w:World} {A:Around} {E:Value->Shared->Prop} {s:Shared}
theorem Jf {l:Addr} {its:Array Value} {ns:List Int} {Q:Value->Shared->Prop}
  (hh:A.handled=none) (hl:s.heap.IsTuple l its) (hi:IntsAre its.toList ns) (hb:its.size+1<scanBound)
  (h:∀(h':Heap) (tk:Nat),eR P w (dB w) h' s.heap.objs.size (λk'=>(firstMet (λi=>ns.getD i 0) its.size).any (·==k')) (firstMet (λi=>ns.getD i 0) its.size).length ->
   (∀b o,b<s.heap.objs.size->s.heap.get? b=some o->h'.get? b=some o)->Q (.ref s.heap.objs.size) { s with heap:=h',toks:=tk }) :
  wpAny (model P w) A (call (.type "set") [.ref l]) Q E s:=by
 obtain⟨c,tl,ur⟩:=F.called_set.mro
 have um:=F.called_set.made
 have ub:=F.called_set.sub
 refine wpAny_call (codeAny_of_tree ?_)
 show wpAny _ _ (callAny (.type "set") _) _ _ _
 refine wpAny_pure ⟨Code.quiet_builtin _ (by decide +kernel),codeAny_builtin F.entry_type_call ?_⟩
 rw[Around.under_plain (weight_type_call_type "set" [.ref l] []) rfl]
 have h1:=F.called_set.notType
 have h2:=F.called_set.canCreate
 have Vv:=F.typeCall_set_1 (.ref l)
 repeat (any_goals (first|assumption|wp_step))
 refine codeAny_mono (Ld (.ref l) (E:=E) (Q₁:=λobj aZ=>obj=.ref s.heap.objs.size/\aZ={ s with heap:=s.heap.push { cls:=.type "set",dict:=none,data:=.set #[] 0 (.fresh 0 0 (dB w)) } }) ⟨rfl,rfl⟩) λr aZ hr=>?_
 cases r with
 |error e=>exact hr
 |ok fl =>
  cases fl with
  |ret obj =>
   obtain⟨rfl,rfl⟩:=hr
   have v:(s.heap.push { cls:=.type "set",dict:=none,data:=.set #[] 0 (.fresh 0 0 (dB w)) }).get? s.heap.objs.size=some { cls:=.type "set",dict:=none,data:=.set #[] 0 (.fresh 0 0 (dB w)) }:=Heap.get?_push_size _ rfl
   have vT:Shared.TypeIs { s with heap:=s.heap.push { cls:=.type "set",dict:=none,data:=.set #[] 0 (.fresh 0 0 (dB w)) } } (.ref s.heap.objs.size) "set":=⟨_,v,rfl⟩
   have vl:=F.called_set.init.lookup
   have vb:=F.called_set.init.bind (.ref s.heap.objs.size)
   repeat (any_goals (first|assumption|wp_step))
   refine codeAny_mono (codeAny_call_builtin (R:=wants (λr kN=>r=.none/\∃h' tk,kN={ s with heap:=h',toks:=tk } /\
     eR P w (dB w) h' s.heap.objs.size (λk'=>(firstMet (λi=>ns.getD i 0) its.size).any (·==k')) (firstMet (λi=>ns.getD i 0) its.size).length /\
     (∀b o,b<s.heap.objs.size->s.heap.get? b=some o->h'.get? b=some o)) E) F.called_set.init.plain F.entry_set_init (check_set_init_1 vT ?_)) λRM kN vr=>?_
   ·obtain⟨ol,uo,uc,nn,ud⟩:=hl
    obtain⟨oc,od,oa,SX⟩:=ol
    simp only at uc ud
    subst uc;subst ud
    have SY:(s.heap.push { cls:=.type "set",dict:=none,data:=.set #[] 0 (.fresh 0 0 (dB w)) }).get? l=some { cls:=.type "tuple",dict:=od,data:=.seq its nn,slots:=SX }:=Heap.get?_push_of_some _ uo
    have u1:=F.sub_tuple_set
    have u2:=F.sub_tuple_frozenset
    have bz:(Value.type "tuple"==Value.type "dict")=false:=by decide
    have ul:(s.heap.push { cls:=.type "set",dict:=none,data:=.set #[] 0 (.fresh 0 0 (dB w)) }).IsTuple l its:=⟨_,SY,rfl,nn,rfl⟩
    unfold Builtin.«set.__init__» noKeywords Builtin.Frozenset.updateFrom
    generalize vP:pyIter=PI
    wp_walk
    subst vP
    refine wpAny_pyIter_tuple ul ?_
    refine wpAny_bind (wpAny_runValue ?_)
    have uS:l<s.heap.objs.size:=Heap.lt_size uo
    have v3:A.in1.in1.in1.handled=none:=by simp[hh]
    have uI:l≠(s.heap.push { cls:=.type "set",dict:=none,data:=.set #[] 0 (.fresh 0 0 (dB w)) }).objs.size:=by
     rw[Heap.size_push];exact Nat.ne_of_lt (Nat.lt_succ_of_lt uS)
    have uf:s.heap.objs.size∉[(s.heap.push { cls:=.type "set",dict:=none,data:=.set #[] 0 (.fresh 0 0 (dB w)) }).objs.size,l]:=by
     rw[Heap.size_push];simp only[List.mem_cons,List.mem_singleton,List.not_mem_nil,or_false,not_or]
     exact⟨Nat.ne_of_lt (Nat.lt_succ_self _),Nat.ne_of_gt uS⟩
    have uv:∀(i:Nat) (v:Value),its[i]?=some v->∃t,v=.int ((λi=>ns.getD i 0) i) t:=λi v hv =>
     IntsAre.int_at hi i v (by rw[Array.getElem?_toList];exact hv)
    refine Lf (led:=dB w) ((Walks.tuple v3 _ l uI its).toS) s.heap.objs.size
     uf (λi=>ns.getD i 0) uv hb (its.size-0) 0 _ (by omega) (Nat.zero_le _)
     ⟨⟨_,Heap.get?_push_size _ rfl,rfl,rfl⟩,(ul.push _)⟩ ?v0 ?vR
    case v0 =>
     have vg:((s.heap.push { cls:=.type "set",dict:=none,data:=.set #[] 0 (.fresh 0 0 (dB w)) }).push { cls:=.type "tuple_iterator",data:=.fields #[.ref l,.int 0 0] }).get? s.heap.objs.size
       = some { cls:=.type "set",dict:=none,data:=.set #[] 0 (.fresh 0 0 (dB w)) }:=Heap.get?_push_of_some _ v
     exact⟨_,#[],0,_,vg,⟨rfl,rfl,rfl⟩,rfl,λe he=>by simp at he,λk=>by simp[firstMet_zero],by unfold scanBound;simp,by rfl,rfl,JY _⟩
    case vR =>
     intro s' hm vS
     obtain⟨h',g',d',tq,Ah⟩:=s'
     have eg:g'=s.gens:=hm.gens
     have ed:d'=s.drawn:=hm.drawn
     have eo:Ah=s.os:=hm.os
     subst eg;subst ed;subst eo
     show wpAny _ _ _ _ _ _
     refine wpAny_pure ?_
     show wpAny _ _ (ret Value.none) _ _ _
     refine wpAny_pure ⟨rfl,h',tq,rfl,vS,λb o hb e=>?_⟩
     have v1:b≠s.heap.objs.size:=Nat.ne_of_lt hb
     have v2:b≠(s.heap.push { cls:=.type "set",dict:=none,data:=.set #[] 0 (.fresh 0 0 (dB w)) }).objs.size:=by
      rw[Heap.size_push];exact Nat.ne_of_lt (Nat.lt_succ_of_lt hb)
     exact hm.heap b o (by simp only[List.mem_cons,List.mem_singleton,List.not_mem_nil,or_false,not_or];exact⟨v1,v2⟩) (Heap.get?_push_of_some _ (Heap.get?_push_of_some _ e))
   ·cases RM with
    |error e=>exact vr
    |ok Qk =>
     cases Qk with
     |ret r =>
      obtain⟨rfl,h',tk,rfl,vS,vk⟩:=vr
      repeat (any_goals (first|assumption|wp_step))
      exact h _ _ vS vk
     |_=>exact vr.elim
  |_=>exact hr.elim
end
end TS
namespace TS
open PySem PySem.Spec PyProof.Rows
theorem xg {α:Type}:∀{l:List α} {i:Nat} {x:α},l[i]?=some x->(x::l.eraseIdx i).Perm l
 | [],i,x,h=>by simp at h
 |y::l,0,x,h=>by
  have:y=x:=by simpa using h
  subst this
  exact List.Perm.refl _
 |y::l,i+1,x,h=>by
  have ih:=xg (l:=l) (i:=i) (x:=x) (by simpa using h)
  rw[List.eraseIdx_cons_succ]
  exact(List.Perm.swap y x _).trans (List.Perm.cons y ih)
theorem D1 {α:Type} (next:Nat->Nat):∀(fuel k:Nat) (left:List α) (out:Array α),left.length=fuel->(pickOrder.go next fuel k left out).toList.Perm (out.toList++left)
 |0,k,left,out,h=>by
  have:left=[]:=List.length_eq_zero_iff.mp h
  subst this
  unfold pickOrder.go
  simp
 |fuel+1,k,left,out,h=>by
  unfold pickOrder.go
  have hm:next k % left.length<left.length:=Nat.mod_lt _ (by omega)
  rw[List.getElem?_eq_getElem hm]
  dsimp only
  have he:=xg (List.getElem?_eq_getElem hm)
  have ih:=D1 next fuel (k+1) (left.eraseIdx (next k % left.length)) (out.push left[next k % left.length]) (by rw[List.length_eraseIdx_of_lt hm];omega)
  refine ih.trans ?_
  rw[Array.toList_push,List.append_assoc]
  exact List.Perm.append_left _ he
theorem C1 {α:Type} (next:Nat->Nat) (xs:Array α):(pickOrder next xs).toList.Perm xs.toList:=by
 unfold pickOrder
 have:=D1 next xs.size 0 xs.toList #[] (by simp)
 simpa using this
section
variable {P:Program} {w:World} {A:Around} {E:Value->Shared->Prop}
theorem Jg {α:Type} (n:Nat):∀(xs:List α) (s:Shared) (Q:List α->Shared->Prop),xs.length=n->(∀ys d,ys.Perm xs->Q ys { s with drawn:=d })->wpAny (model P w) A (drawOrder n xs) Q E s:=by
 induction n with
 |zero =>
  intro xs s Q h hQ
  have:xs=[]:=List.length_eq_zero_iff.mp h
  subst this
  unfold drawOrder
  exact wpAny_pure (hQ [] s.drawn (List.Perm.refl _))
 |succ n ih =>
  intro xs s Q h hQ
  cases xs with
  |nil=>simp at h
  |cons x xs =>
   unfold drawOrder
   refine wpAny_bind (Jd (by simp) ?_)
   have hm:w.draws .order (s.drawn.get .order) % (x::xs).length<(x::xs).length:=Nat.mod_lt _ (by simp)
   rw[List.getElem?_eq_getElem hm]
   dsimp only
   refine wpAny_bind (ih _ _ _ (by rw[List.length_eraseIdx_of_lt hm];omega) λys d hp=>?_)
   refine wpAny_pure (hQ _ d ?_)
   exact(List.Perm.cons _ hp).trans (xg (List.getElem?_eq_getElem hm))
theorem Lg {s:Shared} {a:Addr} {u:Obj} {es:Array (Int×Value)} {ep:Nat} {t:SetTable} {Q:Value->Shared->Prop} (hu:s.heap.get? a=some u) (hx:u.ExactSet) (hd:u.data=.set es ep t) (hf:t.fits es.size=true) (ht:gj (dB w) t)
  (hsz:es.size<=sizeLine)
  (hQ:∀(h':Heap) (d':Drawn) (I:Addr) (fp:List Addr) (St:Nat->Shared->Prop) (order:List Value),(∀b o,s.heap.get? b=some o->h'.get? b=some o)->(∀b∈fp,b<h'.objs.size)->(∀b∈fp,b=a\/s.heap.objs.size<=b)->I∈fp->s.heap.objs.size<=I->order.Perm (es.toList.map (·.2)) ->
   (∀A':Around,A'.handled=none->WalksS P w A' I fp [I] (λa b=>b=a) es.size (λi v=>order[i]?=some v) St)->St 0 { s with heap:=h',drawn:=d' }->Q (.ref I) { s with heap:=h',drawn:=d' }) :
  wpAny (model P w) A (pyIter (.ref a)) Q E s:=by
 have hT:s.TypeIs (.ref a) "set":=⟨u,hu,hx.1⟩
 have aU:a<s.heap.objs.size:=Heap.lt_size hu
 refine wpAny_pyIter_slot hT F.slot_set_iter (wpAny_call_entry F.slot_set_iter hT HJ ?_ (F.args_set_iter_1 _))
 unfold Builtin.«frozenset.__iter__» Builtin.Frozenset.slot0 slotArgs
 simp only[List.isEmpty_nil,Bool.not_true,Bool.false_eq_true,↓reduceIte,bind_assoc,List.length_nil,bne_self_eq_false]
 unfold Builtin.Frozenset.addrOf Builtin.Frozenset.sizeOf
 refine wpAny_bind (wpAny_pure ?_)
 try dsimp only
 refine wpAny_bind (wpAny_pure ?_)
 refine wpAny_bind (wpAny_bind (wpAny_setEntries_of hu hd hf (wpAny_pure ?_)))
 unfold setDrawn
 refine wpAny_bind (wpAny_bind (wpAny_setState_of hu hd hf ?_))
 dsimp only
 unfold setsByText
 refine wpAny_bind (wpAny_bind (wpAny_askSetting (wpAny_pure ?_)))
 refine wpAny_pure ?_
 show wpAny _ _ (if (!(w.params.followText "set-order")&&(!t.plain&&decide (es.size > 1)))=true then _ else _) _ _ _
 have Ax:∀(o1:Obj) b o,s.heap.get? b=some o->(s.heap.push o1).get? b=some o:=λo1 b o e=>Heap.get?_push_of_some _ e
 by_cases hc:(!w.params.followText "set-order"&&(!t.plain&&decide (es.size > 1)))=true
 ·rw[if_pos hc]
  refine wpAny_bind (Jg _ _ _ _ (by simp) λys d hp=>?_)
  refine wpAny_bind ?_
  simp only[newTuple]
  refine wpAny_newObj_type ?_ (by have:=hp.length_eq;rw[List.length_range] at this;show (List.toArray _).size<=sizeLine;rw[List.size_toArray,List.length_map,this];exact hsz)
  have Aw:∀x∈ys,x<es.size:=λx hx=>by simpa using hp.mem_iff.mp hx
  have hl:ys.length=es.size:=by simpa using hp.length_eq
  refine wpAny_bind (wpAny_setEpoch_of (Heap.get?_push_of_some _ hu) hd hf ?_)
  refine wpAny_bind (wpAny_newObj_type ?_)
  refine wpAny_pure ⟨_,rfl,"set_iterator",_,⟨_,Heap.get?_push_size _ rfl,rfl⟩,iS.lookup,?_⟩
  have pN:(s.heap.push { cls:=.type "tuple",data:=.seq (ys.map λ(i:Nat)=>rawInt i).toArray }).objs.size=s.heap.objs.size+1:=by simp[Heap.size_push]
  refine hQ _ d _ [_,a,s.heap.objs.size] _ (ys.map λk=>(es.getD k (0,Value.none)).2) (λb o e=>Heap.get?_push_of_some _ (Heap.get?_push_of_some _ e)) ?_ ?_ (by simp) (by rw[pN];exact Nat.le_succ _) ?_ (λA' ha=>Iz (u:=u) (t:=t) (ep:=ep) ha (I:=_) (a:=a) (tp:=s.heap.objs.size) (by rw[pN];exact Nat.ne_of_lt (Nat.lt_succ_of_lt aU)) (by rw[pN];exact Nat.ne_of_lt (Nat.lt_succ_self _)) hd hf ys hl Aw) ⟨⟨_,Heap.get?_push_size _ rfl,rfl,rfl⟩,Heap.get?_push_of_some _ (Heap.get?_push_of_some _ hu),⟨_,Heap.get?_push_of_some _ (Heap.get?_push_size _ rfl),rfl,_,rfl⟩⟩
  ·intro b hb
   simp only[List.mem_cons,List.not_mem_nil,or_false] at hb
   rw[Heap.size_push]
   rcases hb with e|e|e
   ·rw[e];exact Nat.lt_succ_self _
   ·rw[e,pN];exact Nat.lt_succ_of_lt (Nat.lt_succ_of_lt aU)
   ·rw[e,pN];exact Nat.lt_succ_of_lt (Nat.lt_succ_self _)
  ·intro b hb
   simp only[List.mem_cons,List.not_mem_nil,or_false] at hb
   rcases hb with e|e|e
   ·right;rw[e,pN];exact Nat.le_succ _
   ·exact .inl e
   ·right;rw[e];exact Nat.le_refl _
  ·refine(List.Perm.map _ hp).trans ?_
   have:(List.range es.size).map (λk=>(es.getD k (0,Value.none)).2)=es.toList.map (·.2):=by
    apply List.ext_getElem?
    intro i
    rw[List.getElem?_map,List.getElem?_map]
    by_cases hi:i<es.size
    ·rw[List.getElem?_range hi,Array.getElem?_toList]
     simp[Array.getD,hi]
    ·rw[List.getElem?_eq_none (by simpa using hi),List.getElem?_eq_none (by simpa using hi)]
     rfl
   rw[this]
 ·rw[if_neg hc]
  refine wpAny_bind (wpAny_pure ?_)
  refine wpAny_bind (wpAny_setEpoch_of hu hd hf ?_)
  refine wpAny_bind (wpAny_newObj_type ?_)
  refine wpAny_pure ⟨_,rfl,"set_iterator",_,⟨_,Heap.get?_push_size _ rfl,rfl⟩,iS.lookup,?_⟩
  have ak:∀(o1:Obj),∀b∈[s.heap.objs.size,a],b<(s.heap.push o1).objs.size:=λo1 b hb=>by
   simp only[List.mem_cons,List.not_mem_nil,or_false] at hb
   rw[Heap.size_push]
   rcases hb with e|e
   ·rw[e];exact Nat.lt_succ_self _
   ·rw[e];exact Nat.lt_succ_of_lt aU
  have F8:∀b∈[s.heap.objs.size,a],b=a\/s.heap.objs.size<=b:=λb hb=>by
   simp only[List.mem_cons,List.not_mem_nil,or_false] at hb
   rcases hb with e|e
   ·right;rw[e];exact Nat.le_refl _
   ·exact .inl e
  cases fX:w.params.followText "set-order" with
  |true =>
   have nK:(pickOrder (w.params.setOrder a ep) es).size=es.size:=by
    have:=(C1 (w.params.setOrder a ep) es).length_eq
    simpa using this
   have hw:∀A':Around,A'.handled=none->WalksS P w A' s.heap.objs.size [s.heap.objs.size,a] [s.heap.objs.size] (λa b=>b=a) es.size (λi v=>((pickOrder (w.params.setOrder a ep) es).toList.map (·.2))[i]?=some v) _:=λA' ha=>by
    have:=Je (P:=P) (u:=u) (t:=t) ha (I:=s.heap.objs.size) (a:=a) (Nat.ne_of_lt aU) fX hd hf nK
    simpa using this
   exact hQ _ s.drawn _ [_,a] _ ((pickOrder (w.params.setOrder a ep) es).toList.map (·.2)) (λb o e=>Heap.get?_push_of_some _ e) (ak _) F8 (by simp) (Nat.le_refl _) (List.Perm.map _ (C1 _ _)) hw ⟨⟨_,Heap.get?_push_size _ rfl,rfl,rfl⟩,Heap.get?_push_of_some _ hu⟩
  |false =>
   have hp:t.plain=true\/es.size<=1:=by
    rw[fX] at hc
    simp at hc
    cases bX:t.plain with
    |true=>exact .inl rfl
    |false=>exact .inr (hc bX)
   have hl:t.led=true:=by rw[ht.led];unfold dB;rw[fX];rfl
   have hr:jj t.place.toList:=by
    rcases hp with hp|hp
    ·exact ht.rise hp
    ·simp only[SetTable.fits,Bool.and_eq_true,beq_iff_eq,decide_eq_true_eq] at hf
     have hle:t.place.toList.length<=1:=by simp[hf.1];exact hp
     match t.place.toList,hle with
     | [],_=>exact List.Pairwise.nil
     | [x],_=>exact List.pairwise_singleton _ _
   have hw:∀A':Around,A'.handled=none->WalksS P w A' s.heap.objs.size [s.heap.objs.size,a] [s.heap.objs.size] (λa b=>b=a) es.size (λi v=>(es.toList.map (·.2))[i]?=some v) _:=λA' ha=>by
    have:=Iy (P:=P) (u:=u) (t:=t) (ep:=ep) ha (I:=s.heap.objs.size) (a:=a) (Nat.ne_of_lt aU) fX hd hf hl hp hr
    simpa using this
   exact hQ _ s.drawn _ [_,a] _ (es.toList.map (·.2)) (λb o e=>Heap.get?_push_of_some _ e) (ak _) F8 (by simp) (Nat.le_refl _) (List.Perm.refl _) hw ⟨0,⟨_,Heap.get?_push_size _ rfl,rfl,rfl⟩,Heap.get?_push_of_some _ hu,Nat.zero_le _,λk hk=>by omega,λk _ _=>Nat.zero_le _⟩
end
end TS
namespace TS
open PySem PySem.Spec PyProof.Rows
section
variable {P:Program} {w:World} {A:Around} {E:Value->Shared->Prop} {s:Shared}
theorem split_len:splitId "set.__len__"=some ("set","__len__"):=by decide +kernel
theorem ints_of {es:List (Int×Value)} (h:ElemsOf (intKind P w) es) {vs:List Value} (hp:vs.Perm (es.map (·.2))):∃ns,IntsAre vs ns:=by
 have hv:∀v∈vs,∃k t,v=.int k t:=λv hv=>by
  obtain⟨e,he,rfl⟩:=List.mem_map.mp (hp.mem_iff.mp hv)
  obtain⟨⟨k,hk,_⟩,_⟩:=h e he
  cases hx:e.2 with
  |int i t=>exact⟨i,t,rfl⟩
  |_=>rw[hx] at hk;simp[intKind,Value.isInt] at hk
 clear hp
 induction vs with
 |nil=>exact⟨[],.nil⟩
 |cons v vs ih =>
  obtain⟨k,t,rfl⟩:=hv v List.mem_cons_self
  obtain⟨ns,h2⟩:=ih λx hx=>hv x (List.mem_cons_of_mem _ hx)
  exact⟨k::ns,.cons k t h2⟩
theorem EG {α:Type} {c:Bool} {x y:Sem α} {Q:α->Shared->Prop} (hc:c=true) (h:wpAny (model P w) A x Q E s):wpAny (model P w) A (if c=true then x else y) Q E s:=by
 rw[if_pos hc];exact h
theorem IA {a:Addr} {u:Obj} {es:Array (Int×Value)} {ep:Nat} {t:SetTable} {Q:List Value->Shared->Prop} (hh:A.handled=none) (hu:s.heap.get? a=some u) (hx:u.ExactSet) (hd:u.data=.set es ep t) (hf:t.fits es.size=true) (ht:gj (dB w) t) (hsz:es.size<scanBound)
  (hQ:∀(h':Heap) (d':Drawn) (tk:Nat) (vs:List Value),s.heap.objs.size<=h'.objs.size->(∀b o,s.heap.get? b=some o->h'.get? b=some o)->vs.Perm (es.toList.map (·.2))->Q vs { s with heap:=h',drawn:=d',toks:=tk }):wpAny (model P w) A (collect (.ref a)) Q E s:=by
 have hz:es.size<=sizeLine:=fits_of_scanBound hsz
 have aU:a<s.heap.objs.size:=Heap.lt_size hu
 unfold collect
 refine wpAny_bind (wpAny_runValue (codeAny_builtin F.entry_proto_collect ?_))
 rw[Around.under_plainId F.plain_proto_collect _]
 show wpAny _ A.in1 (newList [] >>= λl=>again (.builtin "list.__iadd__" ⟨[l,.ref a],[]⟩)) _ _ s
 refine wpAny_bind (wpAny_newObj_type ?_)
 refine wpAny_pure ⟨plainId_quiet F.plain_list_iadd _,codeAny_builtin F.entry_list_iadd ?_⟩
 rw[Around.under_plainId F.plain_list_iadd _]
 show wpAny _ A.in1 (Builtin.List.listExtendWith (.ref s.heap.objs.size) (.ref a) (.ref s.heap.objs.size)) _ _ _
 generalize ml:({ s with heap:=s.heap.push { cls:=.type "list",data:=.seq ([]:List Value).toArray } }:Shared)=s1
 have wC:s1.heap.objs.size=s.heap.objs.size+1:=by rw[<- ml];simp[Heap.size_push]
 have zJ:∀b o,s.heap.get? b=some o->s1.heap.get? b=some o:=λb o e=>by rw[<- ml];exact Heap.get?_push_of_some _ e
 have Ay:s1.heap.get? a=some u:=by rw[<- ml];exact Heap.get?_push_of_some _ hu
 have hT:s1.TypeIs (.ref a) "set":=⟨u,Ay,hx.1⟩
 have S0:s1.heap.get? s.heap.objs.size=some { cls:=.type "list",data:=.seq ([]:List Value).toArray }:=by rw[<- ml];exact Heap.get?_push_size _ rfl
 unfold Builtin.List.listExtendWith
 refine wpAny_bind (wpAny_typeOf hT ?_)
 have n1:Builtin.List.listSameRef (.ref s.heap.objs.size) (.ref a)=false:=by
  simp[Builtin.List.listSameRef]
  exact Nat.ne_of_gt aU
 have n2:(Value.type "set"==Value.type "list")=false:=by decide
 have n3:(Value.type "set"==Value.type "tuple")=false:=by decide
 simp only[n1,n2,n3,Bool.or_false,Bool.false_eq_true,if_false]
 refine wpAny_bind (Lg Ay hx hd hf ht hz λh' d' I fp St order k1 k2 k6 k3 k4 k5 W st=>?_)
 have Az:Shared.TypeIs { s1 with heap:=h',drawn:=d' } (.ref a) "set":=⟨u,k1 _ _ Ay,hx.1⟩
 have GP:=k1 _ _ S0
 refine wpAny_bind (wpAny_holding ?_)
 unfold Builtin.List.listLengthHint
 refine wpAny_bind (wpAny_specialOf Az F.slot_set_len.lookup ?_)
 dsimp only
 rw[split_len]
 dsimp only
 refine wpAny_bind (wpAny_isInstance Az sub_set_self ?_)
 rw[if_neg (by decide)]
 refine EG (by decide +kernel) ?_
 refine wpAny_bind (wpAny_typeOf Az ?_)
 dsimp only
 refine wpAny_pure ?_
 refine EG (by decide +kernel) ?_
 ··refine wpAny_bind (wpAny_rule ?_)
   refine wpAny_bind ?_
   show wpAny _ A.in1 (updateSeq s.heap.objs.size (·.push .none) >>= λ_=>updateSeq s.heap.objs.size (·.pop)) _ _ _
   refine wpAny_bind (wpAny_updateSeq GP rfl ?_)
   have GQ:=Heap.get?_update_self (Obj.mapSeq (·.push Value.none)) GP rfl
   refine wpAny_updateSeq GQ rfl ?_
   have S6:=Heap.get?_update_self (Obj.mapSeq (·.pop)) GQ rfl
   have sE:s.heap.objs.size∉fp:=λhm=>by
    rcases k6 _ hm with e|e
    ·exact Nat.ne_of_gt aU e
    ·rw[wC] at e;exact Nat.not_succ_le_self _ e
   have Ax:∀b o,b≠s.heap.objs.size->h'.get? b=some o->((h'.update s.heap.objs.size (Obj.mapSeq (·.push Value.none))).update s.heap.objs.size (Obj.mapSeq (·.pop))).get? b=some o :=
    λb o hb e=>(Heap.get?_update_other _ _ (Ne.symm hb)).trans ((Heap.get?_update_other _ _ (Ne.symm hb)).trans e)
   refine wpAny_pure ⟨plainId_quiet F.plain_extend_loop _,codeAny_extend_loopS (W A.in1 (by simp[hh])) hz _ sE _ es.size 0 _ _ _ rfl (Nat.zero_le _) ((W A.in1 (by simp[hh])).frame 0 ({ s1 with heap:=h',drawn:=d' }:Shared) _ s1.toks st (Nat.le_refl _) λb hb o e=>Ax b o (λz=>sE (z ▸ hb)) e) S6 (ItemsOf.nil _) λs' acc c m wD jk=>?_⟩
   show wpAny _ A (load s.heap.objs.size >>= _) _ _ s'
   refine wpAny_bind (wpAny_load wD ?_)
   refine wpAny_pure ?_
   have S7:order.length=es.size:=by simpa using k5.length_eq
   have RN:acc.toList=order:=by
    apply List.ext_getElem?
    intro j
    by_cases hj:j<acc.size
    ·have e1:acc[j]?=some acc[j]:=by simp[hj]
     rw[Array.getElem?_toList,e1,jk.2 j _ e1]
    ·rw[List.getElem?_eq_none (by simpa using hj),List.getElem?_eq_none (by rw[S7,<- jk.1];omega)]
   obtain⟨h2,g2,d2,t2,o2⟩:=s'
   have eg:g2=s1.gens:=m.gens
   have ed:d2=d':=m.drawn
   have eo:o2=s1.os:=m.os
   subst eg ed eo
   have q:=hQ h2 d2 t2 acc.toList (Nat.le_of_lt (Heap.lt_size wD)) (λb o e=>m.heap b o (λhb=>by
    simp only[List.mem_cons,List.not_mem_nil,or_false] at hb
    have k9:=Heap.lt_size e
    rcases hb with z|z
    ·rw[z] at k9;exact Nat.lt_irrefl _ k9
    ·rw[wC] at k4;rw[z] at k9;exact Nat.lt_irrefl _ (Nat.lt_of_lt_of_le k9 (Nat.le_of_succ_le k4))) (Ax b o (λz=>by
     have k9:=Heap.lt_size e
     rw[z] at k9;exact Nat.lt_irrefl _ k9) (k1 b o (zJ b o e)))) (by rw[RN];exact k5)
   rw[<- ml]
   exact q
end
end TS
namespace TS
open PySem PySem.Spec PyProof.Rows
section
variable {P:Program} {w:World} {A:Around} {E:Value->Shared->Prop} {s:Shared}
theorem Jh {a:Addr} {u:Obj} {es:Array (Int×Value)} {ep:Nat} {t:SetTable} {Q:Value->Shared->Prop} (hh:A.handled=none) (hu:s.heap.get? a=some u) (hx:u.ExactSet) (hd:u.data=.set es ep t) (hf:t.fits es.size=true) (ht:gj (dB w) t) (AA:ElemsOf (intKind P w) es.toList) (Vw:es.size<64)
  (h:∀(h':Heap) (d':Drawn) (tk:Nat) (p:Addr) (vs:List Value) (ns:List Int) (out:List Value) (ms:List Int) (e:Nat),(∀b o,s.heap.get? b=some o->h'.get? b=some o)->s.heap.objs.size<=p->vs.Perm (es.toList.map (·.2))->IntsAre vs ns->h'.get? p=some { cls:=.type "list",data:=.seq out.toArray e }->IntsAre out ms->ms.Perm ns->ms.Pairwise (·<=·)->Q (.ref p) { s with heap:=h',drawn:=d',toks:=tk }) :
  wpAny (model P w) A (call (.builtin "sorted") [.ref a]) Q E s:=by
 refine Calls.call_function_entry kind_sorted plain_sorted entry_sorted (args_sorted1 _) ?_
 unfold Builtin.«sorted»
 refine wpAny_bind (m:=checkCount "sorted" 1 1 _) (wpAny_pure ?_)
 refine wpAny_bind (IA (by simp[hh]) hu hx hd hf ht (by unfold scanBound;omega) λh' d' tk vs k0 k1 k2=>?_)
 obtain⟨ns,hI⟩:=ints_of AA k2
 have hl:vs.length<64:=by have:=k2.length_eq;simp at this;omega
 refine wpAny_bind (wpAny_newList ?_)
 have rW:(h'.push (seqObj "list" vs.toArray 0)).get? h'.objs.size=some (seqObj "list" vs.toArray 0):=Heap.get?_push_size _ rfl
 refine wpAny_bind (wpAny_holding (wpAny_call_entry slot_list_sort ⟨_,rW,rfl⟩ entry_list_sort (list_sort_tree rW hI hl λout ms a1 a2 a3=>⟨_,rfl,?_⟩) (args_list_sort _)))
 obtain⟨e,he⟩:=sortedHeap_at (out:=out) rW
 refine wpAny_pure ⟨_,rfl,h _ d' tk h'.objs.size vs ns out.toList ms e (λb o hb=>?_) ?_ k2 hI (by simpa [seqObj] using he) a1 a2 a3⟩
 ·have dC:=k1 b o hb
  have aU:=Heap.lt_size dC
  rw[sortedHeap_old (Nat.ne_of_lt aU) (by rw[size_push'];exact Nat.lt_succ_of_lt aU)]
  exact Heap.get?_push_of_some _ dC
 ·exact k0
end
end TS
namespace L2
open PySem PySem.Spec PyProof.Rows
noncomputable def jT (P:Program) (w:World) (p:Addr) (ns:List Int):Heap->Prop:=λh=>∃(S:Int->Bool) (n:Nat),TS.eR P w (TS.dB w) h p S n/\(∀k,S k=true↔k∈ns)/\n<=ns.length/\n=(ns.foldl step_dedup []).length
section
variable {X:Cx}
theorem uK (l:List Int) (k:Int):(l.any (·==k))=true↔k∈l:=by
 rw[List.any_eq_true]
 exact⟨λ⟨x,h1,h2⟩=>by rw[<- beq_iff_eq.mp h2];exact h1,λh=>⟨k,h,by simp⟩⟩
theorem MH {h:Heap} {p:Addr} {ns:List Int} {m:Nat} (hm:m=ns.length) (hS:TS.eR X.prog X.w (TS.dB X.w) h p (λk'=>(firstMet (λi=>ns.getD i 0) m).any (·==k')) (firstMet (λi=>ns.getD i 0) m).length):jT X.prog X.w p ns h:=by
 subst hm
 refine⟨_,_,hS,λk=>?_,firstMet_length_le _ _,?_⟩
 ·rw[firstMet_any,map_getD]
  exact uK ns k
 ·unfold firstMet
  rw[map_getD]
theorem MI {H:Hp} {h:Heap} {p:Addr} {ns:List Int} (hx:jT X.prog X.w p ns h):cb X.prog X.w (upd H p (.ext (jT X.prog X.w p ns))) h p (.ext (jT X.prog X.w p ns)):=by
 refine⟨hx,?_,λh1 h2 q k=>?_⟩
 ·obtain⟨_,_,⟨o,_,_,_,ho,_⟩,_⟩:=hx
  exact⟨o,ho⟩
 ·obtain⟨S,n,T,r⟩:=q
  exact⟨S,n,T.at k,r⟩
theorem Ji (hc:X.calm=true):bP X (.type "set") (λxs H Q=>∃(a:Addr) (ns:List Int),xs=[.ref a]/\aP X.K H a (ns.map V.int)/\ns.length<4000/\∀p,H p=none->Q (.ref p) (upd H p (.ext (jT X.prog X.w p ns)))):=by
 intro pins s σ H xs us Q I r h
 obtain⟨a,ns,rfl,ha,hl,q⟩:=h
 obtain⟨u,rfl,ru⟩:=vals1 r
 cases ru
 obtain⟨its,rv,p,_⟩:=I.tuple ha
 have hn:its.toArray.size=ns.length:=by
  have e:=rv.length
  rw[List.length_map] at e
  simpa using e.symm
 refine TS.Jf (its:=its.toArray) (ns:=ns) (I.ok.hd hc) p (by simpa using intsAre_of rv) (by rw[hn];show ns.length+1<4096;omega) λh' tk hS hk=>?_
 exact⟨.ref _,_,I.laid (t':=tk) (λb o e=>hk b o (Heap.lt_size e) e) (Nat.le_refl _) (MI (MH hn hS)),rfl,q _ (I.au.fresh (Nat.le_refl _))⟩
theorem w9:∀{out:List Value} {ms:List Int},IntsAre out ms->Vals (ms.map V.int) out
 |_,_,.nil=>.nil
 |_,_,.cons n t h=>.cons ⟨t,rfl⟩ (w9 h)
theorem Ci:∀(ns acc:List Int),acc.Nodup->(ns.foldl step_dedup acc).Nodup
 | [],acc,h=>h
 |n::ns,acc,h=>by
  refine Ci ns _ ?_
  unfold step_dedup
  split
  ·exact h
  ·rename_i hn
   rw[Bool.not_eq_true] at hn
   refine List.nodup_append.mpr ⟨h,by simp,λa ha b hb=>?_⟩
   have:b=n:=by simpa using hb
   subst this
   intro e
   subst e
   rw[(uK acc a).mpr ha] at hn
   cases hn
theorem Dl:∀{vs:List Value} {ns:List Int},IntsAre vs ns->∀k,k∈ns↔∃t,Value.int k t∈vs
 |_,_,.nil,k=>by simp
 |_,_,.cons n t h,k=>by
  rw[List.mem_cons,Dl h k]
  constructor
  ·rintro (e | ⟨t',h'⟩)
   ·subst e;exact⟨t,List.mem_cons_self⟩
   ·exact⟨t',List.mem_cons_of_mem _ h'⟩
  ·rintro ⟨t',h'⟩
   rcases List.mem_cons.mp h' with e|h'
   ·injection e with e _;exact .inl e
   ·exact .inr ⟨t',h'⟩
theorem sub_len:∀{m l:List Int},m.Nodup->(∀k,k∈m->k∈l)->m.length<=l.length
 | [],l,_,_=>Nat.zero_le _
 |x::m,l,h,hk=>by
  obtain⟨h1,h2⟩:=List.nodup_cons.mp h
  have hx:=hk x List.mem_cons_self
  have ih:=sub_len (m:=m) (l:=l.erase x) h2 λk hm=>(List.mem_erase_of_ne (λ(e:k=x)=>h1 (by rw[<- e];exact hm))).mpr (hk k (List.mem_cons_of_mem _ hm))
  rw[List.length_erase_of_mem hx] at ih
  have:=List.length_pos_of_mem hx
  rw[List.length_cons]
  omega
theorem B4:∀{l m:List Int},m.Nodup->(∀k,k∈m↔k∈l)->l.length<=m.length->l.Nodup
 | [],m,_,_,_=>List.nodup_nil
 |a::r,m,hm,hk,hl=>by
  have ha:a∉r:=λh=>by
   have:=sub_len hm λk h'=>(List.mem_cons.mp ((hk k).mp h')).elim (λe=>e ▸ h) id
   rw[List.length_cons] at hl
   omega
  have S8:a∈m:=(hk a).mpr List.mem_cons_self
  refine List.nodup_cons.mpr ⟨ha,B4 (m:=m.erase a) (hm.erase a) (λk=>?_) ?_⟩
  ·rw[hm.mem_erase_iff,hk k,List.mem_cons]
   constructor
   ·rintro ⟨h1,h2|h2⟩
    ·exact absurd h2 h1
    ·exact h2
   ·intro h
    exact⟨λe=>ha (e ▸ h),.inr h⟩
  ·rw[List.length_erase_of_mem S8]
   rw[List.length_cons] at hl
   omega
theorem Ib (hc:X.calm=true):bP X (.builtin "sorted") (λxs H Q=>∃(p:Addr) (ns:List Int),xs=[.ref p]/\H p=some (.ext (jT X.prog X.w p ns))/\ns.length<64 /\
  ∀(l:Addr) (ms:List Int),H l=none->ms.Pairwise (· < ·)->(∀k,k∈ms↔k∈ns)->Q (.ref l) (upd H l (.lst (ms.map V.int)))):=by
 intro pins s σ H xs us Q I r h
 obtain⟨p,ns,rfl,hp,hl,q⟩:=h
 obtain⟨v,rfl,rv⟩:=vals1 r
 cases rv
 obtain⟨⟨S,n,⟨u,es,ep,t,hu,hx,hd,AA,zK,hb,hf,hn,ht⟩,hS,Vx,pG⟩,_⟩:=I.au p _ hp
 refine TS.Jh (I.ok.hd hc) hu hx hd hf ht AA (by omega) λh' d' tk l vs ks out ms e k1 k2 k3 k4 k5 k6 k7 k8=>?_
 have Fi:∀k,k∈ms↔k∈ns:=λk=>by
  rw[k7.mem_iff,Dl k4 k,<- hS k,zK k]
  constructor
  ·rintro ⟨t',S9⟩
   obtain⟨x,sF,nL⟩:=List.mem_map.mp (k3.mem_iff.mp S9)
   exact⟨x,sF,by rw[nL];exact intKind_is _ _ _ _⟩
  ·rintro ⟨x,sF,nL⟩
   obtain⟨i,t',e'⟩:∃i t',x.2=.int i t':=by
    cases hv:x.2 with
    |int i t'=>exact⟨i,t',rfl⟩
    |_=>rw[hv] at nL;simp[intKind,Value.isInt] at nL
   have sG:k=i:=(intKind X.prog X.w).inj (.int i t') k i (by rw[<- e'];exact nL) (intKind_is _ _ _ _)
   subst sG
   exact⟨t',k3.mem_iff.mpr (List.mem_map.mpr ⟨x,sF,e'⟩)⟩
 have RO:ms.Nodup:=by
  have Ta:=Ci ns [] List.nodup_nil
  refine B4 Ta (λk=>?_) ?_
  ·rw[Fi k,<- uK,<- uK]
   have:=firstMet_any (λi=>ns.getD i 0) ns.length k
   unfold firstMet at this
   rw[map_getD] at this
   rw[this]
  ·rw[<- pG,<- hn]
   have e1:=k7.length_eq
   have e2:=k4.length
   have e3:=k3.length_eq
   simp at e3
   omega
 have aU:ms.Pairwise (· < ·):=by
  have:=List.pairwise_and_iff.mpr ⟨k8,RO⟩
  exact this.imp λ⟨a,b⟩=>by omega
 have J:=I.laid (t':=tk) (a:=l) (o:=.lst (ms.map V.int)) k1 k2 ⟨by
  rw[List.length_map,sizeLine_eq]
  have e1:=k7.length_eq
  have e2:=k4.length
  have e3:=k3.length_eq
  simp at e3
  omega,out,e,w9 k6,k5⟩
 exact⟨.ref l,_,J.yO (s':={ s with heap:=h',drawn:=d',toks:=tk }) (ch:=[]) rfl Un.refl J.au J.bare (λb hb=>by cases hb),rfl,q l ms (I.au.fresh k2) aU Fi⟩
end
end L2
namespace L2
open PySem PySem.Spec PyProof.Rows
section
variable {X:Cx}
end
end L2
namespace L2
open PySem PySem.Spec PyProof.Rows
mutual
noncomputable def mm:PyData->Bool
 | .tuple ds=>gZ ds
 | .list _=>false
 |_=>true
noncomputable def gZ:List PyData->Bool
 | []=>true
 |d::ds=>mm d&&gZ ds
end
section
variable {X:Cx} {pins:List (Addr×Obj)} {σ:St} {H:Hp} {s:Shared} {Z:Addr->Prop}
mutual
theorem DV.qB (I:Inv X pins σ H s):∀{d:PyData} {v:V} {u:Value},DV X.K Z H d v->RelV v u->mm d=true->∃as,Reads s.heap u d as/\sysModules∉as
 | .none,v,u,h,r,_=>by
  have e:v=.ay:=h
  subst e;cases r
  exact⟨[],.none,by simp⟩
 | .bool b,v,u,h,r,_=>by
  have e:v=.bl b:=h
  subst e;cases r
  exact⟨[],.bool b,by simp⟩
 | .int i,v,u,h,r,_=>by
  have e:v=.int i:=h
  subst e;obtain⟨t,rfl⟩:=r
  exact⟨[],.int i t,by simp⟩
 | .str x,v,u,h,r,_=>by
  have e:v=.str x:=h
  subst e;obtain⟨t,rfl⟩:=r
  exact⟨[],.str x t,by simp⟩
 | .tuple ds,v,u,h,r,hn=>by
  simp only[DV] at h
  obtain⟨a,xs,e,hq,hr⟩:=h
  subst e;cases r
  obtain⟨its,rv,⟨o,e,c,n,hd⟩,_⟩:=I.tuple hq
  obtain⟨as,rs,hs⟩:=ao.qB I hr rv (by simpa only [mm] using hn)
  exact⟨as,.tuple e c hd (by simpa using rs),hs⟩
 | .list ds,v,u,h,r,hn=>by
  simp only[mm] at hn
  cases hn
 | .dict ai,v,u,h,r,_=>by
  simp only[DV] at h
  obtain⟨a,es,e,_,hq,l,e1,e2⟩:=h
  subst e e1 e2;cases r
  obtain⟨_,rm,vs,kv,o,fv,ep,g1,g2,g3,_,g5,_⟩:=(show cb X.prog X.w H s.heap a (.dK _) from I.au a _ hq)
  obtain⟨r1,r2⟩:=tV (h:=s.heap) kv g5
  refine⟨a::[]++[],.dict g1 g2.1 g3 r1 r2,λhm=>?_⟩
  have e:sysModules=a:=by simpa using hm
  subst e
  simp at rm
theorem ao.qB (I:Inv X pins σ H s):∀{ds:List PyData} {vs:List V} {us:List Value},ao X.K Z H ds vs->Vals vs us->gZ ds=true->∃as,ReadsAll s.heap us ds as/\sysModules∉as
 | [],vs,us,h,r,_=>by
  have e:vs=[]:=h
  subst e;cases r
  exact⟨[],.nil,by simp⟩
 |d::ds,vs,us,h,r,hn=>by
  obtain⟨v,rr,e,h1,h2⟩:=h
  subst e
  simp only[gZ,Bool.and_eq_true] at hn
  cases r with
  |cons ru rt =>
   obtain⟨as,a1,n1⟩:=DV.qB I h1 ru hn.1
   obtain⟨bs,a2,n2⟩:=ao.qB I h2 rt hn.2
   refine⟨as++bs,.cons a1 a2,λhm=>?_⟩
   rcases List.mem_append.mp hm with z|z
   ·exact n1 z
   ·exact n2 z
end
end
section
variable {X:Cx}
theorem Jj {k:Nat} (hr:bV k X.A):bP X (.builtin "repr") (λxs H Q=>∃(x:V) (ds:List PyData) (Z:Addr->Prop),xs=[x]/\DV X.K Z H (.tuple ds) x/\(PyData.tuple ds).showable=true/\((PyData.tuple ds).hasDict=false\/gZ ds=true)/\(PyData.tuple ds).depth<=100/\(PyData.tuple ds).shown.length<=sizeLine/\Q (.str (PyData.tuple ds).shown) H):=by
 intro pins s σ H xs us Q I r h
 obtain⟨x,ds,Z,rfl,hd,hs,pG,sy,hz,q⟩:=h
 obtain⟨u,rfl,ru⟩:=vals1 r
 have wu:X.A.units+((PyData.tuple ds).depth+1)<cLine:=by have:=hr.un;omega
 have go:∀as,Reads s.heap u (.tuple ds) as->((PyData.tuple ds).hasDict=true->sysModules∉as)->wpAny (model X.prog X.w) X.A (call (.builtin "repr") [u]) (EP X pins σ Q) X.xe s:=λas rd Aq=>by
  obtain⟨a,e⟩:∃a,u=.ref a:=by cases rd;exact⟨_,rfl⟩
  subst e
  exact repr_of_reads' rd hs Aq hr.gd wu (λ_ _ e=>e) (λh' t tk hk=>⟨.str _,H,I.kept (t':=tk) hk,⟨t,rfl⟩,q⟩) hz
 rcases pG with e|e
 ·obtain⟨as,rd⟩:=hd.reads I ru
  exact go as rd λz=>by rw[e] at z;cases z
 ·obtain⟨as,rd,hn⟩:=hd.qB I ru (by simpa only [mm] using e)
  exact go as rd λ_=>hn
end
end L2
namespace HZ
open PySem PySem.Spec PyProof.Rows
open AutoSeq1 (wpAny_loadPart')
section
variable {P:Program} {w:World} {A:Around} {E:Value->Shared->Prop} {s:Shared}
theorem JZ {e it l:Addr} {tn:Nat->Heap->Prop} {val:Nat->Option Value} {k:Nat} {x old:Value} {Q:Value->Shared->Prop} (S1:iP P w A it l tn val) (ge:IsEnum s.heap e it k old) (h1:tn k s.heap) (hx:val k=some x) (bz:it≠e) (hle:l≠e)
  (q:∀h',IsEnumOut h' e it ((k:Int)+1) x s.heap.objs.size->tn (k+1) h'->h'.get? s.heap.objs.size=some { cls:=.type "tuple",data:=.seq #[.int k s.toks,x] }->h'.objs.size=s.heap.objs.size+1 ->
   (∀c o,c≠e->c≠it->s.heap.get? c=some o->h'.get? c=some o)->Q (.ref s.heap.objs.size) { s with heap:=h',toks:=s.toks+1 }) :
  wpAny (model P w) A (Builtin.«enumerate.__next__» ⟨[.ref e],[]⟩) (λfin s'=>∃v,fin=.done (.ret v)/\Q v s') E s:=by
 obtain⟨hp,gn,dr,tk,os⟩:=s
 show wpAny _ _ (field (.ref e) 2 >>= _) _ _ (_:Shared)
 refine wpAny_bind (wpAny_field ge rfl (x:=.ref it) rfl ?_)
 refine wpAny_bind (S1.item k _ _ _ x h1 hx λp1 t1 s1=>?_)
 have e1:IsEnum p1 e it k old:=s1.extBut _ _ bz.symm ge
 show wpAny _ _ (field (.ref e) 3 >>= _) _ _ (_:Shared)
 refine wpAny_bind (wpAny_field e1 rfl (x:=rawInt k) rfl ?_)
 show wpAny _ _ (field (.ref e) 4 >>= _) _ _ (_:Shared)
 refine wpAny_bind (wpAny_field e1 rfl (x:=.none) rfl ?_)
 show wpAny _ _ (mkInt k >>= _) _ _ (_:Shared)
 refine wpAny_bind (wpAny_mkInt ?_)
 show wpAny _ _ (setField (.ref e) 3 (rawInt ((k:Int)+1)) >>= _) _ _ (_:Shared)
 refine wpAny_bind (wpAny_setField_rec e1 (by simp) λp2 e2 s2=>?_)
 replace e2:IsEnum p2 e it ((k:Int)+1) old:=e2
 show wpAny _ _ (setField (.ref e) 4 .none >>= _) _ _ (_:Shared)
 refine wpAny_bind (wpAny_setField_rec e2 (by simp) λp3 e3 s3=>?_)
 replace e3:IsEnum p3 e it ((k:Int)+1) old:=e3
 show wpAny _ _ (newTuple [.int k tk,x] >>= _) _ _ (_:Shared)
 refine wpAny_bind (wpAny_newTuple ?_)
 have e4:IsEnum (p3.push { cls:=.type "tuple",data:=.seq #[.int k tk,x] }) e it ((k:Int)+1) old:=Heap.get?_push_of_some _ e3
 have gs:p3.objs.size=hp.objs.size:=by rw[s3.1,s2.1,s1.1]
 have lz:e<p3.objs.size:=Heap.lt_size e3
 show wpAny _ _ (Builtin.SmallTypes.ownedTupleIsFree (.ref e) >>= _) _ _ (_:Shared)
 refine wpAny_bind ?_
 unfold Builtin.SmallTypes.ownedTupleIsFree
 refine wpAny_bind (wpAny_field e4 rfl (x:=.none) rfl (wpAny_pure ?_))
 simp only[if_true]
 refine wpAny_bind (wpAny_rule ?_)
 refine wpAny_bind (wpAny_field e4 rfl (x:=old) rfl ?_)
 refine wpAny_bind (wpAny_setField_rec e4 (by simp) λp5 e5 s5=>?_)
 replace e5:IsEnum p5 e it ((k:Int)+1) x:=e5
 show wpAny _ _ (Builtin.SmallTypes.ownedTupleHandOut (.ref e) (.ref p3.objs.size) >>= _) _ _ (_:Shared)
 refine wpAny_bind ?_
 unfold Builtin.SmallTypes.ownedTupleHandOut
 refine wpAny_bind (wpAny_setField_rec e5 (by simp) λp6 e6 s6=>?_)
 replace e6:IsEnumOut p6 e it ((k:Int)+1) x p3.objs.size:=e6
 refine wpAny_setField_rec e6 (by simp) λp7 e7 s7=>?_
 replace e7:IsEnumOut p7 e it ((k:Int)+1) x p3.objs.size:=e7
 have up:∀c o,c≠e->p3.get? c=some o->p7.get? c=some o:=λc o c1 h=>s7.extBut _ _ c1 (s6.extBut _ _ c1 (s5.extBut _ _ c1 (Heap.get?_push_of_some _ h)))
 have t7:p7.get? p3.objs.size=some { cls:=.type "tuple",data:=.seq #[.int k tk,x] }:=s7.extBut _ _ (Nat.ne_of_gt lz) (s6.extBut _ _ (Nat.ne_of_gt lz) (s5.extBut _ _ (Nat.ne_of_gt lz) (Heap.get?_push_size _ rfl)))
 have n7:p7.objs.size=p3.objs.size+1:=by rw[s7.1,s6.1,s5.1,Heap.size_push]
 have k1:∀c o,c≠e->p1.get? c=some o->p3.get? c=some o:=λc o c1 h=>s3.extBut _ _ c1 (s2.extBut _ _ c1 h)
 rw[gs] at e7 t7 n7
 refine wpAny_bind (wpAny_letGo (wpAny_pure ⟨_,rfl,?_⟩))
 show Q (.ref p3.objs.size) _
 rw[gs]
 exact q p7 e7 (S1.keep _ _ _ t1 (λo h=>up _ o bz (k1 _ o bz h)) (λo h=>up _ o hle (k1 _ o hle h))) t7 n7 λc o c1 c2 h=>up c o c1 (k1 c o c1 (s1.extBut _ _ c2 h))
theorem J0 {e it l:Addr} {tn:Nat->Heap->Prop} {val:Nat->Option Value} {k:Nat} {x old:Value} {Q:Option Value->Shared->Prop} (S1:iP P w A.in1 it l tn val) (ge:IsEnum s.heap e it k old) (h1:tn k s.heap) (hx:val k=some x) (bz:it≠e) (hle:l≠e)
  (q:∀h',IsEnumOut h' e it ((k:Int)+1) x s.heap.objs.size->tn (k+1) h'->h'.get? s.heap.objs.size=some { cls:=.type "tuple",data:=.seq #[.int k s.toks,x] }->h'.objs.size=s.heap.objs.size+1 ->
   (∀c o,c≠e->c≠it->s.heap.get? c=some o->h'.get? c=some o)->Q (some (.ref s.heap.objs.size)) { s with heap:=h',toks:=s.toks+1 }):wpAny (model P w) A (pyNext (.ref e)) Q E s:=by
 have hT:s.TypeIs (.ref e) "enumerate":=⟨_,ge,rfl⟩
 unfold pyNext
 exact wpAny_bind (wpAny_attempt (wpAny_callSpecial?_slot (name:=Str.ofString "__next__") hT F.slot_enumerate_next
  (wpAny_call_entry F.slot_enumerate_next hT F.entry_enumerate_next (JZ S1 ge h1 hx bz hle λh' a1 a2 a3 a4 a5=>wpAny_pure (q h' a1 a2 a3 a4 a5)) (F.args_enumerate_next_1 _))))
theorem Lh {e it l:Addr} {tn:Nat->Heap->Prop} {val:Nat->Option Value} {k:Nat} {old:Value} {Q:Option Value->Shared->Prop} (S1:iP P w A.in1 it l tn val) (ge:IsEnum s.heap e it k old) (h1:tn k s.heap) (hx:val k=none)
  (q:∀h',Heap.ExtBut it s.heap h'->Q none { s with heap:=h' }):wpAny (model P w) A (pyNext (.ref e)) Q E s:=by
 have hT:s.TypeIs (.ref e) "enumerate":=⟨_,ge,rfl⟩
 unfold pyNext
 refine wpAny_bind (wpAny_attempt (wpAny_callSpecial?_slot (name:=Str.ofString "__next__") hT F.slot_enumerate_next
  (wpAny_call_entry F.slot_enumerate_next hT F.entry_enumerate_next ?_ (F.args_enumerate_next_1 _))))
 show wpAny _ _ (field (.ref e) 2 >>= _) _ _ (_:Shared)
 refine wpAny_bind (wpAny_field ge rfl (x:=.ref it) rfl ?_)
 refine wpAny_bind (S1.stop k _ _ _ h1 hx λh' x he rY=>?_)
 obtain⟨o,ho,hc⟩:=rY
 exact wpAny_bind (wpAny_isInstance (T:="StopIteration") (b:=true) ⟨o,ho,hc⟩ isSubtype_stop (wpAny_pure (q _ he)))
theorem Li (l:Addr) (items:Array Value) (n:Nat) (aY:Option Addr) (sl:Array (Option Value)) :
  Meets (Builtin.«enumerate.__new__» ⟨[.type "enumerate",.ref l],[]⟩) (λ_ R s=>s.heap.get? l=some { cls:=.type "tuple",dict:=aY,data:=.seq items n,slots:=sl } /\
   R (.ok (.ret (.ref (s.heap.push { cls:=.type "tuple_iterator",data:=.fields #[.ref l,.int 0 0] }).objs.size)))
    { s with heap:=(s.heap.push { cls:=.type "tuple_iterator",data:=.fields #[.ref l,.int 0 0] }).push { cls:=.type "enumerate",data:=.fields #[.none,.bool false,.ref s.heap.objs.size,rawInt 0,.none,.none] } }) :=
 .of_wp λprog w A R s h=>by
  obtain⟨h1,h2,h3,h4,h5⟩:=s;obtain⟨hl,h⟩:=h
  have ss:=sub_enumerate
  have hL:Heap.IsTuple (Shared.heap ⟨h1,h2,h3,h4,h5⟩) l items:=⟨_,hl,rfl,n,rfl⟩
  wp_walk using wpAny_loadPart' hl
  refine wpAny_stack_any λst=>wpAny_pure ?_
  split
  ·rename_i c _ _ _ _ _
   cases (c==Value.type "enumerate")
   ·wp_walk using wpAny_loadPart' hl,wpAny_pyIter_tuple hL
    exact⟨_,rfl,h⟩
   ·wp_walk using wpAny_loadPart' hl,wpAny_pyIter_tuple hL
    exact⟨_,rfl,h⟩
  ·wp_walk using wpAny_loadPart' hl,wpAny_pyIter_tuple hL
   exact⟨_,rfl,h⟩
theorem HR {l:Addr} {items:Array Value} {Q:Value->Shared->Prop} (hL:s.heap.IsTuple l items)
  (h:∀h',IsEnum h' (s.heap.objs.size+1) s.heap.objs.size 0 .none->h'.IsTupleIter s.heap.objs.size l 0->h'.objs.size=s.heap.objs.size+2 ->
   (∀b o,s.heap.get? b=some o->h'.get? b=some o)->Q (.ref (s.heap.objs.size+1)) { s with heap:=h' }) :
  wpAny (model P w) A (call (.type "enumerate") [.ref l]) Q E s:=by
 obtain⟨⟨c,aY,dt,sl⟩,hl,hc,n,hd⟩:=hL
 replace hc:c=.type "tuple":=hc
 replace hd:dt=.seq items n:=hd
 subst hc hd
 refine callType_new F.called_enumerate (by decide) (F.typeCall_enumerate_1 _) (F.newCall_enumerate_1 _) (λobj=>F.args_object_init_2 obj _) F.entry_enumerate_new
  (Li l items n aY sl) ⟨hl,?_⟩
 have hz:(s.heap.push { cls:=.type "tuple_iterator",data:=.fields #[.ref l,.int 0 0] }).objs.size=s.heap.objs.size+1:=Heap.size_push ..
 have he:=Heap.get?_push_size (s.heap.push { cls:=.type "tuple_iterator",data:=.fields #[.ref l,.int 0 0] })
   (o:={ cls:=.type "enumerate",data:=.fields #[.none,.bool false,.ref s.heap.objs.size,rawInt 0,.none,.none] }) rfl
 show _/\_
 rw[hz] at he |-
 exact⟨⟨_,he,rfl⟩,h _ he ⟨_,Heap.get?_push_of_some _ (Heap.get?_push_size _ rfl),rfl,rfl⟩ (by rw[Heap.size_push,hz]) λb o x=>Heap.get?_push_of_some _ (Heap.get?_push_of_some _ x)⟩
end
end HZ
namespace L2
open PySem PySem.Spec PyProof.Rows
noncomputable def zL (K:Frag) (a:Addr):It :=
 ⟨λi H=>∃xs x,aP K H a xs/\xs[i]?=some x,λi H v H'=>∃p x,H p=none/\v=.ref p/\H'=upd H p (.tup [.int i,x])/\∀xs,aP K H a xs->xs[i]?=some x,λi H=>∃xs,aP K H a xs/\xs.length<=i⟩
theorem Jk {P:Program} {w:World} {K:Frag} {elts:List Expr} {kk:Nat} {pos:Pos} (a e it:Addr) (bz:it≠e) :
  Turn P w K (.Tuple elts kk pos) (zL K a) [e,it] e (λi h=>(∃old,IsEnum h e it i old)/\h.IsTupleIter it a i) where
 mem:=by simp
 obj:=λi h st c hc=>by
  have j4:c=e\/c=it:=by simpa using hc
  rcases j4 with rfl|rfl
  ·obtain⟨old,q⟩:=st.1;exact⟨_,q,λv q=>nomatch q⟩
  ·obtain⟨o,e,_,d⟩:=st.2;exact⟨o,e,λv q=>by rw[d] at q;cases q⟩
 keep:=λi h h' st k=>⟨by obtain⟨old,q⟩:=st.1;exact⟨old,k e (by simp) _ q⟩,st.2.at λo q=>k it (by simp) o q⟩
 item:=by
  intro X hP hw hK hc i pins s σ H E I hf st hg
  subst hP hw hK
  obtain⟨xs,x,hx,ex⟩:=hg
  obtain⟨i1,r1,p1,z1⟩:=I.tuple hx
  obtain⟨u,eu,ru⟩:=r1.get ex
  have hh:X.A.in1.handled=none:=I.ok.hd hc
  obtain⟨old,he⟩:=st.1
  refine HZ.J0 (HZ.ot hh it a i1.toArray) he ⟨st.2,p1⟩ (by simpa using eu) bz (qA I hx (hf e (by simp))) λh' c1 c2 c3 c4 c5=>⟨_,rfl,?_⟩
  refine wpAny_letOwnedTupleGo_enum c1 λh2 d1 d2=>?_
  have hn:H s.heap.objs.size=none:=I.au.fresh (Nat.le_refl _)
  have wz:e<s.heap.objs.size:=Heap.lt_size he
  have lS:IsTup h2 s.heap.objs.size #[.int i s.toks,u]:=⟨_,d2.extBut _ _ (Nat.ne_of_gt wz) c3,rfl,_,rfl⟩
  have I2:Inv X pins σ (upd H s.heap.objs.size (.tup [.int i,x])) { s with heap:=h2,toks:=s.toks+1 }:=I.CU (ch:=[e,it]) (λc o nH q=>by
   have z:c≠e/\c≠it:=by simpa using nH
   exact d2.extBut c o z.1 (c5 c o z.1 z.2 q)) hf (Nat.le_refl _) ⟨by show 2<=sizeLine;decide,[.int i s.toks,u],.cons ⟨_,rfl⟩ (.cons ru .nil),lS⟩
  refine⟨.ref s.heap.objs.size,_,I2,rfl,⟨_,x,hn,rfl,rfl,λSM q1=>?_⟩,?_,λc jw=>?_⟩
  ·rw[I.uj q1 hx];exact ex
  ·exact⟨⟨_,d1⟩,c2.1.extBut d2.extBut bz⟩
  ·rw[bc]
   ·exact(hf c jw).1
   ·intro z
    have j4:c=e\/c=it:=by simpa using jw
    have:c<s.heap.objs.size:=by
     rcases j4 with q|q
     ·rw[q];exact wz
     ·rw[q];obtain⟨o,g,_⟩:=st.2;exact Heap.lt_size g
    rw[z] at this
    exact Nat.lt_irrefl _ this
 done:=by
  intro X hP hw hK hc i pins s σ H E I hf st hg
  subst hP hw hK
  obtain⟨xs,hx,hle⟩:=hg
  obtain⟨i1,r1,p1,z1⟩:=I.tuple hx
  have hh:X.A.in1.handled=none:=I.ok.hd hc
  have l1:=r1.length
  obtain⟨old,he⟩:=st.1
  refine HZ.Lh (HZ.ot hh it a i1.toArray) he ⟨st.2,p1⟩ (by simp;omega) λh' c7=>⟨rfl,I.xk (t':=s.toks) (ch:=[e,it]) (λc o nH q=>by
   have z:c≠e/\c≠it:=by simpa using nH
   exact c7 c o z.2 q) hf⟩
 self:=λA i s Q E st h=>by
  obtain⟨old,he⟩:=st.1
  exact wpAny_pyIter_enum he h
section
variable {X:Cx} {elts:List Expr} {kk:Nat} {tp:Pos}
noncomputable def RP (K:Frag) (ta:TA):TI:=fun σ H R=>ta σ H λvs H1=>∃a xs,vs=[.ref a]/\aP K H1 a xs/\R (zL K a) H1
theorem J1:bootBuiltins "enumerate"=some (.type "enumerate"):=by decide +kernel
theorem Lj {a:Expr} {ta:TA} {p pos:Pos} (hg:Gl X "enumerate") (hm:X.mg "enumerate"=none) (ha:PA X [a] ta) (hs:starEach [a] X.env=[(false,eval a X.env)]:=by rfl) :
  PI X (.Tuple elts kk tp) (.Call (.Name "enumerate" p) [a] [] pos) (RP X.K ta):=by
 intro pins s σ H R I h
 refine Call_ (lE I hg hm J1 (PyProof.Rows.callWith_type1 (aA (ha pos pins s σ H _ I h) λus s1 ⟨vs,H1,I1,r1,q1⟩=>?_) hs rfl))
 obtain⟨a,xs,e,hx,q⟩:=q1
 subst e
 obtain⟨u,rfl,ru⟩:=vals1 r1
 cases ru
 obtain⟨i1,_,p1,_⟩:=I1.tuple hx
 refine HZ.HR (items:=i1.toArray) p1 λh' c1 c2 c3 c4=>?_
 refine wpAny_pyIter_enum (s:={ s1 with heap:=h' }) c1 ?_
 refine⟨_,[s1.heap.objs.size+1,s1.heap.objs.size],_,_,H1,rfl,I1.kept (t':=s1.toks) c4,Jk a _ _ (Nat.ne_of_lt (Nat.lt_succ_self _)),⟨⟨_,c1⟩,c2⟩,λb hb=>?_,q⟩
 have dC:s1.heap.objs.size<=b:=by
  have z:b=s1.heap.objs.size+1\/b=s1.heap.objs.size:=by simpa using hb
  rcases z with z|z
  ·rw[z];exact Nat.le_succ _
  ·rw[z];exact Nat.le_refl _
 exact I1.kM dC (I1.au.fresh dC)
end
end L2
namespace L2
open PySem PySem.Spec PyProof.Rows
section
variable {K:Frag} {caps:St} {H:Hp} {tf:TT} {te:TE} {Q:VK}
end
end L2
namespace HZ
open PySem PySem.Spec PyProof.Rows
theorem Hv:fillsNumberSlot (.type "tuple") "mul"=pure false:=by
 first|rfl | (unfold fillsNumberSlot;kernel_rfl)|kernel_rfl
theorem Ic:seqRepeat? (.type "tuple")=pure (some (.builtin "tuple.__mul__")):=by
 first|rfl|kernel_rfl
theorem Jl (a:Int) (t:Tok) (l:Addr) (items:Array Value) (n:Nat) (d:Option Addr) (sl:Array (Option Value)) :
  Meets (Builtin.«int.__rmul__» ⟨[.int a t,.ref l],[]⟩) (λ_ R s=>s.heap.get? l=some { cls:=.type "tuple",dict:=d,data:=.seq items n,slots:=sl }/\R (.ok (.ret Value.notImplemented)) s) :=
 .of_wp λprog w A R s h=>by
  obtain⟨h1,h2,h3,h4,h5⟩:=s;obtain⟨hl,h⟩:=h;wp_walk;exact⟨_,rfl,h⟩
section
variable {P:Program} {w:World} {A:Around} {E:Value->Shared->Prop} {s:Shared}
theorem MJ {t:Addr} {vs:List Value} {k:Int} {tk:Tok} {Q:Value->Shared->Prop} (ht:IsTup s.heap t vs.toArray) (hv:vs≠[]) (hk:1<=k) (hz:vs.length*k.toNat<=sizeLine)
  (h1:k=1->Q (.ref t) s) (h2:k≠1->Q (.ref s.heap.objs.size) { s with heap:=s.heap.push { cls:=.type "tuple",data:=.seq (List.replicate k.toNat vs).flatten.toArray } }) :
  wpAny (model P w) A (binaryOp .Mult (.ref t) (.int k tk)) Q E s:=by
 obtain⟨⟨cls,dd,data,sl⟩,ho,hc,n,hd⟩:=id ht
 simp only at hc hd
 subst hc hd
 have ef:k<=16777216:=by
  have hl:1<=vs.length:=by
   cases vs with
   |nil=>exact absurd rfl hv
   |cons a r=>simp
  have j6:vs.length*k.toNat<=16777216:=by rw[<- sizeLine_eq];exact hz
  have:1*k.toNat<=vs.length*k.toNat:=Nat.mul_le_mul_right _ hl
  omega
 refine wpAny_binaryOp_repeat_ref (T:="tuple") (U:="int") (by decide) ⟨_,ho,rfl⟩ (λs'=>typeIs_int s' k tk) Hv F.fills_int_mul F.slot_int_rmul Ic F.slot_int_index.lookup
  (call_meets F.slot_int_rmul (typeIs_int s k tk) F.entry_int_rmul (F.args_int_rmul_2 _ _) (Jl k tk t vs.toArray n dd sl) ⟨ho,rfl,⟨_,ho,rfl⟩,?_⟩)
 refine wpAny_call_entry F.slot_tuple_mul ⟨_,ho,rfl⟩ F.entry_tuple_mul ?_ (F.args_tuple_mul_2 _ _)
 show wpAny _ _ (asIndex (.int k tk) >>= _) _ _ _
 refine wpAny_bind ?_
 refine wpAny_of_eq (a:=k) (by first|rfl | (unfold asIndex;rfl)) ?_
 dsimp only
 rw[if_neg (by simp;omega)]
 unfold Builtin.Tuple.tupleItemsOf
 refine wpAny_bind (wpAny_bind (wpAny_seqItems ho rfl ?_))
 refine wpAny_pure ?_
 have ne:vs.toArray.isEmpty=false:=by
  cases vs with
  |nil=>exact absurd rfl hv
  |cons a r=>simp
 by_cases h:k=1
 ·rw[if_pos (by rw[h];simp)]
  unfold Builtin.Tuple.tupleIsExact
  refine wpAny_bind (wpAny_bind (wpAny_typeOf (T:="tuple") ⟨_,ho,rfl⟩ (wpAny_pure ?_)))
  rw[if_pos (by decide)]
  exact wpAny_bind (wpAny_rule (wpAny_pure ⟨_,rfl,h1 h⟩))
 ·rw[if_neg (by rw[ne];simp[h])]
  rw[if_neg (by rw[ne];simp;omega)]
  have hm:(vs.toArray.size:Int)*k=((vs.length*k.toNat:Nat):Int):=by
   rw[List.size_toArray,Int.natCast_mul]
   congr 1
   omega
  have Tb:vs.length*k.toNat<=16777216:=by rw[<- sizeLine_eq];exact hz
  rw[if_neg (by rw[hm];omega)]
  rw[if_neg (by
   unfold Builtin.Tuple.tupleTooMany
   rw[hm,sizeLine_eq,decide_eq_true_eq]
   generalize vs.length*k.toNat=q at Tb
   omega)]
  unfold Builtin.Tuple.tupleExact
  have e:List.foldl (λx1 x2=>x1++x2) #[] (List.replicate k.toNat vs.toArray)=(List.replicate k.toNat vs).flatten.toArray:=by
   have:=L2.foldl_rep vs k.toNat []
   rw[List.nil_append] at this
   exact this
  rw[e]
  refine wpAny_bind (wpAny_newObj_type ?_ (by
   show (List.toArray _).size<=sizeLine
   rw[List.size_toArray,L2.len_rep,Nat.mul_comm]
   exact hz))
  exact wpAny_pure ⟨_,rfl,h2 h⟩
end
end HZ
namespace L2
open PySem PySem.Spec PyProof.Rows
section
variable {X:Cx}
noncomputable def Ql (K:Frag):R2:=λx y H Q=>∃a xs k,x=.ref a/\y=.int k/\aP K H a xs/\xs≠[]/\1<=k/\xs.length*k.toNat<=sizeLine/\kO K H (List.replicate k.toNat xs).flatten Q
theorem MK:aW X (binaryOp .Mult) (Ql X.K):=by
 intro pins s σ H x y v u Q I rx ry h
 obtain⟨a,xs,k,rfl,rfl,hs,hx,hk,hz,q⟩:=h
 cases rx
 obtain⟨t,rfl⟩:=ry
 obtain⟨its,r,p,z⟩:=I.tuple hs
 have hl:=r.length
 refine HZ.MJ p (λe=>hx (by rw[e] at hl;exact List.length_eq_zero_iff.mp hl)) hk (by rw[<- hl];exact hz) (λe=>?_) (λ_=>?_)
 ·have e1:(List.replicate k.toNat xs).flatten=xs:=by rw[e];simp
  rw[e1] at q
  exact⟨.ref a,H,I,rfl,q.here hs⟩
 ·have j6:(List.replicate k.toNat xs).flatten.length<=sizeLine:=by rw[len_rep,Nat.mul_comm];exact hz
  exact⟨.ref _,_,I.laid (t':=s.toks) (o:=.tup (List.replicate k.toNat xs).flatten) (λb o e=>Heap.get?_push_of_some _ e) (Nat.le_refl _) ⟨j6,_,r.rep k.toNat,⟨_,Heap.get?_push_size _ rfl,rfl,_,rfl⟩⟩,rfl,q.new (I.au.fresh (Nat.le_refl _))⟩
end
end L2
namespace HZ
open PySem PySem.Spec PyProof.Rows
section
variable {P:Program} {w:World} {A:Around} {E:Value->Shared->Prop} {s:Shared}
end
end HZ
namespace L2
open PySem PySem.Spec PyProof.Rows
section
variable {X:Cx} {tg:Expr}
theorem Cj:bP X (.type "range") (λxs H Q=>∃j:Int,xs=[.int j]/\∀p,H p=none->Q (.ref p) (upd H p (.bF 0 j))):=by
 intro pins s σ H xs us Q I r h
 obtain⟨j,rfl,q⟩:=h
 obtain⟨u,rfl,ru⟩:=vals1 r
 obtain⟨t,rfl⟩:=ru
 exact call_range_1 ⟨.ref _,_,I.laid (o:=.bF 0 j) (t':=s.toks+1+1) (λb o e=>Heap.get?_push_of_some _ e) (Nat.le_refl _) ⟨_,_,_,Heap.get?_push_size _ rfl⟩,rfl,q _ (I.au.fresh (Nat.le_refl _))⟩
end
end L2
namespace HZ
open PySem PySem.Spec PyProof.Rows
section
variable {P:Program} {w:World} {A:Around} {R:Result->Shared->Prop} {I:Addr} {fp wr:List Addr} {n:Nat} {Pv:Nat->Value->Prop} {St:Nat->Heap->Prop} {kw:List (Str×Value)}
end
end HZ
namespace HZ
open PySem PySem.Spec PyProof.Rows
section
variable {P:Program} {w:World} {A:Around} {E:Value->Shared->Prop} {s:Shared}
end
end HZ
namespace L2
open PySem PySem.Spec PyProof.Rows
section
variable {X:Cx} {p pos kp:Pos} {e d:Expr} {ta tk:TA}
end
end L2
namespace DI
open PySem L2
set_option genInjectivity true in
inductive D where
 |ay|bl (b:Bool)|int (i:Int)|str (x:Str)|tup (ds:List D)|lst (ds:List D)|aY (ai:List (Key×Int))|ar (k:Nat)|ty (n:String)|bS (ns:List Int)
set_option genInjectivity true in
inductive Cell where
 |dead|lst (ds:List D)|dK (ai:List (Key×D))
noncomputable abbrev aa:=List Cell
noncomputable abbrev Env:=List (Option D)
structure bD where
 c:Str
 many:Option D
noncomputable abbrev Res (α:Type):=Option (Except bD α×aa)
noncomputable abbrev ok {α:Type} (a:α) (s:aa):Res α:=some (.ok a,s)
noncomputable def ak {α β:Type} (r:Res α) (k:α->aa->Res β):Res β:=match r with
 |some (.ok a,s)=>k a s
 |some (.error x,s)=>some (.error x,s)
 |none=>none
@[simp] theorem eG {α β:Type} {a:α} {s:aa} {k:α->aa->Res β}:ak (some (.ok a,s)) k=k a s:=rfl
structure Wd where
 ρ:List Addr
 aC:aa
 H:Hp
def Wd.Z (w:Wd) (a:Addr):Prop:=∃(k:Nat) (c:Cell),w.ρ[k]?=some a/\w.aC[k]?=some c/\c≠.dead
def LstAt (w:Wd) (a:Addr) (xs:List V):Prop:=¬ w.Z a/\w.H a=some (.lst xs)
theorem LstAt.sq {K:Frag} {w:Wd} {a:Addr} {xs:List V} (h:LstAt w a xs):bx K w.H a xs:=bx.of h.2
def qO (K:Frag) (w:Wd) (a:Addr) (xs:List V):Prop:=(¬ w.Z a/\Rd w.H a (.lst xs)) \/
 ∃(o:Obj) (its:Array Value) (n:Nat),K.lookup a=some o/\o.cls=.type "list"/\o.dict=none/\o.data=.seq its n/\its.size<=sizeLine/\Vals xs its.toList
theorem qO.sq {K:Frag} {w:Wd} {a:Addr} {xs:List V} (h:qO K w a xs):bx K w.H a xs:=by
 rcases h with ⟨_,h⟩|h
 ·exact .inl h
 ·exact .inr h
mutual
noncomputable def DV (K:Frag) (w:Wd):D->V->Prop
 | .ay,v=>v=.ay
 | .bl b,v=>v=.bl b
 | .int i,v=>v=.int i
 | .str x,v=>v=.str x
 | .tup ds,v=>∃a xs,v=.ref a/\aP K w.H a xs/\ao K w ds xs
 | .lst ds,v=>∃a xs,v=.ref a/\LstAt w a xs/\ao K w ds xs
 | .aY ai,v=>∃a,v=.ref a/\¬ w.Z a/\w.H a=some (.dK (ai.map λp=>(p.1,V.int p.2)))
 | .ar k,v=>∃a,w.ρ[k]?=some a/\v=.ref a
 | .ty n,v=>v=.ty n
 | .bS ns,v=>∃a,v=.ref a/\qO K w a (ns.map V.int)
noncomputable def ao (K:Frag) (w:Wd):List D->List V->Prop
 | [],vs=>vs=[]
 |d::ds,vs=>∃v r,vs=v::r/\DV K w d v/\ao K w ds r
end
structure Fw (K:Frag) (w w':Wd):Prop where
 AB:∀(k:Nat) a,w.ρ[k]?=some a->w'.ρ[k]?=some a
 tup:∀a xs,aP K w.H a xs->aP K w'.H a xs
 lst:∀a xs,¬ w.Z a->w.H a=some (.lst xs)->¬ w'.Z a/\w'.H a=some (.lst xs)
 cW:∀a o xs,¬ w.Z a->w.H a=some (.cW o (.lst xs))->¬ w'.Z a/\w'.H a=some (.cW o (.lst xs))
 aY:∀a es,¬ w.Z a->w.H a=some (.dK es)->¬ w'.Z a/\w'.H a=some (.dK es)
theorem Fw.Fj {K:Frag} {w w':Wd} (S:Fw K w w') {a:Addr} {xs:List V} (h:LstAt w a xs):LstAt w' a xs:=S.lst a xs h.1 h.2
theorem Fw.Qm {K:Frag} {w w':Wd} (S:Fw K w w') {a:Addr} {xs:List V} (h:qO K w a xs):qO K w' a xs:=by
 rcases h with ⟨h1,h2 | ⟨o,h2⟩⟩|h
 ·have q:=S.lst a xs h1 h2
  exact .inl ⟨q.1,.inl q.2⟩
 ·have q:=S.cW a o xs h1 h2
  exact .inl ⟨q.1,.inr ⟨o,q.2⟩⟩
 ·exact .inr h
mutual
theorem DV.fw {K:Frag} {w w':Wd} (S:Fw K w w'):∀{d:D} {v:V},DV K w d v->DV K w' d v
 | .ay,_,h=>h
 | .bl _,_,h=>h
 | .int _,_,h=>h
 | .str _,_,h=>h
 | .tup ds,v,h=>by
  simp only[DV] at h |-
  obtain⟨a,xs,e,hq,r⟩:=h
  exact⟨a,xs,e,S.tup a xs hq,ao.fw S r⟩
 | .lst ds,v,h=>by
  simp only[DV] at h |-
  obtain⟨a,xs,e,hq,r⟩:=h
  exact⟨a,xs,e,S.Fj hq,ao.fw S r⟩
 | .aY ai,v,h=>by
  simp only[DV] at h |-
  obtain⟨a,e,hz,hq⟩:=h
  obtain⟨h1,h2⟩:=S.aY a _ hz hq
  exact⟨a,e,h1,h2⟩
 | .ar k,v,h=>by
  simp only[DV] at h |-
  obtain⟨a,e,e2⟩:=h
  exact⟨a,S.AB k a e,e2⟩
 | .ty _,_,h=>h
 | .bS ns,v,h=>by
  simp only[DV] at h |-
  obtain⟨a,e,hq⟩:=h
  exact⟨a,e,S.Qm hq⟩
theorem ao.fw {K:Frag} {w w':Wd} (S:Fw K w w'):∀{ds:List D} {vs:List V},ao K w ds vs->ao K w' ds vs
 | [],_,h=>h
 |d::ds,vs,h=>by
  simp only[ao] at h |-
  obtain⟨v,r,e,h1,h2⟩:=h
  exact⟨v,r,e,DV.fw S h1,ao.fw S h2⟩
end
structure Le (K:Frag) (w w':Wd):Prop where
 dv:∀d v,DV K w d v->DV K w' d v
 lst:∀a xs,LstAt w a xs->LstAt w' a xs
 tup:∀a xs,aP K w.H a xs->aP K w'.H a xs
noncomputable instance {K:Frag} {w w':Wd}:CoeFun (Le K w w') (λ_=>∀d v,DV K w d v->DV K w' d v):=⟨Le.dv⟩
theorem Le.refl {K:Frag} (w:Wd):Le K w w:=⟨λ_ _ h=>h,λ_ _ h=>h,λ_ _ h=>h⟩
theorem Le.trans {K:Frag} {a b c:Wd} (h:Le K a b) (g:Le K b c):Le K a c:=⟨λd v x=>g.dv d v (h.dv d v x),λp xs x=>g.lst p xs (h.lst p xs x),λp xs x=>g.tup p xs (h.tup p xs x)⟩
theorem Fw.le {K:Frag} {w w':Wd} (S:Fw K w w'):Le K w w':=⟨λ_ _ h=>h.fw S,λ_ _ h=>S.Fj h,S.tup⟩
theorem Le.all {K:Frag} {w w':Wd} (h:Le K w w'):∀{ds:List D} {vs:List V},ao K w ds vs->ao K w' ds vs
 | [],_,x=>x
 |d::ds,vs,x=>by
  simp only[ao] at x |-
  obtain⟨v,r,e,h1,h2⟩:=x
  exact⟨v,r,e,h d v h1,Le.all h h2⟩
theorem ao.length {K:Frag} {w:Wd}:∀{ds:List D} {vs:List V},ao K w ds vs->ds.length=vs.length
 | [],vs,h=>by
  have e:vs=[]:=h
  subst e
  rfl
 |d::ds,vs,h=>by
  obtain⟨v,r,e,_,h2⟩:=h
  subst e
  simp[ao.length h2]
theorem ao.get {K:Frag} {w:Wd}:∀{ds:List D} {vs:List V},ao K w ds vs->∀(i:Nat) v,vs[i]?=some v->∃d,ds[i]?=some d/\DV K w d v
 | [],vs,h,i,v,e=>by
  have e':vs=[]:=h
  subst e'
  simp at e
 |d::ds,vs,h,i,v,e=>by
  obtain⟨u,r,e',h1,h2⟩:=h
  subst e'
  cases i with
  |zero =>
   have:u=v:=by simpa using e
   subst this
   exact⟨d,rfl,h1⟩
  |succ i=>exact ao.get h2 i v (by simpa using e)
theorem ao.get' {K:Frag} {w:Wd}:∀{ds:List D} {vs:List V},ao K w ds vs->∀(i:Nat) d,ds[i]?=some d->∃v,vs[i]?=some v/\DV K w d v
 | [],vs,h,i,d,e=>by simp at e
 |d::ds,vs,h,i,d',e=>by
  obtain⟨u,r,e',h1,h2⟩:=h
  subst e'
  cases i with
  |zero =>
   have:d=d':=by simpa using e
   subst this
   exact⟨u,rfl,h1⟩
  |succ i=>exact ao.get' h2 i d' (by simpa using e)
theorem ao.append {K:Frag} {w:Wd}:∀{ds es:List D} {vs ws:List V},ao K w ds vs->ao K w es ws->ao K w (ds++es) (vs++ws)
 | [],es,vs,ws,h,h'=>by
  have e:vs=[]:=h
  subst e
  exact h'
 |d::ds,es,vs,ws,h,h'=>by
  obtain⟨v,r,e,h1,h2⟩:=h
  subst e
  exact⟨v,r++ws,rfl,h1,ao.append h2 h'⟩
theorem ao.take {K:Frag} {w:Wd}:∀{ds:List D} {vs:List V} (n:Nat),ao K w ds vs->ao K w (ds.take n) (vs.take n)
 | [],vs,n,h=>by
  have e:vs=[]:=h
  subst e
  simp[ao]
 |d::ds,vs,0,h=>by simp[ao]
 |d::ds,vs,n+1,h=>by
  obtain⟨v,r,e,h1,h2⟩:=h
  subst e
  exact⟨v,r.take n,rfl,h1,ao.take n h2⟩
theorem ao.drop {K:Frag} {w:Wd}:∀{ds:List D} {vs:List V} (n:Nat),ao K w ds vs->ao K w (ds.drop n) (vs.drop n)
 | [],vs,n,h=>by
  have e:vs=[]:=h
  subst e
  simp[ao]
 |d::ds,vs,0,h=>h
 |d::ds,vs,n+1,h=>by
  obtain⟨v,r,e,h1,h2⟩:=h
  subst e
  exact ao.drop n h2
theorem ao.reverse {K:Frag} {w:Wd}:∀{ds:List D} {vs:List V},ao K w ds vs->ao K w ds.reverse vs.reverse
 | [],vs,h=>by
  have e:vs=[]:=h
  subst e
  simp[ao]
 |d::ds,vs,h=>by
  obtain⟨v,r,e,h1,h2⟩:=h
  subst e
  rw[List.reverse_cons,List.reverse_cons]
  exact ao.append (ao.reverse h2) ⟨v,[],rfl,h1,rfl⟩
theorem ao.set {K:Frag} {w:Wd} {d:D} {v:V} (hd:DV K w d v):∀{ds:List D} {vs:List V} (i:Nat),ao K w ds vs->ao K w (ds.set i d) (vs.set i v)
 | [],vs,i,h=>by
  have e:vs=[]:=h
  subst e
  simp[ao]
 |d'::ds,vs,0,h=>by
  obtain⟨u,r,e,h1,h2⟩:=h
  subst e
  exact⟨v,r,rfl,hd,h2⟩
 |d'::ds,vs,i+1,h=>by
  obtain⟨u,r,e,h1,h2⟩:=h
  subst e
  exact⟨u,r.set i v,rfl,h1,ao.set hd i h2⟩
theorem ao.one {K:Frag} {w:Wd} {d:D} {v:V} (h:DV K w d v):ao K w [d] [v]:=⟨v,[],rfl,h,rfl⟩
theorem ao.two {K:Frag} {w:Wd} {d d':D} {v v':V} (h:DV K w d v) (h':DV K w d' v'):ao K w [d,d'] [v,v']:=⟨v,_,rfl,h,ao.one h'⟩
theorem ao.ints {K:Frag} {w:Wd}:∀(ns:List Int),ao K w (ns.map D.int) (ns.map V.int)
 | []=>rfl
 |n::ns=>⟨.int n,_,rfl,rfl,ao.ints ns⟩
theorem ao.Dm {K:Frag} {w:Wd}:∀{ns:List Int} {vs:List V},ao K w (ns.map D.int) vs->vs=ns.map V.int
 | [],_,h=>h
 |n::ns,vs,h=>by
  obtain⟨v,r,e,h1,h2⟩:=h
  have e1:v=.int n:=h1
  rw[e,e1,ao.Dm h2]
  rfl
theorem ao.ya {K:Frag} {w:Wd}:∀{bs:List Bool} {vs:List V},ao K w (bs.map D.bl) vs->vs=bs.map V.bl
 | [],_,h=>h
 |n::ns,vs,h=>by
  obtain⟨v,r,e,h1,h2⟩:=h
  have e1:v=.bl n:=h1
  rw[e,e1,ao.ya h2]
  rfl
noncomputable def oC (K:Frag) (w:Wd) (a:Addr):Cell->Prop
 | .dead=>True
 | .lst ds=>∃xs,w.H a=some (.lst xs)/\ao K w ds xs
 | .dK ai=>∃es:List (Key×V),w.H a=some (.dK es)/\es.map (·.1)=ai.map (·.1)/\ao K w (ai.map (·.2)) (es.map (·.2))
structure aH (K:Frag) (w:Wd):Prop where
 len:w.ρ.length=w.aC.length
 nd:w.ρ.Nodup
 there:∀(k:Nat) a,w.ρ[k]?=some a->w.H a≠none
 cell:∀(k:Nat) a c,w.ρ[k]?=some a->w.aC[k]?=some c->oC K w a c
theorem oC.le {K:Frag} {w w':Wd} {a:Addr} {c:Cell} (h:oC K w a c) (le:Le K w w') (e:c≠.dead->w'.H a=w.H a):oC K w' a c:=by
 cases c with
 |dead=>trivial
 |lst ds =>
  obtain⟨xs,h1,h2⟩:=h
  exact⟨xs,(e (by intro z;cases z)).trans h1,le.all h2⟩
 |dK ai =>
  obtain⟨es,h1,h2,h3⟩:=h
  exact⟨es,(e (by intro z;cases z)).trans h1,h2,le.all h3⟩
section
variable {K:Frag} {w:Wd}
noncomputable def Wd.grow (w:Wd) (p:Addr) (o:HO):Wd:={ w with H:=upd w.H p o }
theorem Rd.grow {H:Hp} {p a:Addr} {o u:HO} (hp:H p=none) (h:Rd H a u):Rd (upd H p o) a u:=by
 rcases h with h | ⟨ob,h⟩
 ·exact .inl (by rw[bc (dg h hp)];exact h)
 ·exact .inr ⟨ob,by rw[bc (dg h hp)];exact h⟩
theorem aP.grow {H:Hp} {p a:Addr} {o:HO} {xs:List V} (hp:H p=none) (h:aP K H a xs):aP K (upd H p o) a xs:=by
 rcases h with h|h
 ·exact .inl (Rd.grow hp h)
 ·exact .inr h
theorem Fw.grow {p:Addr} {o:HO} (hp:w.H p=none):Fw K w (w.grow p o) where
 AB:=λ_ _ e=>e
 tup:=λa xs h=>aP.grow hp h
 lst:=λa xs hz h=>⟨hz,by show upd w.H p o a=_;rw[bc (dg h hp)];exact h⟩
 cW:=λa ob xs hz h=>⟨hz,by show upd w.H p o a=_;rw[bc (dg h hp)];exact h⟩
 aY:=λa es hz h=>⟨hz,by show upd w.H p o a=_;rw[bc (dg h hp)];exact h⟩
theorem aH.grow {p:Addr} {o:HO} (S:aH K w) (hp:w.H p=none):aH K (w.grow p o) where
 len:=S.len
 nd:=S.nd
 there:=λk a e=>by
  have h:=S.there k a e
  show upd w.H p o a≠none
  unfold upd
  split
  ·intro z;cases z
  ·exact h
 cell:=λk a c e1 e2=>(S.cell k a c e1 e2).le (Fw.grow hp).le λ_=>by
  have h:=S.there k a e1
  show upd w.H p o a=w.H a
  rw[bc]
  intro z;rw[z] at h;exact h hp
noncomputable def Wd.cell (w:Wd) (p:Addr) (o:HO) (c:Cell):Wd:=⟨w.ρ++[p],w.aC++[c],upd w.H p o⟩
theorem Wd.yv {p:Addr} {o:HO} {c:Cell} (S:aH K w) {a:Addr} (h:(w.cell p o c).Z a):w.Z a\/a=p:=by
 obtain⟨k,c',e1,e2,e3⟩:=h
 have e1:(w.ρ++[p])[k]?=some a:=e1
 have e2:(w.aC++[c])[k]?=some c':=e2
 by_cases hk:k<w.ρ.length
 ·rw[List.getElem?_append_left hk] at e1
  rw[List.getElem?_append_left (by rw[<- S.len];exact hk)] at e2
  exact .inl ⟨k,c',e1,e2,e3⟩
 ·rw[List.getElem?_append_right (by omega)] at e1
  right
  cases hj:k-w.ρ.length with
  |zero=>rw[hj] at e1;exact(Option.some.inj e1).symm
  |succ j=>rw[hj] at e1;cases e1
theorem Fw.cell {p:Addr} {o:HO} {c:Cell} (S:aH K w) (hp:w.H p=none):Fw K w (w.cell p o c) where
 AB:=λk a e=>by
  show (w.ρ++[p])[k]?=some a
  rw[List.getElem?_append_left (List.getElem?_eq_some_iff.mp e).1];exact e
 tup:=λa xs h=>aP.grow hp h
 lst:=λa xs hz h=>⟨λz=>(Wd.yv S z).elim hz (λe=>by (subst e;rw[hp] at h;cases h)),by show upd w.H p o a=_;rw[bc (dg h hp)];exact h⟩
 cW:=λa ob xs hz h=>⟨λz=>(Wd.yv S z).elim hz (λe=>by (subst e;rw[hp] at h;cases h)),by show upd w.H p o a=_;rw[bc (dg h hp)];exact h⟩
 aY:=λa es hz h=>⟨λz=>(Wd.yv S z).elim hz (λe=>by (subst e;rw[hp] at h;cases h)),by show upd w.H p o a=_;rw[bc (dg h hp)];exact h⟩
theorem aH.vh {p:Addr} {o:HO} {c:Cell} (S:aH K w) (hp:w.H p=none) (hc:oC K (w.cell p o c) p c):aH K (w.cell p o c) where
 len:=by show (w.ρ++[p]).length=(w.aC++[c]).length;simp[S.len]
 nd:=by
  show (w.ρ++[p]).Nodup
  rw[List.nodup_append]
  refine⟨S.nd,by simp,λa ha b hb=>?_⟩
  obtain⟨k,e⟩:=List.getElem?_of_mem ha
  have h:=S.there k a e
  have e':b=p:=by simpa using hb
  rw[e']
  intro z;rw[z] at h;exact h hp
 there:=λk a e=>by
  have e:(w.ρ++[p])[k]?=some a:=e
  show upd w.H p o a≠none
  unfold upd
  split
  ·intro z;cases z
  ·rename_i bz
   by_cases hk:k<w.ρ.length
   ·rw[List.getElem?_append_left hk] at e
    exact S.there k a e
   ·rw[List.getElem?_append_right (by omega)] at e
    cases hj:k-w.ρ.length with
    |zero=>rw[hj] at e;exact absurd (Option.some.inj e).symm bz
    |succ j=>rw[hj] at e;cases e
 cell:=λk a c' e1 e2=>by
  have e1:(w.ρ++[p])[k]?=some a:=e1
  have e2:(w.aC++[c])[k]?=some c':=e2
  by_cases hk:k<w.ρ.length
  ·rw[List.getElem?_append_left hk] at e1
   rw[List.getElem?_append_left (by rw[<- S.len];exact hk)] at e2
   refine(S.cell k a c' e1 e2).le (Fw.cell S hp).le λ_=>?_
   have h:=S.there k a e1
   show upd w.H p o a=w.H a
   rw[bc]
   intro z;rw[z] at h;exact h hp
  ·rw[List.getElem?_append_right (by omega)] at e1
   rw[List.getElem?_append_right (by rw[<- S.len];omega)] at e2
   rw[<- S.len] at e2
   cases hj:k-w.ρ.length with
   |zero =>
    rw[hj] at e1 e2
    have e1:p=a:=Option.some.inj e1
    have e2:c=c':=Option.some.inj e2
    subst e1 e2
    exact hc
   |succ j=>rw[hj] at e1;cases e1
noncomputable def Wd.same (w:Wd) (H':Hp):Wd:={ w with H:=H' }
theorem Fw.same {H':Hp} (e:ji w.H H'):Fw K w (w.same H') :=
 ⟨λ_ _ e=>e,λa xs h=>e.SI h,λa xs hz h=>⟨hz,e _ _ h⟩,λa o xs hz h=>⟨hz,e _ _ h⟩,λa es hz h=>⟨hz,e _ _ h⟩⟩
theorem aH.same {H':Hp} (S:aH K w) (e:ji w.H H'):aH K (w.same H') where
 len:=S.len
 nd:=S.nd
 there:=λk a q=>by
  have h:=S.there k a q
  show H' a≠none
  cases hq:w.H a with
  |none=>exact absurd hq h
  |some o=>rw[e _ _ hq];intro z;cases z
 cell:=λk a c e1 e2=>(S.cell k a c e1 e2).le (Fw.same e).le λ_=>by
  have h:=S.there k a e1
  show H' a=w.H a
  cases hq:w.H a with
  |none=>exact absurd hq h
  |some o=>exact e _ _ hq
noncomputable def Wd.put (w:Wd) (k:Nat) (a:Addr) (o:HO) (c:Cell):Wd:=⟨w.ρ,w.aC.set k c,upd w.H a o⟩
theorem B5 {α:Type} {l:List α} (nd:l.Nodup) {i j:Nat} {a:α} (h1:l[i]?=some a) (h2:l[j]?=some a):i=j:=by
 exact(List.getElem?_inj (List.getElem?_eq_some_iff.mp h1).1 nd).mp (h1.trans h2.symm)
theorem Wd.yW {k:Nat} {a b:Addr} {o:HO} {c c0:Cell} (h0:w.ρ[k]?=some a) (h1:w.aC[k]?=some c0) (h2:c0≠.dead) (h:(w.put k a o c).Z b):w.Z b:=by
 obtain⟨j,c',e1,e2,e3⟩:=h
 have e1:w.ρ[j]?=some b:=e1
 have e2:(w.aC.set k c)[j]?=some c':=e2
 by_cases hj:k=j
 ·subst hj
  exact⟨k,c0,e1,h1,h2⟩
 ·rw[List.getElem?_set_ne hj] at e2
  exact⟨j,c',e1,e2,e3⟩
theorem Fw.put {k:Nat} {a:Addr} {o:HO} {c c0:Cell} (S:aH K w) (h0:w.ρ[k]?=some a) (h1:w.aC[k]?=some c0) (h2:c0≠.dead):Fw K w (w.put k a o c):=by
 have hz:w.Z a:=⟨k,c0,h0,h1,h2⟩
 have nt:∀xs,¬ Rd w.H a (.tup xs):=λxs h=>by
  have q:=S.cell k a c0 h0 h1
  cases c0 with
  |dead=>exact h2 rfl
  |lst ds=>obtain⟨ys,e,_⟩:=q;rcases h with h | ⟨_,h⟩<;>(rw[e] at h;cases h)
  |dK ai=>obtain⟨ys,e,_⟩:=q;rcases h with h | ⟨_,h⟩<;>(rw[e] at h;cases h)
 refine⟨λ_ _ e=>e,λb xs h=>?_,λb xs hb h=>⟨λz=>hb (Wd.yW h0 h1 h2 z),?_⟩,λb ob xs hb h=>⟨λz=>hb (Wd.yW h0 h1 h2 z),?_⟩,λb es hb h=>⟨λz=>hb (Wd.yW h0 h1 h2 z),?_⟩⟩
 ·rcases h with h|h
  ·have ne:b≠a:=λe=>by subst e;exact nt xs h
   refine .inl ?_
   rcases h with h | ⟨ob,h⟩
   ·exact .inl (by show upd w.H a o b=_;rw[bc ne];exact h)
   ·exact .inr ⟨ob,by show upd w.H a o b=_;rw[bc ne];exact h⟩
  ·exact .inr h
 ·have ne:b≠a:=λe=>by subst e;exact hb hz
  show upd w.H a o b=_
  rw[bc ne];exact h
 ·have ne:b≠a:=λe=>by subst e;exact hb hz
  show upd w.H a o b=_
  rw[bc ne];exact h
 ·have ne:b≠a:=λe=>by subst e;exact hb hz
  show upd w.H a o b=_
  rw[bc ne];exact h
theorem aH.zM {k:Nat} {a:Addr} {o:HO} {c c0:Cell} (S:aH K w) (h0:w.ρ[k]?=some a) (h1:w.aC[k]?=some c0) (h2:c0≠.dead) (hc:oC K (w.put k a o c) a c):aH K (w.put k a o c) where
 len:=by show w.ρ.length=(w.aC.set k c).length;rw[List.length_set];exact S.len
 nd:=S.nd
 there:=λj b e=>by
  show upd w.H a o b≠none
  unfold upd
  split
  ·intro z;cases z
  ·exact S.there j b e
 cell:=λj b c' e1 e2=>by
  have e1:w.ρ[j]?=some b:=e1
  have e2:(w.aC.set k c)[j]?=some c':=e2
  by_cases hj:k=j
  ·subst hj
   rw[h0] at e1
   have e1:a=b:=Option.some.inj e1
   rw[List.getElem?_set_self (List.getElem?_eq_some_iff.mp h1).1] at e2
   have e2:c=c':=Option.some.inj e2
   subst e1 e2
   exact hc
  ·rw[List.getElem?_set_ne hj] at e2
   refine(S.cell j b c' e1 e2).le (Fw.put S h0 h1 h2).le λ_=>?_
   show upd w.H a o b=w.H b
   rw[bc]
   intro z
   subst z
   exact hj (B5 S.nd h0 e1)
noncomputable def Wd.freeze (w:Wd) (k:Nat):Wd:={ w with aC:=w.aC.set k .dead }
theorem Wd.xA {k:Nat} {b:Addr} (h:(w.freeze k).Z b):w.Z b:=by
 obtain⟨j,c',e1,e2,e3⟩:=h
 have e2:(w.aC.set k .dead)[j]?=some c':=e2
 by_cases hj:k=j
 ·subst hj
  have hl:=(List.getElem?_eq_some_iff.mp e2).1
  rw[List.length_set] at hl
  rw[List.getElem?_set_self hl] at e2
  exact absurd (Option.some.inj e2).symm e3
 ·rw[List.getElem?_set_ne hj] at e2
  exact⟨j,c',e1,e2,e3⟩
theorem Fw.freeze {k:Nat}:Fw K w (w.freeze k) :=
 ⟨λ_ _ e=>e,λ_ _ h=>h,λ_ _ hz h=>⟨λz=>hz (Wd.xA z),h⟩,λ_ _ _ hz h=>⟨λz=>hz (Wd.xA z),h⟩,λ_ _ hz h=>⟨λz=>hz (Wd.xA z),h⟩⟩
theorem aH.freeze {k:Nat} (S:aH K w):aH K (w.freeze k) where
 len:=by show w.ρ.length=(w.aC.set k .dead).length;rw[List.length_set];exact S.len
 nd:=S.nd
 there:=S.there
 cell:=λj b c' e1 e2=>by
  have e2:(w.aC.set k .dead)[j]?=some c':=e2
  by_cases hj:k=j
  ·subst hj
   have hl:=(List.getElem?_eq_some_iff.mp e2).1
   rw[List.length_set] at hl
   rw[List.getElem?_set_self hl] at e2
   rw[<- Option.some.inj e2]
   trivial
  ·rw[List.getElem?_set_ne hj] at e2
   exact(S.cell j b c' e1 e2).le Fw.freeze.le λ_=>rfl
theorem Wd.J2 {k:Nat} {a:Addr} (S:aH K w) (h:w.ρ[k]?=some a):¬ (w.freeze k).Z a:=by
 rintro ⟨j,c',e1,e2,e3⟩
 have e1:w.ρ[j]?=some a:=e1
 have e2:(w.aC.set k .dead)[j]?=some c':=e2
 have hj:=B5 S.nd h e1
 subst hj
 have hl:=(List.getElem?_eq_some_iff.mp e2).1
 rw[List.length_set] at hl
 rw[List.getElem?_set_self hl] at e2
 exact e3 (Option.some.inj e2).symm
end
structure bJ (K:Frag) (w:Wd) (env:Env) (σ:St):Prop where
 len:env.length=σ.length
 val:∀(i:Nat) d,env[i]?=some (some d)->∃v,σ[i]?=some (some v)/\DV K w d v
theorem bJ.le {K:Frag} {w w':Wd} {env:Env} {σ:St} (h:bJ K w env σ) (le:Le K w w'):bJ K w' env σ :=
 ⟨h.len,λi d e=>by obtain⟨v,e1,e2⟩:=h.val i d e;exact⟨v,e1,le d v e2⟩⟩
theorem bJ.set {K:Frag} {w:Wd} {env:Env} {σ:St} {d:D} {v:V} (h:bJ K w env σ) (hd:DV K w d v) (i:Nat):bJ K w (env.set i (some d)) (σ.set i (some v)):=by
 refine⟨by rw[List.length_set,List.length_set];exact h.len,λj d' e=>?_⟩
 by_cases hj:i=j
 ·subst hj
  have hl:=(List.getElem?_eq_some_iff.mp e).1
  rw[List.length_set] at hl
  rw[List.getElem?_set_self hl] at e
  have e:d=d':=Option.some.inj (Option.some.inj e)
  subst e
  exact⟨v,by rw[List.getElem?_set_self (by rw[<- h.len];exact hl)],hd⟩
 ·rw[List.getElem?_set_ne hj] at e
  rw[List.getElem?_set_ne hj]
  exact h.val j d' e
def Out (K:Frag) (Ξ:Wd->bD->Prop) (w:Wd) {α:Type} (r:Res α) (k:Wd->α->Prop):Prop:=match r with
 |none=>False
 |some (.ok a,s)=>∀w',Le K w w'->aH K w'->w'.aC=s->k w' a
 |some (.error x,s)=>∀w',Le K w w'->aH K w'->w'.aC=s->Ξ w' x
section
variable {K:Frag} {Ξ:Wd->bD->Prop} {w w':Wd} {α β:Type} {r:Res α} {k k':Wd->α->Prop}
theorem Out.from (h:Out K Ξ w r k) (le:Le K w w'):Out K Ξ w' r k:=by
 unfold Out at h |-
 split<;>simp only at h
 ·exact λw2 l2 o2 e2=>h w2 (le.trans l2) o2 e2
 ·exact λw2 l2 o2 e2=>h w2 (le.trans l2) o2 e2
theorem Out.mono (h:Out K Ξ w r k) (hk:∀w2 a,Le K w w2->aH K w2->k w2 a->k' w2 a):Out K Ξ w r k':=by
 unfold Out at h |-
 split<;>simp only at h
 ·exact λw2 l2 o2 e2=>hk w2 _ l2 o2 (h w2 l2 o2 e2)
 ·exact h
theorem Out.ak {g:α->aa->Res β} {q:Wd->β->Prop} (h:Out K Ξ w (DI.ak r g) q):Out K Ξ w r (λw2 a=>Out K Ξ w2 (g a w2.aC) q):=by
 match r,h with
 |some (.ok a,s),h =>
  intro w2 l2 o2 e2
  rw[e2]
  exact Out.from h l2
 |some (.error x,s),h=>exact h
theorem Out.done {a:α} (h:Out K Ξ w (some (.ok a,w.aC)) k) (S:aH K w):k w a:=h w (Le.refl w) S rfl
end
end DI
namespace DI
open PySem L2
noncomputable def tE (K:Frag) (Ξ:Wd->bD->Prop) (f:Env->aa->Res D):TE:=fun σ H Q=>∃w env,w.H=H/\aH K w/\bJ K w env σ/\Out K Ξ w (f env w.aC) λw' d=>∀v,DV K w' d v->Q v w'.H
noncomputable def tT (K:Frag) (Ξ:Wd->bD->Prop) (f:Env->aa->Res Bool):TT:=fun σ H Q=>∃w env,w.H=H/\aH K w/\bJ K w env σ/\Out K Ξ w (f env w.aC) λw' b=>Q b w'.H
noncomputable def tA (K:Frag) (Ξ:Wd->bD->Prop) (f:Env->aa->Res (List D)):TA:=fun σ H Q=>∃w env,w.H=H/\aH K w/\bJ K w env σ/\Out K Ξ w (f env w.aC) λw' ds=>∀vs,ao K w' ds vs->Q vs w'.H
noncomputable def rO (K:Frag) (Ξ:Wd->bD->Prop) (o:D->D->aa->Res D):R2:=λx y H Q=>∃w dx dy,w.H=H/\aH K w/\DV K w dx x/\DV K w dy y/\Out K Ξ w (o dx dy w.aC) λw' d=>∀v,DV K w' d v->Q v w'.H
noncomputable def rU (K:Frag) (Ξ:Wd->bD->Prop) (o:D->aa->Res D):V->Hp->VK->Prop:=λx H Q=>∃w dx,w.H=H/\aH K w/\DV K w dx x/\Out K Ξ w (o dx w.aC) λw' d=>∀v,DV K w' d v->Q v w'.H
noncomputable def rC (K:Frag) (Ξ:Wd->bD->Prop) (o:List D->aa->Res D):List V->Hp->VK->Prop:=λxs H Q=>∃w ds,w.H=H/\aH K w/\ao K w ds xs/\Out K Ξ w (o ds w.aC) λw' d=>∀v,DV K w' d v->Q v w'.H
noncomputable def ab (i:Nat):Env->aa->Res D:=λenv s=>match env[i]? with
 |some (some d)=>ok d s
 |_=>none
noncomputable def eC (d:D):Env->aa->Res D:=λ_ s=>ok d s
noncomputable def e1 (o:D->aa->Res D) (f:Env->aa->Res D):Env->aa->Res D:=λenv s=>ak (f env s) λx s=>o x s
noncomputable def e2 (o:D->D->aa->Res D) (f g:Env->aa->Res D):Env->aa->Res D:=λenv s=>ak (f env s) λx s=>ak (g env s) λy s=>o x y s
noncomputable def ag:Env->aa->Res (List D):=λ_ s=>ok [] s
noncomputable def ae (f:Env->aa->Res D) (g:Env->aa->Res (List D)):Env->aa->Res (List D):=λenv s=>ak (f env s) λx s=>ak (g env s) λxs s=>ok (x::xs) s
noncomputable def eB (o:List D->aa->Res D) (f:Env->aa->Res (List D)):Env->aa->Res D:=λenv s=>ak (f env s) λds s=>o ds s
noncomputable def iY {α:Type} (ds:List D) (r:Res α):Res α:=if ds.length<=sizeLine then r else none
noncomputable def bp (f:Env->aa->Res (List D)):Env->aa->Res D:=λenv s=>ak (f env s) λds s=>iY ds (ok (.tup ds) s)
noncomputable def cM (f:Env->aa->Res (List D)):Env->aa->Res D:=λenv s=>ak (f env s) λds s=>iY ds (ok (.lst ds) s)
noncomputable def eNew (f:Env->aa->Res (List D)):Env->aa->Res D:=λenv s=>ak (f env s) λds s=>iY ds (ok (.ar s.length) (s++[.lst ds]))
noncomputable def cW:D->aa->Res D:=λd s=>match d with
 | .ar k=>match s[k]? with
  |some (.lst ds)=>ok (.lst ds) (s.set k .dead)
  |_=>none
 |_=>none
noncomputable def rq (f:Env->aa->Res D):Env->aa->Res D:=λenv s=>ak (f env s) cW
noncomputable def fH (d:D) (s:aa):Res Bool:=match d with
 | .bl b=>ok b s
 |_=>none
noncomputable def ba (f:Env->aa->Res D):Env->aa->Res Bool:=λenv s=>ak (f env s) fH
noncomputable def truth (d:D) (s:aa):Res Bool:=match d with
 | .ay=>ok false s
 | .bl b=>ok b s
 | .int i=>ok (i != 0) s
 | .str x=>if x.length<=sizeLine then ok ((x.length:Int) != 0) s else none
 | .tup ds=>ok (!ds.isEmpty) s
 | .lst ds=>ok (!ds.isEmpty) s
 | .aY ai=>ok (!ai.isEmpty) s
 | .ar k=>match s[k]? with
  |some (.lst ds)=>ok (!ds.isEmpty) s
  |some (.dK ai)=>ok (!ai.isEmpty) s
  |_=>none
 | .ty _=>none
 | .bS _=>none
noncomputable def bH (f:Env->aa->Res D):Env->aa->Res Bool:=λenv s=>ak (f env s) truth
noncomputable def gw (f g:Env->aa->Res Bool):Env->aa->Res Bool:=λenv s=>ak (f env s) λb s=>if b=true then g env s else ok false s
noncomputable def dZ (f g:Env->aa->Res Bool):Env->aa->Res Bool:=λenv s=>ak (f env s) λb s=>if b=true then ok true s else g env s
noncomputable def cG (f:Env->aa->Res Bool):Env->aa->Res Bool:=λenv s=>ak (f env s) λb s=>ok (!b) s
noncomputable def dO (f g:Env->aa->Res D):Env->aa->Res D:=λenv s=>ak (f env s) λx s=>ak (fH x s) λb s=>if b=true then g env s else ok (.bl false) s
noncomputable def pO (f g:Env->aa->Res D):Env->aa->Res D:=λenv s=>ak (f env s) λx s=>ak (fH x s) λb s=>if b=true then ok (.bl true) s else g env s
noncomputable def rA (f:Env->aa->Res D):Env->aa->Res D:=λenv s=>ak (f env s) λx s=>ak (fH x s) λb s=>ok (.bl (!b)) s
noncomputable def wF (c:Env->aa->Res Bool) (f g:Env->aa->Res D):Env->aa->Res D:=λenv s=>ak (c env s) λb s=>if b=true then f env s else g env s
noncomputable def j7 (o o':D->D->aa->Res D) (f g h:Env->aa->Res D):Env->aa->Res D:=λenv s=>ak (f env s) λx s=>ak (g env s) λy s=>ak (o x y s) λz s=>ak (fH z s) λb s =>
 if b=true then ak (h env s) λu s=>o' y u s else ok (.bl false) s
section
variable {X:Cx} {Ξ:Wd->bD->Prop} {e a b c:Expr} {es rest:List Expr} {pos:Pos} {f g h:Env->aa->Res D} {fa:Env->aa->Res (List D)} {ft gt:Env->aa->Res Bool}
theorem b9 {t t':TE} (h:PE X e t) (i:∀ σ H Q,t' σ H Q->t σ H Q):PE X e t':=λpins s σ H Q I hq=>h pins s σ H Q I (i σ H Q hq)
theorem uW {t t':TT} (h:PT X e t) (i:∀ σ H Q,t' σ H Q->t σ H Q):PT X e t':=λpins s σ H Q I hq=>h pins s σ H Q I (i σ H Q hq)
theorem EH {t t':TT} (h:PW X e t) (i:∀ σ H Q,t' σ H Q->t σ H Q):PW X e t':=λwh pins s σ H Q I hq=>h wh pins s σ H Q I (i σ H Q hq)
theorem EI {t t':TA} (h:PA X es t) (i:∀ σ H Q,t' σ H Q->t σ H Q):PA X es t':=λp pins s σ H Q I hq=>h p pins s σ H Q I (i σ H Q hq)
theorem jL {st:Stmt} {t t':TS} (h:PS X st t) (i:∀D σ H,t' D σ H->t D σ H):PS X st t':=λpins s σ H D I hq=>h pins s σ H D I (i D σ H hq)
theorem D2 {st:List Stmt} {t t':TS} (h:cO X st t) (i:∀D σ H,t' D σ H->t D σ H):cO X st t':=λpins s σ H D I hq=>h pins s σ H D I (i D σ H hq)
theorem aF {α:Type} {K:Frag} {w:Wd} {a:α} {k:Wd->α->Prop} (S:aH K w) (h:Out K Ξ w (ok a w.aC) k):k w a:=h w (Le.refl w) S rfl
theorem af (i:Nat) {x:Str} (hN:X.N[i]?=some x:=by rfl) (hv:nA X.env.scope x:=by first|exact Or.inl rfl|exact Or.inr (Or.inl rfl)|exact Or.inr (Or.inr rfl)) (hd:(x==("__debug__":Str))=false:=by decide)
  (fP:(x==("__classdict__":Str))=false:=by decide):PE X (.Name x pos) (tE X.K Ξ (ab i)):=b9 (Es hN hv hd fP) fun σ H Q aw=>by
 obtain⟨w,env,eH,S,eo,h⟩:=aw
 unfold ab at h
 split at h
 ·rename_i d he
  obtain⟨v,e1,e2⟩:=eo.val i d he
  subst eH
  exact⟨v,e1,aF S h v e2⟩
 ·exact h.elim
theorem oM {d:D} {v:V} (h:PE X e (tC v)) (hd:∀w,DV X.K w d v):PE X e (tE X.K Ξ (eC d)):=b9 h fun σ H Q aw=>by
 obtain⟨w,env,eH,S,eo,h⟩:=aw
 subst eH
 exact aF S h v (hd w)
theorem aE {i j}:PE X (.Constant (.int i) j pos) (tE X.K Ξ (eC (.int i))):=oM uU λ_=>rfl
theorem cN {b j}:PE X (.Constant (.bool b) j pos) (tE X.K Ξ (eC (.bl b))):=oM Pz λ_=>rfl
theorem Fm {j}:PE X (.Constant .none j pos) (tE X.K Ξ (eC .ay)):=oM NT λ_=>rfl
theorem lM {x j}:PE X (.Constant (.str x) j pos) (tE X.K Ξ (eC (.str x))):=oM NU λ_=>rfl
theorem uL {K:Frag} {o:D->D->aa->Res D} (σ:St) (H:Hp) (Q:VK):tE K Ξ (e2 o f g) σ H Q->sg (rO K Ξ o) (tE K Ξ f) (tE K Ξ g) σ H Q:=by
 rintro ⟨w,env,rfl,S,eo,h⟩
 exact⟨w,env,rfl,S,eo,(Out.ak h).mono λw1 x l1 S1 h1 v1 dR=>⟨w1,env,rfl,S1,eo.le l1,(Out.ak h1).mono λw2 y l2 S2 h2 v2 nM=>⟨w2,x,y,rfl,S2,l2 _ _ dR,nM,h2⟩⟩⟩
theorem bo {op:Operator} {o:D->D->aa->Res D} (ho:aW X (binaryOp op) (rO X.K Ξ o)) (ha:PE X a (tE X.K Ξ f)) (hb:PE X b (tE X.K Ξ g)):PE X (.BinOp a op b pos) (tE X.K Ξ (e2 o f g)):=b9 (PN ho ha hb) uL
theorem gO {op:CmpOp} {o:D->D->aa->Res D} (ho:aW X (compareOp op) (rO X.K Ξ o)) (ha:PE X a (tE X.K Ξ f)) (hb:PE X b (tE X.K Ξ g)) (hm:behindInMarks op b=false):PE X (.Compare a [op] [b] pos) (tE X.K Ξ (e2 o f g)):=b9 (Mj ho ha hb hm) uL
theorem EJ {K:Frag} (σ:St) (H:Hp) (Q:Bool->Hp->Prop):tT K Ξ (ba f) σ H Q->qJ (tE K Ξ f) σ H Q:=by
 rintro ⟨w,env,rfl,S,eo,h⟩
 refine⟨w,env,rfl,S,eo,(Out.ak h).mono λw1 x l1 S1 h1 v1 dR=>?_⟩
 cases x with
 |bl b =>
  have e:v1=.bl b:=dR
  exact⟨b,e,aF S1 h1⟩
 |_=>exact h1.elim
theorem Cy {t t':TE} (i:∀ σ H Q,t' σ H Q->t σ H Q) (σ:St) (H:Hp) (Q:Bool->Hp->Prop):qJ t' σ H Q->qJ t σ H Q:=λh=>i _ _ _ h
theorem cx {op:CmpOp} {o:D->D->aa->Res D} (ho:aW X (compareOp op) (rO X.K Ξ o)) (ha:PE X a (tE X.K Ξ f)) (hb:PE X b (tE X.K Ξ g)) (hm:behindInMarks op b=false):PT X (.Compare a [op] [b] pos) (tT X.K Ξ (ba (e2 o f g))) :=
 uW (Ml ho ha hb hm) fun σ H Q h=>Cy uL σ H Q (EJ σ H Q h)
theorem EK {K:Frag} {o o':D->D->aa->Res D} (σ:St) (H:Hp) (Q:VK):tE K Ξ (j7 o o' f g h) σ H Q->yp (rO K Ξ o) (rO K Ξ o') (tE K Ξ f) (tE K Ξ g) (tE K Ξ h) σ H Q:=by
 rintro ⟨w,env,rfl,S,eo,h⟩
 refine⟨w,env,rfl,S,eo,(Out.ak h).mono λw1 x l1 S1 h1 v1 dR=>⟨w1,env,rfl,S1,eo.le l1,(Out.ak h1).mono λw2 y l2 S2 h2 v2 nM=>⟨w2,x,y,rfl,S2,l2 _ _ dR,nM,(Out.ak h2).mono λw3 z l3 S3 h3 v3 Tc=>?_⟩⟩⟩
 have h4:=Out.ak h3
 cases z with
 |bl b =>
  have e:v3=.bl b:=Tc
  have h5:=aF S3 h4
  refine⟨b,e,?_⟩
  cases b with
  |true =>
   rw[if_pos rfl] at h5 |-
   exact⟨w3,env,rfl,S3,eo.le (l1.trans (l2.trans l3)),(Out.ak h5).mono λw4 u l4 S4 h6 v4 AD=>⟨w4,y,u,rfl,S4,(l3.trans l4) _ _ nM,AD,h6⟩⟩
  |false =>
   rw[if_neg Bool.false_ne_true] at h5 |-
   exact aF S3 h5 _ rfl
 |_=>exact h4.elim
theorem ML {op fU:CmpOp} {o o':D->D->aa->Res D} (ho:aW X (compareOp op) (rO X.K Ξ o)) (dP:aW X (compareOp fU) (rO X.K Ξ o')) (ha:PE X a (tE X.K Ξ f)) (hb:PE X b (tE X.K Ξ g)) (hc:PE X c (tE X.K Ξ h))
  (hm:lastMarks [op,fU] [b,c]=false:=by with_unfolding_all rfl):PE X (.Compare a [op,fU] [b,c] pos) (tE X.K Ξ (j7 o o' f g h)):=b9 (KJ ho dP ha hb hc hm) EK
theorem D3 {op fU:CmpOp} {o o':D->D->aa->Res D} (ho:aW X (compareOp op) (rO X.K Ξ o)) (dP:aW X (compareOp fU) (rO X.K Ξ o')) (ha:PE X a (tE X.K Ξ f)) (hb:PE X b (tE X.K Ξ g)) (hc:PE X c (tE X.K Ξ h))
  (hm:lastMarks [op,fU] [b,c]=false:=by with_unfolding_all rfl):PT X (.Compare a [op,fU] [b,c] pos) (tT X.K Ξ (ba (j7 o o' f g h))):=uW (KL ho dP ha hb hc hm) fun σ H Q h=>Cy EK σ H Q (EJ σ H Q h)
theorem vG {op:UnaryOp} {o:D->aa->Res D} (ho:se X (unaryOp op) (rU X.K Ξ o)) (ha:PE X a (tE X.K Ξ f)):PE X (.UnaryOp op a pos) (tE X.K Ξ (e1 o f)):=b9 (Ff ho ha) fun σ H Q aw=>by
 obtain⟨w,env,eH,S,eo,h⟩:=aw
 subst eH
 exact⟨w,env,rfl,S,eo,(Out.ak h).mono λw1 x l1 S1 h1 v1 dR=>⟨w1,x,rfl,S1,dR,h1⟩⟩
theorem aj:PA X [] (tA X.K Ξ ag):=EI kC fun σ H Q aw=>by
 obtain⟨w,env,eH,S,eo,h⟩:=aw
 subst eH
 exact aF S h _ rfl
theorem ah (ha:PE X e (tE X.K Ξ f)) (hr:PA X es (tA X.K Ξ fa)) (hs:starEach (e::es) X.env=(false,eval e X.env)::starEach es X.env:=by rfl):PA X (e::es) (tA X.K Ξ (ae f fa)):=EI (iU ha hr hs) fun σ H Q aw=>by
 obtain⟨w,env,eH,S,eo,h⟩:=aw
 subst eH
 exact⟨w,env,rfl,S,eo,(Out.ak h).mono λw1 x l1 S1 h1 v1 dR=>⟨w1,env,rfl,S1,eo.le l1,(Out.ak h1).mono λw2 xs l2 S2 h2 vs aq=>aF S2 h2 _ ⟨v1,vs,rfl,l2 _ _ dR,aq⟩⟩⟩
theorem qj {α:Type} {K:Frag} {w:Wd} {ds:List D} {r:Res α} {k:Wd->α->Prop} (h:Out K Ξ w (iY ds r) k):ds.length<=sizeLine/\Out K Ξ w r k:=by
 unfold iY at h
 split at h
 ·exact⟨by assumption,h⟩
 ·exact h.elim
theorem cc {x1} (ha:PA X es (tA X.K Ξ fa)):PE X (.Tuple es x1 pos) (tE X.K Ξ (bp fa)):=b9 (Oe ha) fun σ H Q aw=>by
 obtain⟨w,env,eH,S,eo,h⟩:=aw
 subst eH
 refine⟨w,env,rfl,S,eo,(Out.ak h).mono λw1 ds l1 S1 h1 vs aq=>?_⟩
 obtain⟨hl,h2⟩:=qj h1
 refine⟨by rw[<- aq.length];exact hl,λp hp=>?_⟩
 exact h2 (w1.grow p (.tup vs)) (Fw.grow hp).le (S1.grow hp) rfl (.ref p) ⟨p,vs,rfl,aP.of ck,(Fw.grow hp).le.all aq⟩
theorem lH {K:Frag} {w:Wd} {p:Addr} (S:aH K w) (hp:w.H p=none):¬ w.Z p:=λ⟨k,c,e1,_,_⟩=>S.there k p e1 hp
theorem fF (ha:PA X es (tA X.K Ξ fa)):PE X (.List es pos) (tE X.K Ξ (cM fa)):=b9 (Ey ha) fun σ H Q aw=>by
 obtain⟨w,env,eH,S,eo,h⟩:=aw
 subst eH
 refine⟨w,env,rfl,S,eo,(Out.ak h).mono λw1 ds l1 S1 h1 vs aq=>?_⟩
 obtain⟨hl,h2⟩:=qj h1
 refine⟨by rw[<- aq.length];exact hl,λp hp=>?_⟩
 exact h2 (w1.grow p (.lst vs)) (Fw.grow hp).le (S1.grow hp) rfl (.ref p) ⟨p,vs,rfl,⟨(show ¬ w1.Z p from lH S1 hp),ck⟩,(Fw.grow hp).le.all aq⟩
theorem oO (ha:PA X es (tA X.K Ξ fa)):PE X (.List es pos) (tE X.K Ξ (eNew fa)):=b9 (Ey ha) fun σ H Q aw=>by
 obtain⟨w,env,eH,S,eo,h⟩:=aw
 subst eH
 refine⟨w,env,rfl,S,eo,(Out.ak h).mono λw1 ds l1 S1 h1 vs aq=>?_⟩
 obtain⟨hl,h2⟩:=qj h1
 refine⟨by rw[<- aq.length];exact hl,λp hp=>?_⟩
 have le:=(Fw.cell (o:=.lst vs) (c:=.lst ds) S1 hp).le
 refine h2 (w1.cell p (.lst vs) (.lst ds)) le (S1.vh hp ⟨vs,ck,le.all aq⟩) rfl (.ref p) ⟨p,?_,rfl⟩
 show (w1.ρ++[p])[w1.aC.length]?=some p
 rw[<- S1.len]
 simp
theorem Qn (ha:PE X a (tE X.K Ξ f)):PE X a (tE X.K Ξ (rq f)):=b9 ha fun σ H Q aw=>by
 obtain⟨w,env,eH,S,eo,h⟩:=aw
 subst eH
 refine⟨w,env,rfl,S,eo,(Out.ak h).mono λw1 x l1 S1 h1 v1 dR=>?_⟩
 unfold cW at h1
 split at h1
 ·rename_i k
  split at h1
  ·rename_i ds hk
   obtain⟨p,e1,e2⟩:=dR
   obtain⟨xs,q1,q2⟩:=S1.cell k p _ e1 hk
   exact h1 (w1.freeze k) Fw.freeze.le S1.freeze rfl v1 ⟨p,xs,e2,⟨Wd.J2 S1 e1,q1⟩,Fw.freeze.le.all q2⟩
  ·exact h1.elim
 ·exact h1.elim
theorem rj.of {K:Frag} {w:Wd} {d:D} {v:V} {k:Wd->Bool->Prop} (S:aH K w) (hd:DV K w d v) (h:Out K Ξ w (truth d w.aC) k):∃b,rj K v w.H b/\k w b:=by
 cases d with
 |ay=>have e:v=.ay:=hd;subst e;exact⟨_,rfl,aF S h⟩
 |bl b=>have e:v=.bl b:=hd;subst e;exact⟨_,rfl,aF S h⟩
 |int i=>have e:v=.int i:=hd;subst e;exact⟨_,rfl,aF S h⟩
 |str x =>
  have e:v=.str x:=hd
  subst e
  unfold truth at h
  split at h<;>first|contradiction|skip
  all_goals (rename_i e;cases e)
  split at h
  ·exact⟨_,⟨by assumption,rfl⟩,aF S h⟩
  ·exact h.elim
 |tup ds =>
  simp only[DV] at hd
  obtain⟨a,xs,rfl,hq,r⟩:=hd
  refine⟨_,.inr (.inl ⟨xs,hq,?_⟩),aF S h⟩
  have e:=r.length
  cases ds<;>cases xs<;>first|rfl|cases e
 |lst ds =>
  simp only[DV] at hd
  obtain⟨a,xs,rfl,hq,r⟩:=hd
  refine⟨_,.inl ⟨xs,hq.sq,?_⟩,aF S h⟩
  have e:=r.length
  cases ds<;>cases xs<;>first|rfl|cases e
 |aY ai =>
  simp only[DV] at hd
  obtain⟨a,rfl,_,hq⟩:=hd
  refine⟨_,.inr (.inr ⟨_,hq,?_⟩),aF S h⟩
  cases ai<;>rfl
 |ar j =>
  simp only[DV] at hd
  obtain⟨a,e1,rfl⟩:=hd
  simp only[truth] at h
  split at h
  ·rename_i ds hk
   obtain⟨xs,q1,q2⟩:=S.cell j a _ e1 hk
   refine⟨_,.inl ⟨xs,bx.of q1,?_⟩,aF S h⟩
   have e:=q2.length
   cases ds<;>cases xs<;>first|rfl|cases e
  ·rename_i ai hk
   obtain⟨es,q1,q2,q3⟩:=S.cell j a _ e1 hk
   refine⟨_,.inr (.inr ⟨es,q1,?_⟩),aF S h⟩
   have e:=congrArg List.length q2
   cases ai<;>cases es<;>first|rfl|simp at e
  ·exact h.elim
 |ty n=>exact h.elim
 |bS ns=>exact h.elim
theorem di (ha:PE X a (tE X.K Ξ f)) (he:∀whole,isTrue a X.env whole=(do let v <- whole;standAt a.pos;holding [v] (truthy v)):=by intro _;rfl):PT X a (tT X.K Ξ (bH f)):=uW (KN ha he) fun σ H Q aw=>by
 obtain⟨w,env,eH,S,eo,h⟩:=aw
 subst eH
 exact⟨w,env,rfl,S,eo,(Out.ak h).mono λw1 x l1 S1 h1 v1 dR=>rj.of S1 dR h1⟩
theorem gP (ha:PT X a (tT X.K Ξ ft)):PT X (.UnaryOp .Not a pos) (tT X.K Ξ (cG ft)):=uW (NX ha) fun σ H Q aw=>by
 obtain⟨w,env,eH,S,eo,h⟩:=aw
 subst eH
 exact⟨w,env,rfl,S,eo,(Out.ak h).mono λw1 b l1 S1 h1=>aF S1 h1⟩
theorem oE (ha:PT X a (tT X.K Ξ ft)):PW X (.BoolOp .And [a] pos) (tT X.K Ξ ft):=Md ha
theorem oP (ha:PT X a (tT X.K Ξ ft)):PW X (.BoolOp .Or [a] pos) (tT X.K Ξ ft):=NV ha
theorem w_and (ha:PT X a (tT X.K Ξ ft)) (hb:PW X (.BoolOp .And (b::rest) pos) (tT X.K Ξ gt)):PW X (.BoolOp .And (a::b::rest) pos) (tT X.K Ξ (gw ft gt)):=EH (NW ha hb) fun σ H Q aw=>by
 obtain⟨w,env,eH,S,eo,h⟩:=aw
 subst eH
 refine⟨w,env,rfl,S,eo,(Out.ak h).mono λw1 b l1 S1 h1=>?_⟩
 cases b with
 |true=>exact⟨w1,env,rfl,S1,eo.le l1,h1⟩
 |false=>exact aF S1 h1
theorem w_or (ha:PT X a (tT X.K Ξ ft)) (hb:PW X (.BoolOp .Or (b::rest) pos) (tT X.K Ξ gt)):PW X (.BoolOp .Or (a::b::rest) pos) (tT X.K Ξ (dZ ft gt)):=EH (PB ha hb) fun σ H Q aw=>by
 obtain⟨w,env,eH,S,eo,h⟩:=aw
 subst eH
 refine⟨w,env,rfl,S,eo,(Out.ak h).mono λw1 b l1 S1 h1=>?_⟩
 cases b with
 |false=>exact⟨w1,env,rfl,S1,eo.le l1,h1⟩
 |true=>exact aF S1 h1
theorem iz {op} (ha:PE X a (tE X.K Ξ f)):PE X (.BoolOp op [a] pos) (tE X.K Ξ f):=NY ha
theorem yb {K:Frag} {w:Wd} {d:D} {v:V} {k:Wd->Bool->Prop} (S:aH K w) (hd:DV K w d v) (h:Out K Ξ w (fH d w.aC) k):∃b,v=.bl b/\k w b:=by
 cases d with
 |bl b=>exact⟨b,hd,aF S h⟩
 |_=>exact h.elim
theorem gk (ha:PE X a (tE X.K Ξ f)) (hb:PE X (.BoolOp .And (b::rest) pos) (tE X.K Ξ g)):PE X (.BoolOp .And (a::b::rest) pos) (tE X.K Ξ (dO f g)):=b9 (NZ ha hb) fun σ H Q aw=>by
 obtain⟨w,env,eH,S,eo,h⟩:=aw
 subst eH
 refine⟨w,env,rfl,S,eo,(Out.ak h).mono λw1 x l1 S1 h1 v1 dR=>?_⟩
 obtain⟨b,e,h2⟩:=yb S1 dR (Out.ak h1)
 refine⟨b,e,?_⟩
 cases b with
 |true=>exact⟨w1,env,rfl,S1,eo.le l1,h2⟩
 |false=>exact aF S1 h2 _ rfl
theorem zN (ha:PE X a (tE X.K Ξ f)) (hb:PE X (.BoolOp .Or (b::rest) pos) (tE X.K Ξ g)):PE X (.BoolOp .Or (a::b::rest) pos) (tE X.K Ξ (pO f g)):=b9 (PH ha hb) fun σ H Q aw=>by
 obtain⟨w,env,eH,S,eo,h⟩:=aw
 subst eH
 refine⟨w,env,rfl,S,eo,(Out.ak h).mono λw1 x l1 S1 h1 v1 dR=>?_⟩
 obtain⟨b,e,h2⟩:=yb S1 dR (Out.ak h1)
 refine⟨b,e,?_⟩
 cases b with
 |false=>exact⟨w1,env,rfl,S1,eo.le l1,h2⟩
 |true=>exact aF S1 h2 _ rfl
theorem Fn (ha:PE X a (tE X.K Ξ f)):PE X (.UnaryOp .Not a pos) (tE X.K Ξ (rA f)):=b9 (N0 ha) fun σ H Q aw=>by
 obtain⟨w,env,eH,S,eo,h⟩:=aw
 subst eH
 refine⟨w,env,rfl,S,eo,(Out.ak h).mono λw1 x l1 S1 h1 v1 dR=>?_⟩
 obtain⟨b,e,h2⟩:=yb S1 dR (Out.ak h1)
 exact⟨b,e,aF S1 h2 _ rfl⟩
theorem RQ (hc:PT X c (tT X.K Ξ ft)) (ha:PE X a (tE X.K Ξ f)) (hb:PE X b (tE X.K Ξ g)):PE X (.IfExp c a b pos) (tE X.K Ξ (wF ft f g)):=b9 (KC hc ha hb) fun σ H Q aw=>by
 obtain⟨w,env,eH,S,eo,h⟩:=aw
 subst eH
 refine⟨w,env,rfl,S,eo,(Out.ak h).mono λw1 b l1 S1 h1=>?_⟩
 cases b with
 |true=>exact⟨w1,env,rfl,S1,eo.le l1,h1⟩
 |false=>exact⟨w1,env,rfl,S1,eo.le l1,h1⟩
theorem EL {K:Frag} {o:List D->aa->Res D} (σ:St) (H:Hp) (Q:VK):tE K Ξ (eB o fa) σ H Q->Ai (rC K Ξ o) (tA K Ξ fa) σ H Q:=by
 rintro ⟨w,env,rfl,S,eo,h⟩
 exact⟨w,env,rfl,S,eo,(Out.ak h).mono λw1 ds l1 S1 h1 vs aq=>⟨w1,ds,rfl,S1,aq,h1⟩⟩
theorem aR {x:Str} {p:Pos} {id:String} {o:List D->aa->Res D} (hc:bP X (.builtin id) (rC X.K Ξ o)) (hg:Gl X x) (hm:X.mg x=none) (hv:bootBuiltins x=some (.builtin id)) (ha:PA X (e::es) (tA X.K Ξ fa)) (hn:x≠"__name__":=by decide) (jt:(x==("__debug__":Str))=false:=by decide)
  (he:starEach (e::es) X.env=(false,eval e X.env)::starEach es X.env:=by rfl) (bX:(backTo pos (starEach es X.env)).any (·.1)=false:=by rfl):PE X (.Call (.Name x p) (e::es) [] pos) (tE X.K Ξ (eB o fa)):=b9 (xx hc hg hm hv ha hn jt he bX) EL
theorem mM {x:Str} {p:Pos} {T:String} {o:List D->aa->Res D} (hc:bP X (.type T) (rC X.K Ξ o)) (hg:Gl X x) (hm:X.mg x=none) (hv:bootBuiltins x=some (.type T)) (ha:PA X (e::es) (tA X.K Ξ fa)) (hn:x≠"__name__":=by decide) (jt:(x==("__debug__":Str))=false:=by decide)
  (he:starEach (e::es) X.env=(false,eval e X.env)::starEach es X.env:=by rfl) (bX:(backTo pos (starEach es X.env)).any (·.1)=false:=by rfl):PE X (.Call (.Name x p) (e::es) [] pos) (tE X.K Ξ (eB o fa)):=b9 (oh hc hg hm hv ha hn jt he bX) EL
end
end DI
namespace DI
open PySem L2
set_option genInjectivity true in
inductive Fl where
 |nx (env:Env)|rt (d:D)|bk (env:Env)|ct (env:Env)
noncomputable def rB (K:Frag) (D:Ends) (w:Wd):Fl->Prop
 | .nx env=>∀ σ,bJ K w env σ->D.nx σ w.H
 | .rt d=>∀v,DV K w d v->D.rt v w.H
 | .bk env=>∀ σ,bJ K w env σ->D.bk σ w.H
 | .ct env=>∀ σ,bJ K w env σ->D.ct σ w.H
noncomputable def tS (K:Frag) (Ξ:Wd->bD->Prop) (f:Env->aa->Res Fl):TS:=λD σ H=>∃w env,w.H=H/\aH K w/\bJ K w env σ/\Out K Ξ w (f env w.aC) (rB K D)
noncomputable def bA:Env->aa->Res Fl:=λenv s=>ok (.nx env) s
noncomputable def ax (f g:Env->aa->Res Fl):Env->aa->Res Fl:=λenv s=>ak (f env s) λfl s=>match fl with
 | .nx env=>g env s
 |fl=>ok fl s
noncomputable def aG (f:Env->aa->Res D):Env->aa->Res Fl:=λenv s=>ak (f env s) λd s=>ok (.rt d) s
noncomputable def fj (f:Env->aa->Res D):Env->aa->Res Fl:=λenv s=>ak (f env s) λ_ s=>ok (.nx env) s
noncomputable def bt (c:Env->aa->Res Bool) (f g:Env->aa->Res Fl):Env->aa->Res Fl:=λenv s=>ak (c env s) λb s=>if b=true then f env s else g env s
noncomputable def Fo:Env->aa->Res Fl:=λenv s=>ok (.ct env) s
noncomputable def bq (f:Env->aa->Res D) (g:D->Env->Option Env):Env->aa->Res Fl:=λenv s=>ak (f env s) λd s=>match g d env with
 |some az=>ok (.nx az) s
 |none=>none
noncomputable def gN (i:Nat):D->Env->Option Env:=λd env=>some (env.set i (some d))
noncomputable def fk:List (D->Env->Option Env)->List D->Env->Option Env
 | [],[],env=>some env
 |g::gs,d::ds,env=>match g d env with
  |some az=>fk gs ds az
  |none=>none
 |_,_,_=>none
noncomputable def gT (gs:List (D->Env->Option Env)):D->Env->Option Env:=λd env=>match d with
 | .tup ds=>fk gs ds env
 |_=>none
noncomputable def jO (g:D->Env->Option Env) (b:Env->aa->Res Fl):List D->Env->aa->Res Fl
 | [],env,s=>ok (.nx env) s
 |d::ds,env,s=>match g d env with
  |none=>none
  |some az=>ak (b az s) λfl s=>match fl with
   | .nx e=>jO g b ds e s
   | .ct e=>jO g b ds e s
   | .bk e=>ok (.nx e) s
   | .rt d=>ok (.rt d) s
noncomputable def eT (it:Env->aa->Res (List D)) (g:D->Env->Option Env) (b:Env->aa->Res Fl):Env->aa->Res Fl:=λenv s=>ak (it env s) λds s=>jO g b ds env s
noncomputable def lN (c:Env->aa->Res Bool) (b:Env->aa->Res Fl):Nat->Env->aa->Res Fl
 |0,_,_=>none
 |n+1,env,s=>ak (c env s) λt s=>if t=true then ak (b env s) λfl s=>match fl with
   | .nx e=>lN c b n e s
   | .ct e=>lN c b n e s
   | .bk e=>ok (.nx e) s
   | .rt d=>ok (.rt d) s
  else ok (.nx env) s
noncomputable def vH (n:Nat) (c:Env->aa->Res Bool) (b:Env->aa->Res Fl):Env->aa->Res Fl:=lN c b n
noncomputable def ne {α:Type} (r:Res α):Res α:=match r with
 |some (.ok a,s)=>some (.ok a,s)
 |_=>none
@[simp] theorem kI {α:Type} {a:α} {s:aa}:ne (some (.ok a,s))=some (.ok a,s):=rfl
noncomputable def iA (cap:List Nat) (env:Env):Env:=cap.map λj=>(env[j]?).getD none
noncomputable def gg (nt:Nat) (caps:Env) (g:D->Env->Option Env) (t:Env->aa->Res Bool) (f:Env->aa->Res D):List D->aa->Res (List D)
 | [],s=>ok [] s
 |d::ds,s=>match g d (List.replicate nt none++caps) with
  |none=>none
  |some env=>ak (ne (t env s)) λb s=>if b=true then ak (ne (f env s)) λx s=>ak (gg nt caps g t f ds s) λxs s=>ok (x::xs) s
   else gg nt caps g t f ds s
noncomputable def cL (nt:Nat) (cap:List Nat) (it:Env->aa->Res (List D)) (g:D->Env->Option Env) (t:Env->aa->Res Bool) (f:Env->aa->Res D):Env->aa->Res D:=λenv s =>
 ak (it env s) λds s=>iY ds (ak (gg nt (iA cap env) g t f ds s) λxs s=>ok (.lst xs) s)
noncomputable def dI:Env->aa->Res Bool:=λ_ s=>ok true s
noncomputable def bw (np ns:Nat) (b:Env->aa->Res Fl):List D->aa->Res D:=λds s=>if ds.length=np then ak (b (ds.map some++List.replicate (ns-np) none) s) λfl s=>match fl with
 | .rt d=>ok d s
 | .nx _=>ok .ay s
 |_=>none else none
noncomputable abbrev dw:Wd->bD->Prop:=λ_ _=>False
noncomputable def bL (K:Frag) (f:List D->aa->Res D):Sp:=λvs H Q _=>∃w ds,w.H=H/\aH K w/\ao K w ds vs/\Out K dw w (f ds w.aC) λw' d=>∀v,DV K w' d v->Q v w'.H
section
variable {X:Cx} {Ξ:Wd->bD->Prop} {e a b c tg:Expr} {es rest:List Expr} {pos:Pos} {f g h:Env->aa->Res D} {fa:Env->aa->Res (List D)} {ft gt:Env->aa->Res Bool} {st:Stmt} {j8 zO:List Stmt} {fs gs:Env->aa->Res Fl}
theorem cu:cO X [] (tS X.K Ξ bA):=D2 Me λD σ H aw=>by
 obtain⟨w,env,eH,S,eo,h⟩:=aw
 subst eH
 exact aF S h σ eo
theorem aL (h1:PS X st (tS X.K Ξ fs)) (h2:cO X j8 (tS X.K Ξ gs)):cO X (st::j8) (tS X.K Ξ (ax fs gs)):=D2 (KG h1 h2) λD σ H aw=>by
 obtain⟨w,env,eH,S,eo,h⟩:=aw
 subst eH
 refine⟨w,env,rfl,S,eo,(Out.ak h).mono λw1 fl l1 S1 h1=>?_⟩
 cases fl with
 |nx az=>exact fun aO fx=>⟨w1,az,rfl,S1,fx,h1⟩
 |rt d=>have q:=aF S1 h1;exact q
 |bk az=>have q:=aF S1 h1;exact q
 |ct az=>have q:=aF S1 h1;exact q
theorem aK (h1:PS X st (tS X.K Ξ fs)):cO X [st] (tS X.K Ξ fs):=Mf h1
theorem aV (he:PE X e (tE X.K Ξ f)):PS X (.Return (some e) pos) (tS X.K Ξ (aG f)):=jL (N1 he) λD σ H aw=>by
 obtain⟨w,env,eH,S,eo,h⟩:=aw
 subst eH
 exact⟨w,env,rfl,S,eo,(Out.ak h).mono λw1 d l1 S1 h1=>aF S1 h1⟩
theorem kE (he:PE X e (tE X.K Ξ f)) (hs:swapsWith e none pos.line X.env=pure false:=by rfl):PS X (.Expr e pos) (tS X.K Ξ (fj f)):=jL (Mg he hs) λD σ H aw=>by
 obtain⟨w,env,eH,S,eo,h⟩:=aw
 subst eH
 exact⟨w,env,rfl,S,eo,(Out.ak h).mono λw1 d l1 S1 h1 _ _=>aF S1 h1 σ (eo.le l1)⟩
theorem cv (hc:PT X c (tT X.K Ξ ft)) (ha:cO X j8 (tS X.K Ξ fs)) (hb:cO X zO (tS X.K Ξ gs)):PS X (.If c j8 zO pos) (tS X.K Ξ (bt ft fs gs)):=jL (PL hc ha hb) λD σ H aw=>by
 obtain⟨w,env,eH,S,eo,h⟩:=aw
 subst eH
 refine⟨w,env,rfl,S,eo,(Out.ak h).mono λw1 b l1 S1 h1=>?_⟩
 cases b with
 |true=>exact⟨w1,env,rfl,S1,eo.le l1,h1⟩
 |false=>exact⟨w1,env,rfl,S1,eo.le l1,h1⟩
noncomputable def GR:Env->aa->Res Fl:=λ_ _=>none
theorem Lk:cO X j8 (tS X.K Ξ GR):=λ_ _ _ _ _ _ h=>by obtain⟨w,env,_,_,_,h⟩:=h;exact h.elim
noncomputable def gD (K:Frag) (g:D->Env->Option Env):TG:=λv σ H Q=>∃w env d az,w.H=H/\aH K w/\bJ K w env σ/\DV K w d v/\g d env=some az/\∀ aO,bJ K w az aO->Q aO H
noncomputable def sH (K:Frag) (g:List D->Env->Option Env):fQ:=λvs σ H Q=>∃w env ds az,w.H=H/\aH K w/\bJ K w env σ/\ao K w ds vs/\g ds env=some az/\∀ aO,bJ K w az aO->Q aO H
theorem EM {t t':TG} (h:PG X e t) (i:∀v σ H Q,t' v σ H Q->t v σ H Q):PG X e t':=λpins s σ H v u Q I r hq=>h pins s σ H v u Q I r (i v σ H Q hq)
theorem D4 {t t':fQ} (h:j5 X es t) (i:∀v σ H Q,t' v σ H Q->t v σ H Q):j5 X es t':=λpins s σ H v u Q I r hq=>h pins s σ H v u Q I r (i v σ H Q hq)
theorem gK (i:Nat) {x:Str} (hN:X.N.Nodup) (hi:X.N[i]?=some x:=by rfl) (hx:Loc X.env.scope x:=by first|exact Or.inl rfl|exact Or.inr rfl) (hf:X.fn x=true\/X.env.scope.names.lookup x=some .local:=by first|exact .inl rfl|exact .inr rfl):PG X (.Name x pos) (gD X.K (gN i)) :=
 EM (c8 hN hi hx hf) λv σ H Q aw=>by
  obtain⟨w,env,d,az,eH,S,eo,dv,eg,k⟩:=aw
  have e:env.set i (some d)=az:=Option.some.inj eg
  subst e
  exact k _ (eo.set dv i)
theorem EN:j5 X [] (sH X.K (fk [])):=D4 uG λvs σ H Q aw=>by
 obtain⟨w,env,ds,az,eH,S,eo,aq,eg,k⟩:=aw
 cases ds with
 |nil =>
  have e:env=az:=Option.some.inj eg
  subst e
  exact⟨aq,k _ eo⟩
 |cons d ds=>cases eg
theorem uM {g:D->Env->Option Env} {gl:List (D->Env->Option Env)} (h1:PG X e (gD X.K g)) (h2:j5 X es (sH X.K (fk gl)))
  (hs:(assignEach (e::es) X.env).map (·.2)=assign e X.env::(assignEach es X.env).map (·.2):=by rfl):j5 X (e::es) (sH X.K (fk (g::gl))):=D4 (mL h1 h2 hs) λvs σ H Q aw=>by
 obtain⟨w,env,ds,az,eH,S,eo,aq,eg,k⟩:=aw
 cases ds with
 |nil=>cases eg
 |cons d ds =>
  obtain⟨v,r,rfl,dv,dr⟩:=aq
  simp only[fk] at eg
  cases pP:g d env with
  |none=>rw[pP] at eg;cases eg
  |some vI =>
   rw[pP] at eg
   refine⟨v,r,rfl,w,env,d,vI,eH,S,eo,dv,pP,fun nD Td=>⟨w,vI,ds,az,eH,S,Td,dr,eg,k⟩⟩
theorem xB:∀{gl:List (D->Env->Option Env)} {ds:List D} {env az:Env},fk gl ds env=some az->ds.length=gl.length
 | [],[],_,_,_=>rfl
 |g::gl,d::ds,env,az,h=>by
  simp only[fk] at h
  cases pP:g d env with
  |none=>rw[pP] at h;cases h
  |some e1=>rw[pP] at h;simp[xB h]
 | [],_::_,_,_,h=>by cases h
 |_::_,[],_,_,h=>by cases h
theorem Fp {gl:List (D->Env->Option Env)} {k:Nat} (hc:X.calm=true) (h:j5 X es (sH X.K (fk gl))) (hn:(assignEach es X.env).length=gl.length:=by rfl) (Ae:(assignEach es X.env).findIdx? (·.1)=none:=by rfl):PG X (.Tuple es k pos) (gD X.K (gT gl)) :=
 EM (uV hc h hn Ae) λv σ H Q aw=>by
  obtain⟨w,env,d,az,eH,S,eo,dv,eg,k⟩:=aw
  cases d with
  |tup ds =>
   simp only[DV] at dv
   obtain⟨p,xs,e1,hq,aq⟩:=dv
   subst eH
   exact⟨p,xs,e1,hq,by rw[<- aq.length];exact xB eg,w,env,ds,az,rfl,S,eo,aq,eg,k⟩
  |_=>cases eg
theorem MM {K:Frag} {g:D->Env->Option Env} (D:Ends) (σ:St) (H:Hp):tS K Ξ (bq f g) D σ H->rg (tE K Ξ f) (gD K g) D σ H:=by
 rintro ⟨w,env,rfl,S,eo,h⟩
 refine⟨w,env,rfl,S,eo,(Out.ak h).mono λw1 d l1 S1 h1 v dv=>?_⟩
 cases hg:g d env with
 |none=>rw[hg] at h1;exact h1.elim
 |some az =>
  rw[hg] at h1
  exact⟨w1,env,d,az,rfl,S1,eo.le l1,dv,hg,aF S1 h1⟩
theorem J3 {K:Frag} {te:TE} {i:Nat} (D:Ends) (σ:St) (H:Hp):rg (tE K Ξ f) (gD K (gN i)) D σ H->rg (tE K Ξ f) (mV i) D σ H:=by
 rintro ⟨w,env,rfl,S,eo,h⟩
 refine⟨w,env,rfl,S,eo,h.mono λw1 d l1 S1 h1 v dv=>?_⟩
 obtain⟨w',vI,d',az,e',S',fx,j9,eg,k⟩:=h1 v dv
 have e:vI.set i (some d')=az:=Option.some.inj eg
 subst e
 exact k _ (fx.set j9 i)
theorem cB (i:Nat) {x:Str} {pos':Pos} (hN:X.N.Nodup) (he:PE X e (tE X.K Ξ f)) (hi:X.N[i]?=some x:=by rfl) (hx:Loc X.env.scope x:=by first|exact Or.inl rfl|exact Or.inr rfl) (hs:swapsWith e (some (.Name x pos')) pos.line X.env=pure false:=by rfl) (hf:X.fn x=true\/X.env.scope.names.lookup x=some .local:=by first|exact .inl rfl|exact .inr rfl) :
  PS X (.Assign [.Name x pos'] e pos) (tS X.K Ξ (bq f (gN i))):=jL (N4 hN hi hx he hs hf) λD σ H h=>J3 (te:=tE X.K Ξ f) D σ H (MM D σ H h)
def nN (K:Frag) (w:Wd) (J:It) (ds:List D):Prop:=∀w',Le K w w'->aH K w'->∀i,
 (∀d,ds[i]?=some d->J.go i w'.H/\∀x H',J.rZ i w'.H x H'->∃w2,w2.H=H'/\Le K w' w2/\aH K w2/\w2.aC=w'.aC/\DV K w2 d x)/\(ds.length<=i->J.stop i w'.H)
noncomputable def gC (K:Frag) (Ξ:Wd->bD->Prop) (f:Env->aa->Res (List D)):TI:=fun σ H R=>∃w env,w.H=H/\aH K w/\bJ K w env σ/\Out K Ξ w (f env w.aC) λw' ds=>∀J,nN K w' J ds->R J w'.H
theorem uX {t t':TI} (h:PI X tg e t) (i:∀ σ H R,t' σ H R->t σ H R):PI X tg e t':=λpins s σ H R I hq=>h pins s σ H R I (i σ H R hq)
theorem MN {K:Frag} {it:Env->aa->Res (List D)} {g:D->Env->Option Env} (D0:Ends) (σ:St) (H:Hp):tS K Ξ (eT it g fs) D0 σ H->FY (gC K Ξ it) (gD K g) (tS K Ξ fs) D0 σ H:=by
 rintro ⟨w,env,rfl,S,eo,h⟩
 refine⟨w,env,rfl,S,eo,(Out.ak h).mono λw1 ds l1 S1 h1 J hJ=>?_⟩
 refine⟨λi m aO H'=>m=ds.length-i/\i<=ds.length/\∃w' az,w'.H=H'/\Le K w1 w'/\aH K w'/\bJ K w' az aO/\Out K Ξ w' (jO g fs (ds.drop i) az w'.aC) (rB K D0),
  ⟨ds.length,rfl,Nat.zero_le _,w1,env,rfl,Le.refl _,S1,eo.le l1,h1⟩,?_⟩
 rintro i m aO H' ⟨rfl,hi,w',az,rfl,l',S',fx,h'⟩
 by_cases aU:i<ds.length
 ·right
  obtain⟨fY,hy⟩:=(hJ w' l' S' i).1 _ (List.getElem?_eq_getElem aU)
  rw[List.drop_eq_getElem_cons aU] at h'
  simp only[jO] at h'
  cases hg:g ds[i] az with
  |none=>rw[hg] at h';exact h'.elim
  |some iD =>
   rw[hg] at h'
   refine⟨fY,fun iJ H2=>∃w2 ng,w2.H=H2/\Le K w1 w2/\aH K w2/\bJ K w2 ng iJ/\Out K Ξ w2 (jO g fs (ds.drop (i+1)) ng w2.aC) (rB K D0),fun iJ H2 ⟨w2,ng,q⟩=>⟨ds.length-(i+1),by omega,rfl,aU,w2,ng,q⟩,λx H2 y=>?_⟩
   obtain⟨w2,rfl,l2,S2,es,dv⟩:=hy x H2 y
   refine⟨w2,az,ds[i],iD,rfl,S2,fx.le l2,dv,hg,fun iJ ka=>⟨w2,iD,rfl,S2,ka,?_⟩⟩
   rw[<- es] at h'
   refine(Out.ak (h'.from l2)).mono λw3 fl l3 S3 h3=>?_
   cases fl with
   |nx e3=>exact fun ee nO=>⟨w3,e3,rfl,l'.trans (l2.trans l3),S3,nO,h3⟩
   |ct e3=>exact fun ee nO=>⟨w3,e3,rfl,l'.trans (l2.trans l3),S3,nO,h3⟩
   |bk e3=>have q:=aF S3 h3;exact q
   |rt d=>have q:=aF S3 h3;exact q
 ·left
  have e:i=ds.length:=by omega
  subst e
  rw[List.drop_length] at h'
  exact⟨(hJ w' l' S' _).2 (Nat.le_refl _),aF S' h' aO fx⟩
theorem iZ {iter:Expr} {it:Env->aa->Res (List D)} {g:D->Env->Option Env} (hp:PassesOwn (model X.prog X.w) X.A X.env X.xe) (hc:X.calm=true) (hi:PI X tg iter (gC X.K Ξ it)) (hg:PG X tg (gD X.K g)) (hb:cO X j8 (tS X.K Ξ fs))
  (hs:∀x,foldedSetIterable iter X.env x=pure x:=by intro _;rfl):PS X (.For tg iter j8 [] pos) (tS X.K Ξ (eT it g fs)):=jL (N7 hp hc hi hg hb hs) MN
theorem MO {K:Frag} {n:Nat} (D0:Ends) (σ:St) (H:Hp):tS K Ξ (vH n ft fs) D0 σ H->Et (tT K Ξ ft) (tS K Ξ fs) D0 σ H:=by
 rintro ⟨w,env,rfl,S,eo,h⟩
 refine⟨λm aO H'=>∃w' az,w'.H=H'/\aH K w'/\bJ K w' az aO/\Out K Ξ w' (lN ft fs m az w'.aC) (rB K D0),⟨n,w,env,rfl,S,eo,h⟩,?_⟩
 rintro m aO H' ⟨w',az,rfl,S',fx,h'⟩
 cases m with
 |zero=>exact h'.elim
 |succ m =>
  simp only[lN] at h'
  refine⟨w',az,rfl,S',fx,(Out.ak h').mono λw1 b l1 S1 h1=>?_⟩
  cases b with
  |true =>
   refine⟨fun iJ H2=>∃w2 ng,w2.H=H2/\aH K w2/\bJ K w2 ng iJ/\Out K Ξ w2 (lN ft fs m ng w2.aC) (rB K D0),fun iJ H2 q=>⟨m,Nat.lt_succ_self m,q⟩,w1,az,rfl,S1,fx.le l1,(Out.ak h1).mono λw3 fl l3 S3 h3=>?_⟩
   cases fl with
   |nx e3=>exact fun ee nO=>⟨w3,e3,rfl,S3,nO,h3⟩
   |ct e3=>exact fun ee nO=>⟨w3,e3,rfl,S3,nO,h3⟩
   |bk e3=>have q:=aF S3 h3;exact q
   |rt d=>have q:=aF S3 h3;exact q
  |false=>exact aF S1 h1 aO (fx.le l1)
theorem Qo (n:Nat) (hp:PassesOwn (model X.prog X.w) X.A X.env X.xe) (hc:PT X c (tT X.K Ξ ft)) (hb:cO X j8 (tS X.K Ξ fs)):PS X (.While c j8 [] pos) (tS X.K Ξ (vH n ft fs)):=jL (KH hp hc hb) MO
theorem Out.ne {α:Type} {K:Frag} {w:Wd} {r:Res α} {k:Wd->α->Prop} (h:Out K Ξ w (DI.ne r) k):Out K dw w r k:=by
 match r,h with
 |some (.ok a,s),h=>exact h
theorem bJ.block {K:Frag} {w:Wd} {env:Env} {σ:St} (h:bJ K w env σ) (nt:Nat) (cap:List Nat) (o:St) (ho:o.length=nt):bJ K w (List.replicate nt none++iA cap env) (o++lL cap σ):=by
 refine⟨by simp[iA,lL,ho],λi d e=>?_⟩
 by_cases hi:i<nt
 ·rw[List.getElem?_append_left (by simpa using hi),List.getElem?_replicate,if_pos hi] at e
  cases e
 ·rw[List.getElem?_append_right (by simpa using Nat.le_of_not_lt hi)] at e
  rw[List.getElem?_append_right (by omega),ho]
  simp only[List.length_replicate] at e
  unfold iA at e
  unfold lL
  rw[List.getElem?_map] at e |-
  cases ej:cap[i-nt]? with
  |none=>rw[ej] at e;cases e
  |some j =>
   rw[ej] at e
   have ev:(env[j]?).getD none=some d:=Option.some.inj e
   have sv:env[j]?=some (some d):=by
    cases q:env[j]? with
    |none=>rw[q] at ev;cases ev
    |some z=>rw[q] at ev;exact congrArg some ev
   obtain⟨v,e1,e2⟩:=h.val j d sv
   exact⟨v,by rw[Option.map_some,e1];rfl,e2⟩
theorem Ll {K:Frag} {nt:Nat} {cap:List Nat} {it:Env->aa->Res (List D)} {g:D->Env->Option Env} (σ:St) (H:Hp) (Q:VK) :
  tE K Ξ (cL nt cap it g ft f) σ H Q->qK (gC K Ξ it) nt cap (gD K g) (tT K dw ft) (tE K dw f) σ H Q:=by
 rintro ⟨w,env,rfl,S,eo,h⟩
 refine⟨w,env,rfl,S,eo,(Out.ak h).mono λw1 ds l1 S1 h1 J hJ=>?_⟩
 obtain⟨hz,h1⟩:=qj h1
 refine⟨λi m acc H'=>m=ds.length-i/\i<=ds.length/\acc.length<=i/\∃w' accD,w'.H=H'/\Le K w1 w'/\aH K w'/\ao K w' accD acc/\Out K Ξ w' (gg nt (iA cap env) g ft f (ds.drop i) w'.aC) λw2 xs=>∀vs,ao K w2 (accD++xs) vs->∀p,w2.H p=none->Q (.ref p) (upd w2.H p (.lst vs)),
  ⟨ds.length,rfl,Nat.zero_le _,Nat.zero_le _,w1,[],rfl,Le.refl _,S1,rfl,(Out.ak h1).mono λw2 xs l2 S2 h2 vs aq p hp=>?_⟩,?_⟩
 ·exact h2 (w2.grow p (.lst vs)) (Fw.grow hp).le (S2.grow hp) rfl (.ref p) ⟨p,vs,rfl,⟨(show ¬ w2.Z p from lH S2 hp),ck⟩,(Fw.grow hp).le.all aq⟩
 rintro i m acc H' ⟨rfl,hi,ha,w',accD,rfl,l',S',da,h'⟩
 by_cases aU:i<ds.length
 ·right
  obtain⟨fY,hy⟩:=(hJ w' l' S' i).1 _ (List.getElem?_eq_getElem aU)
  rw[List.drop_eq_getElem_cons aU] at h'
  simp only[gg] at h'
  cases hg:g ds[i] (List.replicate nt none++iA cap env) with
  |none=>rw[hg] at h';exact h'.elim
  |some iD =>
   rw[hg] at h'
   refine⟨fY,by omega,λvJ H2=>vJ.length<=i+1/\∃w' accD,w'.H=H2/\Le K w1 w'/\aH K w'/\ao K w' accD vJ/\Out K Ξ w' (gg nt (iA cap env) g ft f (ds.drop (i+1)) w'.aC) λw2 xs=>∀vs,ao K w2 (accD++xs) vs->∀p,w2.H p=none->Q (.ref p) (upd w2.H p (.lst vs)),
    λvJ H2 ⟨Te,q⟩=>⟨ds.length-(i+1),by omega,rfl,aU,Te,q⟩,λo x H3 ho y=>?_⟩
   obtain⟨w2,rfl,l2,S2,es,dv⟩:=hy x H3 y
   refine⟨w2,_,ds[i],iD,rfl,S2,(eo.le (l1.trans (l'.trans l2))).block nt cap o ho,dv,hg,fun iJ ka=>?_⟩
   rw[<- es] at h'
   refine⟨w2,iD,rfl,S2,ka,(Out.ak (h'.from l2)).ne.mono λw3 b l3 S3 h3=>?_⟩
   cases b with
   |true =>
    refine⟨w3,iD,rfl,S3,ka.le l3,(Out.ak h3).ne.mono λw4 d l4 S4 h4 v AD=>⟨by rw[List.length_append];simp;omega,w4,accD++[d],rfl,l'.trans (l2.trans (l3.trans l4)),S4,ao.append ((l2.trans (l3.trans l4)).all da) (ao.one AD),(Out.ak h4).mono λw5 xs l5 S5 h5 vs aq p hp=>?_⟩⟩
    exact aF S5 h5 vs (by rw[List.append_assoc] at aq;exact aq) p hp
   |false =>
    exact⟨by omega,w3,accD,rfl,l'.trans (l2.trans l3),S3,(l2.trans l3).all da,h3⟩
 ·left
  have e:i=ds.length:=by omega
  subst e
  rw[List.drop_length] at h'
  refine⟨(hJ w' l' S' _).2 (Nat.le_refl _),by omega,λp hp=>aF S' h' acc (by rw[List.append_nil];exact da) p hp⟩
end
end DI
namespace DI
open PySem L2
theorem D5 {o caps:St} {v:V} {i nt:Nat} (ho:o.length=nt) (hi:i<nt):(o++caps).set i (some v)=o.set i (some v)++caps:=by
 rw[List.set_append_left _ _ (by omega)]
theorem J4 {i nt:Nat} (hi:i<nt):md (mV i) nt:=by
 intro x o caps H R ho h
 exact⟨⟨o.set i (some x),by rw[List.length_set];exact ho,D5 ho hi⟩,h⟩
def rE (g:fQ) (nt:Nat):Prop:=∀(xs:List V) (o caps:St) (H:Hp) (R:St->Hp->Prop),o.length=nt->g xs (o++caps) H R->g xs (o++caps) H fun τ H2=>(∃o2:St,o2.length=nt/\τ=o2++caps)/\R τ H2
theorem Lm {nt:Nat}:rE zq nt:=λxs o caps H R ho h=>⟨h.1,⟨o,ho,rfl⟩,h.2⟩
theorem J5 {i nt:Nat} {g:fQ} (hi:i<nt) (hg:rE g nt):rE (yP (mV i) g) nt:=by
 rintro xs o caps H R ho ⟨v,r,e,h⟩
 refine⟨v,r,e,?_⟩
 have h:g r ((o++caps).set i (some v)) H R:=h
 show g r ((o++caps).set i (some v)) H _
 rw[D5 ho hi] at h |-
 exact hg r _ caps H R (by rw[List.length_set];exact ho) h
theorem Ln {K:Frag} {n nt:Nat} {g:fQ} (hg:rE g nt):md (zr K n g) nt:=by
 rintro x o caps H R ho ⟨a,xs,e,hq,hl,h⟩
 exact⟨a,xs,e,hq,hl,hg xs o caps H R ho h⟩
structure Tg (K:Frag) (g0:TG) (g:D->Env->Option Env) (nt:Nat):Prop where
 pQ:md g0 nt
 imp:∀v σ H Q,gD K g v σ H Q->g0 v σ H Q
structure wG (K:Frag) (g0:fQ) (g:List (D->Env->Option Env)) (nt:Nat):Prop where
 pQ:rE g0 nt
 imp:∀v σ H Q,sH K (fk g) v σ H Q->g0 v σ H Q
theorem ff {K:Frag} (i:Nat) {nt:Nat} (hi:i<nt:=by decide):Tg K (mV i) (gN i) nt:=⟨J4 hi,λv σ H Q aw=>by
 obtain⟨w,env,d,az,eH,S,eo,dv,eg,k⟩:=aw
 have e:env.set i (some d)=az:=Option.some.inj eg
 subst e
 exact k _ (eo.set dv i)⟩
theorem yc {K:Frag} {nt:Nat}:wG K zq [] nt:=⟨Lm,λvs σ H Q aw=>by
 obtain⟨w,env,ds,az,eH,S,eo,aq,eg,k⟩:=aw
 cases ds with
 |nil =>
  have e:env=az:=Option.some.inj eg
  subst e
  exact⟨aq,k _ eo⟩
 |cons d ds=>cases eg⟩
theorem om {K:Frag} (i:Nat) {nt:Nat} {g0:fQ} {gl:List (D->Env->Option Env)} (h:wG K g0 gl nt) (hi:i<nt:=by decide):wG K (yP (mV i) g0) (gN i::gl) nt:=⟨J5 hi h.pQ,λvs σ H Q aw=>by
 obtain⟨w,env,ds,az,eH,S,eo,aq,eg,k⟩:=aw
 cases ds with
 |nil=>cases eg
 |cons d ds =>
  obtain⟨v,r,rfl,dv,dr⟩:=aq
  exact⟨v,r,rfl,h.imp _ _ _ _ ⟨w,_,ds,az,eH,S,eo.set dv i,dr,eg,k⟩⟩⟩
theorem yw {K:Frag} {nt n:Nat} {g0:fQ} {gl:List (D->Env->Option Env)} (h:wG K g0 gl nt) (hn:gl.length=n:=by rfl):Tg K (zr K n g0) (gT gl) nt:=⟨Ln h.pQ,λv σ H Q aw=>by
 obtain⟨w,env,d,az,eH,S,eo,dv,eg,k⟩:=aw
 cases d with
 |tup ds =>
  simp only[DV] at dv
  obtain⟨p,xs,e1,hq,aq⟩:=dv
  subst eH
  exact⟨p,xs,e1,hq,by rw[<- aq.length,xB eg];exact hn,h.imp _ _ _ _ ⟨w,env,ds,az,rfl,S,eo,aq,eg,k⟩⟩
 |_=>cases eg⟩
section
variable {X:Cx} {Ξ:Wd->bD->Prop} {e a b c tg el src:Expr} {es rest tests:List Expr} {pos:Pos} {f g h:Env->aa->Res D} {fa:Env->aa->Res (List D)} {ft gt:Env->aa->Res Bool} {st:Stmt} {j8 zO:List Stmt} {fs gs:Env->aa->Res Fl}
theorem OA {t t':TT} (h:PF X tests t) (i:∀ σ H Q,t' σ H Q->t σ H Q):PF X tests t':=λpins s σ H Q I hq=>h pins s σ H Q I (i σ H Q hq)
theorem gQ {K:Frag}:PF X [] (tT K Ξ dI):=OA Oq fun σ H Q aw=>by
 obtain⟨w,env,eH,S,eo,h⟩:=aw
 subst eH
 exact aF S h
theorem oQ {K:Frag} (h:PT X c (tT K Ξ ft)):PF X [c] (tT K Ξ ft):=Ot h
theorem Jm {wi:TI} {nt:Nat} {cap:List Nat} {g0 g1:TG} {tf:TT} {te:TE} (i_:∀v σ H Q,g1 v σ H Q->g0 v σ H Q) {σ:St} {H:Hp} {Q:VK} (wm:∀R R':It->Hp->Prop,(∀J H',R J H'->R' J H')->wi σ H R->wi σ H R') (h:qK wi nt cap g1 tf te σ H Q):qK wi nt cap g0 tf te σ H Q:=by
 refine wm _ _ (λJ H' hc=>?_) h
 obtain⟨W,w0,step⟩:=hc
 refine⟨W,w0,λi m acc H2 hw=>?_⟩
 rcases step i m acc H2 hw with q | ⟨q1,q2,N,q3,q4⟩
 ·exact .inl q
 ·exact .inr ⟨q1,q2,N,q3,λo x H3 ho y=>i_ _ _ _ _ (q4 o x H3 ho y)⟩
theorem Lo {K:Frag} {it:Env->aa->Res (List D)} {σ:St} {H:Hp} (R R':It->Hp->Prop) (i:∀J H',R J H'->R' J H') (h:gC K Ξ it σ H R):gC K Ξ it σ H R':=by
 obtain⟨w,env,eH,S,eo,h⟩:=h
 exact⟨w,env,eH,S,eo,h.mono λw1 ds _ _ h1 J hJ=>i J _ (h1 J hJ)⟩
noncomputable def c9 (f:Env->aa->Res D):Env->aa->Res (List D):=λenv s=>ak (f env s) λd s=>match d with
 | .lst ds=>ok ds s
 | .tup ds=>ok ds s
 |_=>none
theorem Lp {K:Frag} {w:Wd} {a:Addr} {ds:List D} (h:DV K w (.lst ds) (.ref a)):nN K w (Af K a) ds:=λw' l' S' i=>by
 have h':=l' _ _ h
 simp only[DV] at h'
 obtain⟨p,xs,e,hq,aq⟩:=h'
 cases e
 refine⟨λd ed=>?_,λhl=>⟨xs,hq.sq,by rw[<- aq.length];exact hl⟩⟩
 obtain⟨v,ev,dv⟩:=aq.get' i d ed
 exact⟨⟨xs,v,hq.sq,ev⟩,λx H' ⟨e1,e2⟩=>⟨w',e1.symm,Le.refl _,S',rfl,by
  have q:=e2 xs hq.sq
  rw[ev] at q
  cases q
  exact dv⟩⟩
theorem MP {K:Frag} {w:Wd} {a:Addr} {ds:List D} (h:DV K w (.tup ds) (.ref a)):nN K w (Ag K a) ds:=λw' l' S' i=>by
 have h':=l' _ _ h
 simp only[DV] at h'
 obtain⟨p,xs,e,hq,aq⟩:=h'
 cases e
 refine⟨λd ed=>?_,λhl=>⟨xs,hq,by rw[<- aq.length];exact hl⟩⟩
 obtain⟨v,ev,dv⟩:=aq.get' i d ed
 exact⟨⟨xs,v,hq,ev⟩,λx H' ⟨e1,e2⟩=>⟨w',e1.symm,Le.refl _,S',rfl,by
  have q:=e2 xs hq
  rw[ev] at q
  cases q
  exact dv⟩⟩
theorem gp (hl:PE X a (tE X.K Ξ f)):PI X tg a (gC X.K Ξ (c9 f)):=by
 have both:PI X tg a (fun σ H R=>Fe X.K (tE X.K Ξ f) σ H R\/FX X.K (tE X.K Ξ f) σ H R):=λpins s σ H R I h=>h.elim (Mh hl pins s σ H R I) (N6 hl pins s σ H R I)
 refine uX both fun σ H R ⟨w,env,eH,S,eo,h⟩=>?_
 subst eH
 simp only[c9] at h
 cases hf:f env w.aC with
 |none=>rw[hf] at h;exact h.elim
 |some r =>
  obtain⟨r,s⟩:=r
  rw[hf] at h
  cases r with
  |error x=>exact .inl ⟨w,env,rfl,S,eo,by rw[hf];exact h⟩
  |ok d =>
   rw[eG] at h
   cases d with
   |lst ds =>
    refine .inl ⟨w,env,rfl,S,eo,?_⟩
    rw[hf]
    intro w1 l1 S1 e1 v dv
    have j9:=dv
    simp only[DV] at dv
    obtain⟨p,xs,rfl,hq,aq⟩:=dv
    exact⟨p,rfl,⟨xs,hq.sq⟩,h w1 l1 S1 e1 _ (Lp j9)⟩
   |tup ds =>
    refine .inr ⟨w,env,rfl,S,eo,?_⟩
    rw[hf]
    intro w1 l1 S1 e1 v dv
    have j9:=dv
    simp only[DV] at dv
    obtain⟨p,xs,rfl,hq,aq⟩:=dv
    exact⟨p,rfl,⟨xs,hq⟩,h w1 l1 S1 e1 _ (MP j9)⟩
   |_=>exact h.elim
noncomputable def bF (lo:Int) (n:Nat):List D:=(List.range n).map λ(i:Nat)=>D.int (lo+(i:Int))
theorem kz {lo:Int} {n i:Nat}:(bF lo n)[i]?=if i<n then some (.int (lo+i)) else none:=by
 unfold bF
 rw[List.getElem?_map]
 by_cases h:i<n
 ·rw[List.getElem?_range h,if_pos h];rfl
 ·rw[List.getElem?_eq_none (by simp;omega),if_neg h];rfl
theorem iV {lo:Int} {n:Nat}:(bF lo n).length=n:=by simp[bF]
theorem MQ {K:Frag} {w:Wd} {lo:Int} {n:Nat}:nN K w (wg lo n) (bF lo n):=λw' l' S' i=>by
 refine⟨λd ed=>?_,λhl=>by rw[iV] at hl;exact hl⟩
 rw[kz] at ed
 split at ed
 ·cases ed
  exact⟨by assumption,λx H' ⟨e1,e2⟩=>⟨w',e1.symm,Le.refl _,S',rfl,e2⟩⟩
 ·cases ed
noncomputable def qP (j:Int):Bool:=decide (-(2 ^ 62)<=j)&&decide (j<2 ^ 62)
noncomputable def dS (fa:Env->aa->Res (List D)):Env->aa->Res (List D):=λenv s=>ak (fa env s) λds s=>match ds with
 | [.int j]=>if qP j=true then ok (bF 0 j.toNat) s else none
 |_=>none
theorem iW {p:Pos} (hg:Gl X "range") (hm:X.mg "range"=none) (ha:PA X [a] (tA X.K Ξ fa)) (hs:starEach [a] X.env=[(false,eval a X.env)]:=by rfl):PI X tg (.Call (.Name "range" p) [a] [] pos) (gC X.K Ξ (dS fa)) :=
 uX (JK hg hm ha hs) fun σ H R aw=>by
  obtain⟨w,env,eH,S,eo,h⟩:=aw
  subst eH
  refine⟨w,env,rfl,S,eo,(Out.ak h).mono λw1 ds l1 S1 h1 vs aq=>?_⟩
  split at h1
  ·rename_i j
   split at h1
   ·rename_i hj
    simp only[qP,Bool.and_eq_true,decide_eq_true_eq] at hj
    obtain⟨v,r,rfl,dv,dr⟩:=aq
    have e1:v=.int j:=dv
    have e2:r=[]:=dr
    subst e1 e2
    exact⟨j,rfl,hj.1,hj.2,aF S1 h1 _ MQ⟩
   ·exact h1.elim
  ·exact h1.elim
noncomputable def iE (xs ys:List D):List D:=(xs.zip ys).map λp=>.tup [p.1,p.2]
theorem Lq {xs ys:List D} {i:Nat} {d:D} (h:(iE xs ys)[i]?=some d):∃x y,xs[i]?=some x/\ys[i]?=some y/\d=.tup [x,y]:=by
 unfold iE at h
 rw[List.getElem?_map] at h
 cases hz:(xs.zip ys)[i]? with
 |none=>rw[hz] at h;cases h
 |some p =>
  rw[hz] at h
  obtain⟨q1,q2⟩:=List.getElem?_zip_eq_some.mp hz
  exact⟨p.1,p.2,q1,q2,(Option.some.inj h).symm⟩
theorem Dp {xs ys:List D}:(iE xs ys).length=min xs.length ys.length:=by simp[iE]
theorem C2 {K:Frag} {w':Wd} {d d2:D} {x y:V} {p:Addr} (S':aH K w') (hp:w'.H p=none) (h1:DV K w' d x) (h2:DV K w' d2 y) :
  ∃w2,w2.H=upd w'.H p (.tup [x,y])/\Le K w' w2/\aH K w2/\w2.aC=w'.aC/\DV K w2 (.tup [d,d2]) (.ref p) :=
 ⟨w'.grow p (.tup [x,y]),rfl,(Fw.grow hp).le,S'.grow hp,rfl,p,[x,y],rfl,aP.of ck,(Fw.grow hp).le.all (ao.two h1 h2)⟩
theorem Lr {K:Frag} {w:Wd} {a b:Addr} {ds es:List D} (h:DV K w (.tup ds) (.ref a)) (g:DV K w (.tup es) (.ref b)):nN K w (zD K a b) (iE ds es):=λw' l' S' i=>by
 have h':=l' _ _ h
 have g':=l' _ _ g
 simp only[DV] at h' g'
 obtain⟨p,xs,e,hq,aq⟩:=h'
 obtain⟨q,ys,e',gq,GS⟩:=g'
 cases e;cases e'
 refine⟨λd ed=>?_,λhl=>⟨xs,ys,hq,gq,?_⟩⟩
 ·obtain⟨x,y,e1,e2,rfl⟩:=Lq ed
  obtain⟨v,ev,dv⟩:=aq.get' i x e1
  obtain⟨u,eu,du⟩:=GS.get' i y e2
  refine⟨⟨xs,ys,v,u,hq,gq,ev,eu⟩,λz H' ⟨r,x1,y1,hr,ez,eH,AE⟩=>?_⟩
  obtain⟨q1,q2⟩:=AE xs ys hq gq
  rw[ev] at q1;rw[eu] at q2
  cases q1;cases q2
  subst ez eH
  exact C2 S' hr dv du
 ·rw[Dp] at hl
  have:=aq.length
  have:=GS.length
  omega
noncomputable def lU (fa:Env->aa->Res (List D)):Env->aa->Res (List D):=λenv s=>ak (fa env s) λds s=>match ds with
 | [.tup xs,.tup ys]=>ok (iE xs ys) s
 |_=>none
theorem yX {p:Pos} {elts:List Expr} {kk:Nat} {rl:Pos} (hg:Gl X "zip") (hm:X.mg "zip"=none) (ha:PA X [a,b] (tA X.K Ξ fa)) (hs:starEach [a,b] X.env=[(false,eval a X.env),(false,eval b X.env)]:=by rfl) (kX:starEach [b] X.env=[(false,eval b X.env)]:=by rfl) :
  PI X (.Tuple elts kk rl) (.Call (.Name "zip" p) [a,b] [] pos) (gC X.K Ξ (lU fa)):=by
 refine uX (Mz hg hm ha hs kX) fun σ H R aw=>?_
 obtain⟨w,env,eH,S,eo,h⟩:=aw
 subst eH
 refine⟨w,env,rfl,S,eo,(Out.ak h).mono λw1 ds l1 S1 h vs aq=>?_⟩
 split at h
 ·obtain⟨v,r,rfl,dv,v2,r2,rfl,nM,dr⟩:=aq
  have e3:r2=[]:=dr
  subst e3
  have q1:=dv
  have q2:=nM
  simp only[DV] at q1 q2
  obtain⟨p,xs,rfl,hq,_⟩:=q1
  obtain⟨q,ys,rfl,gq,_⟩:=q2
  exact⟨p,q,xs,ys,rfl,hq,gq,aF S1 h _ (Lr dv nM)⟩
 ·exact h.elim
noncomputable def iB (xs:List D):List D:=xs.zipIdx.map λp=>.tup [.int p.2,p.1]
theorem J6 {K:Frag} {w:Wd} {a:Addr} {ds:List D} (h:DV K w (.tup ds) (.ref a)):nN K w (zL K a) (iB ds):=λw' l' S' i=>by
 have h':=l' _ _ h
 simp only[DV] at h'
 obtain⟨p,xs,e,hq,aq⟩:=h'
 cases e
 refine⟨λd ed=>?_,λhl=>⟨xs,hq,by rw[<- aq.length];simpa [iB] using hl⟩⟩
 unfold iB at ed
 rw[List.getElem?_map,List.getElem?_zipIdx] at ed
 cases hx:ds[i]? with
 |none=>rw[hx] at ed;cases ed
 |some x =>
  rw[hx] at ed
  have ed:D.tup [.int ((0+i:Nat):Int),x]=d:=Option.some.inj ed
  rw[Nat.zero_add] at ed
  subst ed
  obtain⟨v,ev,dv⟩:=aq.get' i x hx
  refine⟨⟨xs,v,hq,ev⟩,λz H' ⟨r,x1,hr,ez,eH,AE⟩=>?_⟩
  have q1:=AE xs hq
  rw[ev] at q1
  cases q1
  subst ez eH
  exact C2 S' hr rfl dv
noncomputable def qQ (fa:Env->aa->Res (List D)):Env->aa->Res (List D):=λenv s=>ak (fa env s) λds s=>match ds with
 | [.tup xs]=>ok (iB xs) s
 |_=>none
theorem EO {p:Pos} {elts:List Expr} {kk:Nat} {rl:Pos} (hg:Gl X "enumerate") (hm:X.mg "enumerate"=none) (ha:PA X [a] (tA X.K Ξ fa)) (hs:starEach [a] X.env=[(false,eval a X.env)]:=by rfl) :
  PI X (.Tuple elts kk rl) (.Call (.Name "enumerate" p) [a] [] pos) (gC X.K Ξ (qQ fa)) :=
 uX (Lj hg hm ha hs) fun σ H R aw=>by
  obtain⟨w,env,eH,S,eo,h⟩:=aw
  subst eH
  refine⟨w,env,rfl,S,eo,(Out.ak h).mono λw1 ds l1 S1 h1 vs aq=>?_⟩
  split at h1
  ·obtain⟨v,r,rfl,dv,dr⟩:=aq
   have e3:r=[]:=dr
   subst e3
   have q1:=dv
   simp only[DV] at q1
   obtain⟨p,xs,rfl,hq,_⟩:=q1
   exact⟨p,xs,rfl,hq,aF S1 h1 _ (J6 dv)⟩
  ·exact h1.elim
noncomputable def aB (fn:List D->aa->Res D) (fa:Env->aa->Res (List D)):Env->aa->Res D:=λenv s=>ak (fa env s) λds s=>ne (fn ds s)
theorem aQ {k:Nat} {fA:Addr} {fd:FuncData} {GU:List Str} {fn:List D->aa->Res D} {x:Str} {p:Pos} (F:bg X.prog X.w X.K X.mg X.base bB k fA fd GU (bL X.K fn)) (hr:bV k X.A) (hg:Gl X x) (hm:X.mg x=some (.ref fA)) (hk:PySem.W.keepIn X.K (.ref fA)=true) (hb:Binds X.K fd GU [])
  (ha:PA X (e::es) (tA X.K Ξ fa)) (jt:(x==("__debug__":Str))=false:=by decide) (he:starEach (e::es) X.env=(false,eval e X.env)::starEach es X.env:=by rfl) (bX:(backTo pos (starEach es X.env)).any (·.1)=false:=by rfl) :
  PE X (.Call (.Name x p) (e::es) [] pos) (tE X.K Ξ (aB fn fa)):=b9 (Mm F hr hg hm hk hb .nil Qa ha jt he bX) fun σ H Q aw=>by
 obtain⟨w,env,eH,S,eo,h⟩:=aw
 subst eH
 refine⟨w,env,rfl,S,eo,(Out.ak h).mono λw1 ds l1 S1 h1 vs aq=>?_⟩
 show bL X.K fn (vs++[]) w1.H Q E0
 rw[List.append_nil]
 exact⟨w1,ds,rfl,S1,aq,h1.ne⟩
theorem ao.env {K:Frag} {w:Wd} {ds:List D} {vs:List V} (h:ao K w ds vs) (n:Nat):bJ K w (ds.map some++List.replicate (n-ds.length) none) (vs.map some++List.replicate (n-vs.length) none):=by
 have hl:=h.length
 refine⟨by simp[hl],λi d e=>?_⟩
 by_cases hi:i<ds.length
 ·rw[List.getElem?_append_left (by simpa using hi),List.getElem?_map] at e
  rw[List.getElem?_append_left (by simp;omega),List.getElem?_map]
  cases hd:ds[i]? with
  |none=>rw[hd] at e;cases e
  |some d' =>
   rw[hd] at e
   cases e
   obtain⟨v,ev,dv⟩:=h.get' i d hd
   exact⟨v,by rw[ev];rfl,dv⟩
 ·rw[List.getElem?_append_right (by simpa using Nat.le_of_not_lt hi),List.getElem?_replicate] at e
  split at e<;>cases e
end
theorem bY {P:Program} {w:World} {K:Frag} {mg:Str->Option Value} {base:Heap} {x qual:Str} {st:Stmt} {f:Addr} {fd:FuncData} {N ps:List Str} {k:Nat} {b:Env->aa->Res Fl} (F:nF K x qual st f fd) (S:bO N ps (bu st))
  (hb:∀(br:Value) (A:Around) (outer:List PySem.Env) (s:Shared) (H:Hp) (E:XK),bV k (A.deeper (PyProof.Rows.envOfC qual (bu st) s.heap.objs.size f br))->cO (m7 bB P w K mg base N qual (bu st) f br A outer s H E).rX (kx st) (tS K dw b)) :
  bg P w K mg base bB (k+1) f fd ps (bL K (bw ps.length N.length b)):=by
 refine F.ok S (λvs H Q E h=>?_) (λbr A outer s H vs Q E hr h=>?_)
 ·obtain⟨w,ds,rfl,S,aq,h⟩:=h
  rw[<- aq.length]
  unfold bw at h
  split at h
  ·assumption
  ·exact h.elim
 ·obtain⟨w,ds,rfl,S,aq,h⟩:=h
  refine⟨_,hb br A outer s w.H E hr,?_⟩
  unfold bw at h
  split at h
  ·rename_i hl
   rw[<- hl] at h
   refine⟨w,_,rfl,S,aq.env N.length,(Out.ak h).mono λw1 fl l1 S1 h1=>?_⟩
   cases fl with
   |nx env=>intro aO _;exact aF S1 h1 _ rfl
   |rt d=>have q:=aF S1 h1;exact q
   |bk env=>exact h1.elim
   |ct env=>exact h1.elim
  ·exact h.elim
end DI
namespace DI
open PySem L2
mutual
noncomputable def py:D->PyData
 | .ay=>.none
 | .bl b=>.bool b
 | .int i=>.int i
 | .str x=>.str x
 | .tup ds=>.tuple (bM ds)
 | .lst ds=>.list (bM ds)
 | .aY ai=>.dict (ai.map λp=>(oX p.1,PyData.int p.2))
 | .ar _=>.none
 | .ty _=>.none
 | .bS _=>.none
noncomputable def bM:List D->List PyData
 | []=>[]
 |d::ds=>py d::bM ds
end
mutual
noncomputable def plain:D->Bool
 | .ay=>true
 | .bl _=>true
 | .int _=>true
 | .str _=>true
 | .tup ds=>eI ds
 | .lst ds=>eI ds
 | .aY _=>true
 | .ar _=>false
 | .ty _=>false
 | .bS _=>false
noncomputable def eI:List D->Bool
 | []=>true
 |d::ds=>plain d&&eI ds
end
mutual
noncomputable def lay:D->Bool
 | .ay=>true
 | .bl _=>true
 | .int _=>true
 | .str x=>PyData.strOk x
 | .tup ds=>bW ds
 | .lst ds=>bW ds
 | .aY _=>false
 | .ar _=>false
 | .ty _=>false
 | .bS _=>false
noncomputable def bW:List D->Bool
 | []=>true
 |d::ds=>lay d&&bW ds
end
mutual
noncomputable def dep:D->Nat
 | .tup ds=>iF ds+1
 | .lst ds=>iF ds+1
 | .aY ai=>1
 | .ay=>0
 | .bl _=>0
 | .int _=>0
 | .str _=>0
 | .ar _=>0
 | .ty _=>0
 | .bS _=>0
noncomputable def iF:List D->Nat
 | []=>0
 |d::ds=>max (dep d) (iF ds)
end
mutual
noncomputable def beq:D->D->Bool
 | .ay,.ay=>true
 | .bl a,.bl b=>a==b
 | .bl a,.int j=>(if a then 1 else 0)==j
 | .int i,.bl b=>i==(if b then 1 else 0)
 | .int i,.int j=>i==j
 | .str x,.str y=>x==y
 | .tup xs,.tup ys=>nh xs ys
 | .lst xs,.lst ys=>nh xs ys
 |_,_=>false
noncomputable def nh:List D->List D->Bool
 | [],[]=>true
 |x::xs,y::ys=>beq x y&&nh xs ys
 |_,_=>false
end
mutual
theorem mH:∀(d:D),lay d=true->plain d=true
 | .ay,_=>rfl
 | .bl _,_=>rfl
 | .int _,_=>rfl
 | .str _,_=>rfl
 | .tup ds,h=>by simp only[lay,plain] at h |-;exact mF ds h
 | .lst ds,h=>by simp only[lay,plain] at h |-;exact mF ds h
 | .aY _,h=>by simp[lay] at h
 | .ar _,h=>by simp[lay] at h
 | .ty _,h=>by simp[lay] at h
 | .bS _,h=>by simp[lay] at h
theorem mF:∀(ds:List D),bW ds=true->eI ds=true
 | [],_=>rfl
 |d::ds,h=>by
  simp only[bW,eI,Bool.and_eq_true] at h |-
  exact⟨mH d h.1,mF ds h.2⟩
end
mutual
theorem mQ:∀(d:D),lay d=true->(py d).canLay0=true/\(py d).depth=dep d
 | .ay,_=>⟨rfl,by simp[py,dep,PyData.depth]⟩
 | .bl _,_=>⟨rfl,by simp[py,dep,PyData.depth]⟩
 | .int _,_=>⟨rfl,by simp[py,dep,PyData.depth]⟩
 | .str _,h=>⟨h,by simp[py,dep,PyData.depth]⟩
 | .tup ds,h=>by
  obtain⟨h1,h2⟩:=qk ds (by simpa [lay] using h)
  simp only[py,dep,PyData.depth,PyData.canLay0]
  exact⟨h1,by rw[h2]⟩
 | .lst ds,h=>by
  obtain⟨h1,h2⟩:=qk ds (by simpa [lay] using h)
  simp only[py,dep,PyData.depth,PyData.canLay0]
  exact⟨h1,by rw[h2]⟩
 | .aY _,h=>by simp[lay] at h
 | .ar _,h=>by simp[lay] at h
 | .ty _,h=>by simp[lay] at h
 | .bS _,h=>by simp[lay] at h
theorem qk:∀(ds:List D),bW ds=true->PyData.canLayAll0 (bM ds)=true/\PyData.depthAll (bM ds)=iF ds
 | [],_=>⟨rfl,rfl⟩
 |d::ds,h=>by
  simp only[bW,Bool.and_eq_true] at h
  obtain⟨a1,a2⟩:=mQ d h.1
  obtain⟨b1,b2⟩:=qk ds h.2
  simp only[bM,iF,PyData.canLayAll0,PyData.depthAll,a1,b1,a2,b2,Bool.and_self,and_self]
end
mutual
theorem uY:∀(d e:D),lay d=true->lay e=true->PyData.eqv (py d) (py e)=beq d e
 | .tup xs,.tup ys,h,g=>by
  simp only[py,beq,PyData.eqv]
  exact xC xs ys (by simpa [lay] using h) (by simpa [lay] using g)
 | .lst xs,.lst ys,h,g=>by
  simp only[py,beq,PyData.eqv]
  exact xC xs ys (by simpa [lay] using h) (by simpa [lay] using g)
 | .ay,e,_,g=>by cases e<;>simp_all [py,beq,PyData.eqv,lay]
 | .bl _,e,_,g=>by cases e<;>simp_all [py,beq,PyData.eqv,lay]
 | .int _,e,_,g=>by cases e<;>simp_all [py,beq,PyData.eqv,lay]
 | .str _,e,_,g=>by cases e<;>simp_all [py,beq,PyData.eqv,lay]
 | .tup _,.ay,_,_=>by simp[py,beq,PyData.eqv]
 | .tup _,.bl _,_,_=>by simp[py,beq,PyData.eqv]
 | .tup _,.int _,_,_=>by simp[py,beq,PyData.eqv]
 | .tup _,.str _,_,_=>by simp[py,beq,PyData.eqv]
 | .tup _,.lst _,_,_=>by simp[py,beq,PyData.eqv]
 | .lst _,.ay,_,_=>by simp[py,beq,PyData.eqv]
 | .lst _,.bl _,_,_=>by simp[py,beq,PyData.eqv]
 | .lst _,.int _,_,_=>by simp[py,beq,PyData.eqv]
 | .lst _,.str _,_,_=>by simp[py,beq,PyData.eqv]
 | .lst _,.tup _,_,_=>by simp[py,beq,PyData.eqv]
 | .aY _,_,h,_=>by simp[lay] at h
 | .ar _,_,h,_=>by simp[lay] at h
 | .ty _,_,h,_=>by simp[lay] at h
 | .bS _,_,h,_=>by simp[lay] at h
 |_,.aY _,_,h=>by simp[lay] at h
 |_,.ar _,_,h=>by simp[lay] at h
 |_,.ty _,_,h=>by simp[lay] at h
 |_,.bS _,_,h=>by simp[lay] at h
theorem xC:∀(ds es:List D),bW ds=true->bW es=true->PyData.eqvAll (bM ds) (bM es)=nh ds es
 | [],[],_,_=>rfl
 | [],_::_,_,_=>rfl
 |_::_,[],_,_=>rfl
 |d::ds,e::es,h,g=>by
  simp only[bW,Bool.and_eq_true] at h g
  simp only[bM,nh,PyData.eqvAll,uY d e h.1 g.1,xC ds es h.2 g.2]
end
mutual
theorem DV.py {K:Frag} {w:Wd}:∀{d:D} {v:V},DV K w d v->plain d=true->L2.DV K (λ_=>False) w.H (DI.py d) v
 | .ay,_,h,_=>h
 | .bl _,_,h,_=>h
 | .int _,_,h,_=>h
 | .str _,_,h,_=>h
 | .tup ds,v,h,p=>by
  simp only[DV] at h
  obtain⟨a,xs,e,hq,r⟩:=h
  simp only[DI.py,L2.DV]
  exact⟨a,xs,e,hq,ao.py r (by simpa [plain] using p)⟩
 | .lst ds,v,h,p=>by
  simp only[DV] at h
  obtain⟨a,xs,e,hq,r⟩:=h
  simp only[DI.py,L2.DV]
  exact⟨a,xs,e,not_false,hq.2,ao.py r (by simpa [plain] using p)⟩
 | .aY ai,v,h,p=>by
  simp only[DV] at h
  obtain⟨a,e,hz,hq⟩:=h
  simp only[DI.py,L2.DV]
  exact⟨a,_,e,not_false,hq,ai,rfl,rfl⟩
 | .ar _,_,_,p=>by simp[plain] at p
 | .ty _,_,_,p=>by simp[plain] at p
 | .bS _,_,_,p=>by simp[plain] at p
theorem ao.py {K:Frag} {w:Wd}:∀{ds:List D} {vs:List V},ao K w ds vs->eI ds=true->L2.ao K (λ_=>False) w.H (DI.bM ds) vs
 | [],_,h,_=>h
 |d::ds,vs,h,p=>by
  simp only[ao] at h
  obtain⟨v,r,e,h1,h2⟩:=h
  simp only[eI,Bool.and_eq_true] at p
  exact⟨v,r,e,DV.py h1 p.1,ao.py h2 p.2⟩
end
noncomputable def res (d:D) (s:aa):D:=match d with
 | .ar k=>match s[k]? with
  |some (.lst ds)=>.lst ds
  |_=>d
 |_=>d
theorem DV.res {K:Frag} {w:Wd} {d:D} {v:V} (S:aH K w) (h:DV K w d v) (p:plain (DI.res d w.aC)=true):L2.DV K (λ_=>False) w.H (DI.py (DI.res d w.aC)) v:=by
 cases d with
 |ar k =>
  unfold DI.res at p |-
  simp only at p |-
  split at p<;>rename_i hk
  ·rename_i ds
   obtain⟨a,e1,rfl⟩:=h
   obtain⟨xs,q1,q2⟩:=S.cell k a _ e1 hk
   simp only[DI.py,L2.DV]
   exact⟨a,xs,rfl,not_false,q1,q2.py (by simpa [plain] using p)⟩
  ·simp[plain] at p
 |_=>exact h.py p
noncomputable def fy:D->Bool
 | .str _=>true
 |_=>false
theorem OB {d:D} (h:fy d=true):∃x,d=.str x:=by cases d<;>first|exact⟨_,rfl⟩|cases h
noncomputable def cQ (x y:D):Option Bool:=if (fy x&&fy y)=true then some (beq x y) else if (lay x&&lay y&&decide (min (dep x) (dep y)<=100))=true then some (beq x y) else none
noncomputable def cg (x y:D) (s:aa):Res D:=match cQ (res x s) (res y s) with
 |some b=>ok (.bl b) s
 |none=>none
noncomputable def cC (x y:D) (s:aa):Res D:=match cQ (res x s) (res y s) with
 |some b=>ok (.bl (!b)) s
 |none=>none
theorem D6 {K:Frag} {w:Wd} {x y:D} {v u:V} {b:Bool} (S:aH K w) (hx:DV K w x v) (hy:DV K w y u) (h:cQ (res x w.aC) (res y w.aC)=some b) :
  (zw v u=true/\decide (v=u)=b)\/∃(d e:PyData),L2.DV K (λ_=>False) w.H d v/\L2.DV K (λ_=>False) w.H e u/\d.canLay0=true/\e.canLay0=true/\min d.depth e.depth<=100/\PyData.eqv d e=b:=by
 have str:∀{d:D} {v:V},fy (res d w.aC)=true->DV K w d v->∃x,res d w.aC=.str x/\v=.str x:=λ{d v} hs hd=>by
  obtain⟨x,e⟩:=OB hs
  cases d with
  |str y=>cases e;exact⟨x,rfl,hd⟩
  |ar k =>
   unfold res at e
   simp only at e
   split at e<;>cases e
  |_=>cases e
 unfold cQ at h
 split at h
 ·rename_i hs
  rw[Bool.and_eq_true] at hs
  obtain⟨a,ea,rfl⟩:=str hs.1 hx
  obtain⟨c,ec,rfl⟩:=str hs.2 hy
  rw[ea,ec] at h
  exact .inl ⟨rfl,by rw[<- Option.some.inj h];exact xR⟩
 split at h
 ·rename_i hl
  right
  simp only[Bool.and_eq_true,decide_eq_true_eq] at hl
  obtain⟨⟨l1,l2⟩,l3⟩:=hl
  obtain⟨p1,p2⟩:=mQ _ l1
  obtain⟨q1,q2⟩:=mQ _ l2
  exact⟨_,_,hx.res S (mH _ l1),hy.res S (mH _ l2),p1,q1,by rw[p2,q2];exact l3,by rw[uY _ _ l1 l2];exact Option.some.inj h⟩
 ·cases h
section
variable {X:Cx} {Ξ:Wd->bD->Prop}
theorem fJ {k:Nat} (hr:bV k X.A):aW X (compareOp .Eq) (rO X.K Ξ cg):=by
 rintro pins s σ H x y v u Q I rx ry ⟨w,dx,dy,rfl,S,hx,hy,h⟩
 unfold cg at h
 split at h
 ·rename_i b hb
  rcases D6 S hx hy hb with ⟨h1,h2⟩ | ⟨d,e,h1,h2,h3,h4,h5,h6⟩
  ·exact PQ pins s σ w.H x y v u Q I rx ry ⟨h1,by rw[h2];exact aF S h _ rfl⟩
  exact Ov hr pins s σ w.H x y v u Q I rx ry ⟨d,e,_,h1,h2,h3,h4,h5,by simp only[Bool.false_eq_true,if_false];rw[h6];exact aF S h _ rfl⟩
 ·exact h.elim
theorem lV {k:Nat} (hr:bV k X.A):aW X (compareOp .NotEq) (rO X.K Ξ cC):=by
 rintro pins s σ H x y v u Q I rx ry ⟨w,dx,dy,rfl,S,hx,hy,h⟩
 unfold cC at h
 split at h
 ·rename_i b hb
  rcases D6 S hx hy hb with ⟨h1,h2⟩ | ⟨d,e,h1,h2,h3,h4,h5,h6⟩
  ·exact PR pins s σ w.H x y v u Q I rx ry ⟨h1,by rw[h2];exact aF S h _ rfl⟩
  exact Ow hr pins s σ w.H x y v u Q I rx ry ⟨d,e,_,h1,h2,h3,h4,h5,by simp only[if_true];rw[h6];exact aF S h _ rfl⟩
 ·exact h.elim
end
end DI
namespace DI
open PySem L2
noncomputable def bE (r:Option D) (s:aa):Res D:=match r with
 |some d=>ok d s
 |none=>none
theorem dH {K:Frag} {Ξ:Wd->bD->Prop} {w:Wd} {r:Option D} {k:Wd->D->Prop} (h:Out K Ξ w (bE r w.aC) k):∃d,r=some d/\Out K Ξ w (ok d w.aC) k:=by
 unfold bE at h
 split at h
 ·exact⟨_,rfl,h⟩
 ·exact h.elim
noncomputable def fK (xs ys:List D):Bool:=decide (xs.length+ys.length<=sizeLine)
noncomputable def jU:D->D->Option D
 | .int i,.int j=>some (.int (i+j))
 | .tup xs,.tup ys=>if fK xs ys=true then some (.tup (xs++ys)) else none
 | .lst xs,.lst ys=>if fK xs ys=true then some (.lst (xs++ys)) else none
 | .str x,.str y=>if decide (x.length+y.length<=sizeLine)=true then some (.str (x++y)) else none
 |_,_=>none
noncomputable def aS (x y:D) (s:aa):Res D:=bE (jU (res x s) (res y s)) s
noncomputable def F9:D->D->Option D
 | .int i,.int j=>some (.int (i-j))
 |_,_=>none
noncomputable def lO (x y:D) (s:aa):Res D:=bE (F9 x y) s
noncomputable def qR (i j:Int):Bool:=(decide (-(2 ^ 64)<i)&&decide (i<2 ^ 64))||(decide (-(2 ^ 64)<j)&&decide (j<2 ^ 64))
noncomputable def zP:D->D->Option D
 | .int i,.int j=>if qR i j=true then some (.int (i*j)) else none
 | .tup xs,.int k=>if (!xs.isEmpty&&decide (1<=k)&&decide (xs.length*k.toNat<=sizeLine))=true then some (.tup (List.replicate k.toNat xs).flatten) else none
 | .lst xs,.int k=>if (decide (-(2 ^ 63)<=k)&&decide (k<2 ^ 63)&&decide (xs.length*k.toNat<=sizeLine))=true then some (.lst (List.replicate k.toNat xs).flatten) else none
 |_,_=>none
noncomputable def dY (x y:D) (s:aa):Res D:=bE (zP x y) s
noncomputable def zQ:D->D->Option D
 | .int i,.int j=>if decide (0<j)=true then some (.int (i % j)) else none
 |_,_=>none
noncomputable def eJ (x y:D) (s:aa):Res D:=bE (zQ x y) s
noncomputable def zR:D->D->Option D
 | .int i,.int j=>if (decide (0<j)&&decide (j<1073741824))=true then some (.int (i / j)) else none
 |_,_=>none
noncomputable def mW (x y:D) (s:aa):Res D:=bE (zR x y) s
noncomputable def vK:D->D->Option D
 | .int i,.int j=>if (decide (0<=j)&&decide (j<=1000000)&&decide (i.natAbs<2 ^ 64))=true then some (.int (i ^ j.toNat)) else none
 |_,_=>none
noncomputable def kJ (x y:D) (s:aa):Res D:=bE (vK x y) s
noncomputable def Ga:D->Option D
 | .int i=>some (.int (-i))
 |_=>none
noncomputable def i9 (x:D) (s:aa):Res D:=bE (Ga x) s
theorem ao.flat {K:Frag} {w:Wd} {ds:List D} {vs:List V} (h:ao K w ds vs):∀n:Nat,ao K w (List.replicate n ds).flatten (List.replicate n vs).flatten
 |0=>rfl
 |n+1=>by
  rw[List.replicate_succ,List.replicate_succ,List.flatten_cons,List.flatten_cons]
  exact ao.append h (ao.flat h n)
theorem gf {K:Frag} {w:Wd} {d:D} {v:V} {ds:List D} (S:aH K w) (h:DV K w d v) (e:res d w.aC=.lst ds):∃a xs,v=.ref a/\w.H a=some (.lst xs)/\ao K w ds xs:=by
 unfold res at e
 split at e
 ·rename_i k
  split at e
  ·rename_i es hk
   cases e
   obtain⟨a,e1,rfl⟩:=h
   obtain⟨xs,q1,q2⟩:=S.cell k a _ e1 hk
   exact⟨a,xs,rfl,q1,q2⟩
  ·cases e
 ·subst e
  simp only[DV] at h
  obtain⟨a,xs,e,hq,r⟩:=h
  exact⟨a,xs,e,hq.2,r⟩
theorem dh {d e:D} {s:aa} (h:res d s=e) (hl:∀ds,e≠.lst ds):d=e:=by
 unfold res at h
 split at h
 ·split at h
  ·exact absurd h.symm (hl _)
  ·exact h
 ·exact h
section
variable {X:Cx} {Ξ:Wd->bD->Prop}
theorem lS {K:Frag} {w:Wd} {ds:List D} {vs:List V} {Q:VK} (S:aH K w) (aq:ao K w ds vs) (h:Out K Ξ w (ok (D.tup ds) w.aC) λw' d=>∀v,DV K w' d v->Q v w'.H):kO K w.H vs Q:=λa H' e hq =>
 h (w.same H') (Fw.same e).le (S.same e) rfl (.ref a) ⟨a,vs,rfl,hq,(Fw.same e).le.all aq⟩
theorem oY {K:Frag} {w:Wd} {ds:List D} {vs:List V} {Q:VK} (S:aH K w) (aq:ao K w ds vs) (h:Out K Ξ w (ok (D.lst ds) w.aC) λw' d=>∀v,DV K w' d v->Q v w'.H):∀p,w.H p=none->Q (.ref p) (upd w.H p (.lst vs)):=λp hp =>
 h (w.grow p (.lst vs)) (Fw.grow hp).le (S.grow hp) rfl (.ref p) ⟨p,vs,rfl,⟨(show ¬ w.Z p from lH S hp),ck⟩,(Fw.grow hp).le.all aq⟩
theorem OC {K:Frag} {w:Wd} {ds:List D} {vs:List V} {Q:VK} (S:aH K w) (aq:ao K w ds vs) (h:Out K Ξ w (ok (D.tup ds) w.aC) λw' d=>∀v,DV K w' d v->Q v w'.H):∀p,w.H p=none->Q (.ref p) (upd w.H p (.tup vs)):=λp hp =>
 h (w.grow p (.tup vs)) (Fw.grow hp).le (S.grow hp) rfl (.ref p) ⟨p,vs,rfl,aP.of ck,(Fw.grow hp).le.all aq⟩
theorem cE:aW X (binaryOp .Add) (rO X.K Ξ aS):=by
 rintro pins s σ H x y v u Q I rx ry ⟨w,dx,dy,rfl,S,hx,hy,h⟩
 obtain⟨d,e,h⟩:=dH h
 unfold jU at e
 split at e
 ·rename_i i j e1 e2
  rw[dh e1 (by intro _ z;cases z)] at hx
  rw[dh e2 (by intro _ z;cases z)] at hy
  cases e;cases hx;cases hy
  exact N8 pins s σ w.H _ _ v u Q I rx ry ⟨i,j,rfl,rfl,aF S h _ rfl⟩
 ·rename_i xs ys e1 e2
  rw[dh e1 (by intro _ z;cases z)] at hx
  rw[dh e2 (by intro _ z;cases z)] at hy
  split at e
  ·rename_i hl
   cases e
   simp only[DV] at hx hy
   obtain⟨a,as,rfl,ha,fz⟩:=hx
   obtain⟨b,bs,rfl,hb,mq⟩:=hy
   exact Mx pins s σ w.H _ _ v u Q I rx ry ⟨a,b,as,bs,rfl,rfl,ha,hb,by rw[<- fz.length,<- mq.length];exact of_decide_eq_true hl,lS S (fz.append mq) h⟩
  ·cases e
 ·rename_i xs ys e1 e2
  split at e
  ·rename_i hl
   cases e
   obtain⟨a,as,rfl,ha,fz⟩:=gf S hx e1
   obtain⟨b,bs,rfl,hb,mq⟩:=gf S hy e2
   exact EA pins s σ w.H _ _ v u Q I rx ry ⟨a,b,as,bs,rfl,rfl,ha,hb,by rw[<- fz.length,<- mq.length];exact of_decide_eq_true hl,oY S (fz.append mq) h⟩
  ·cases e
 ·rename_i i j e1 e2
  rw[dh e1 (by intro _ z;cases z)] at hx
  rw[dh e2 (by intro _ z;cases z)] at hy
  split at e
  ·rename_i hl
   cases e;cases hx;cases hy
   exact IU pins s σ w.H _ _ v u Q I rx ry ⟨i,j,rfl,rfl,of_decide_eq_true hl,aF S h _ rfl⟩
  ·cases e
 ·cases e
theorem vi:aW X (binaryOp .Sub) (rO X.K Ξ lO):=by
 rintro pins s σ H x y v u Q I rx ry ⟨w,dx,dy,rfl,S,hx,hy,h⟩
 obtain⟨d,e,h⟩:=dH h
 unfold F9 at e
 split at e
 ·rename_i i j
  cases e;cases hx;cases hy
  exact N9 pins s σ w.H _ _ v u Q I rx ry ⟨i,j,rfl,rfl,aF S h _ rfl⟩
 ·cases e
theorem qS:aW X (binaryOp .Mult) (rO X.K Ξ dY):=by
 rintro pins s σ H x y v u Q I rx ry ⟨w,dx,dy,rfl,S,hx,hy,h⟩
 obtain⟨d,e,h⟩:=dH h
 unfold zP at e
 split at e
 ·rename_i i j
  split at e
  ·rename_i hm
   cases e;cases hx;cases hy
   refine Oa pins s σ w.H _ _ v u Q I rx ry ⟨i,j,rfl,rfl,?_,aF S h _ rfl⟩
   unfold vC
   simpa [qR] using hm
  ·cases e
 ·rename_i xs k
  split at e
  ·rename_i hm
   cases e;cases hy
   simp only[Bool.and_eq_true,decide_eq_true_eq] at hm
   simp only[DV] at hx
   obtain⟨a,as,rfl,ha,fz⟩:=hx
   have hl:=fz.length
   refine MK pins s σ w.H _ _ v u Q I rx ry ⟨a,as,k,rfl,rfl,ha,?_,hm.1.2,by rw[<- hl];exact hm.2,lS S (fz.flat _) h⟩
   intro z
   subst z
   cases xs with
   |nil=>simp at hm
   |cons _ _=>cases hl
  ·cases e
 ·rename_i xs k
  split at e
  ·rename_i hm
   cases e;cases hy
   simp only[Bool.and_eq_true,decide_eq_true_eq] at hm
   simp only[DV] at hx
   obtain⟨a,as,rfl,ha,fz⟩:=hx
   exact Oo pins s σ w.H _ _ v u Q I rx ry ⟨a,k,as,rfl,rfl,ha.2,hm.1.1,hm.1.2,by rw[<- fz.length];exact hm.2,oY S (fz.flat _) h⟩
  ·cases e
 ·cases e
theorem mY:aW X (binaryOp .Mod) (rO X.K Ξ eJ):=by
 rintro pins s σ H x y v u Q I rx ry ⟨w,dx,dy,rfl,S,hx,hy,h⟩
 obtain⟨d,e,h⟩:=dH h
 unfold zQ at e
 split at e
 ·rename_i i j
  split at e
  ·rename_i hm
   cases e;cases hx;cases hy
   exact Ob pins s σ w.H _ _ v u Q I rx ry ⟨i,j,rfl,rfl,of_decide_eq_true hm,aF S h _ rfl⟩
  ·cases e
 ·cases e
theorem Fq:aW X (binaryOp .FloorDiv) (rO X.K Ξ mW):=by
 rintro pins s σ H x y v u Q I rx ry ⟨w,dx,dy,rfl,S,hx,hy,h⟩
 obtain⟨d,e,h⟩:=dH h
 unfold zR at e
 split at e
 ·rename_i i j
  split at e
  ·rename_i hm
   simp only[Bool.and_eq_true,decide_eq_true_eq] at hm
   cases e;cases hx;cases hy
   exact Mi pins s σ w.H _ _ v u Q I rx ry ⟨i,j,rfl,rfl,hm,aF S h _ rfl⟩
  ·cases e
 ·cases e
theorem yY:aW X (binaryOp .Pow) (rO X.K Ξ kJ):=by
 rintro pins s σ H x y v u Q I rx ry ⟨w,dx,dy,rfl,S,hx,hy,h⟩
 obtain⟨d,e,h⟩:=dH h
 unfold vK at e
 split at e
 ·rename_i i j
  split at e
  ·rename_i hm
   simp only[Bool.and_eq_true,decide_eq_true_eq] at hm
   cases e;cases hx;cases hy
   exact Oc pins s σ w.H _ _ v u Q I rx ry ⟨i,j,rfl,rfl,⟨hm.1.1,hm.1.2,hm.2⟩,aF S h _ rfl⟩
  ·cases e
 ·cases e
theorem vj:se X (unaryOp .USub) (rU X.K Ξ i9):=by
 rintro pins s σ H x v Q I rx ⟨w,dx,rfl,S,hx,h⟩
 obtain⟨d,e,h⟩:=dH h
 unfold Ga at e
 split at e
 ·rename_i i
  cases e;cases hx
  exact Eu pins s σ w.H _ v Q I rx ⟨i,rfl,aF S h _ rfl⟩
 ·cases e
noncomputable def oZ (p:Int->Int->Bool):D->D->Option D
 | .int i,.int j=>some (.bl (p i j))
 |_,_=>none
noncomputable def kP (x y:D) (s:aa):Res D:=bE (oZ (λi j=>decide (i<=j)) x y) s
noncomputable def jV (x y:D) (s:aa):Res D:=bE (oZ (λi j=>decide (j<i)) x y) s
noncomputable def o7 (x y:D) (s:aa):Res D:=bE (oZ (λi j=>decide (j<=i)) x y) s
theorem vL:aW X (compareOp .LtE) (rO X.K Ξ kP):=by
 rintro pins s σ H x y v u Q I rx ry ⟨w,dx,dy,rfl,S,hx,hy,h⟩
 obtain⟨d,e,h⟩:=dH h
 unfold oZ at e
 split at e
 ·rename_i i j
  cases e;cases hx;cases hy
  exact PU pins s σ w.H _ _ v u Q I rx ry ⟨i,j,rfl,rfl,aF S h _ rfl⟩
 ·cases e
theorem vM:aW X (compareOp .Gt) (rO X.K Ξ jV):=by
 rintro pins s σ H x y v u Q I rx ry ⟨w,dx,dy,rfl,S,hx,hy,h⟩
 obtain⟨d,e,h⟩:=dH h
 unfold oZ at e
 split at e
 ·rename_i i j
  cases e;cases hx;cases hy
  exact PV pins s σ w.H _ _ v u Q I rx ry ⟨i,j,rfl,rfl,aF S h _ rfl⟩
 ·cases e
theorem zS:aW X (compareOp .GtE) (rO X.K Ξ o7):=by
 rintro pins s σ H x y v u Q I rx ry ⟨w,dx,dy,rfl,S,hx,hy,h⟩
 obtain⟨d,e,h⟩:=dH h
 unfold oZ at e
 split at e
 ·rename_i i j
  cases e;cases hx;cases hy
  exact PX pins s σ w.H _ _ v u Q I rx ry ⟨i,j,rfl,rfl,aF S h _ rfl⟩
 ·cases e
noncomputable def la (d i:D) (s:aa):Option D:=match res d s,i with
 | .lst ds,.int i=>de ds i
 | .tup ds,.int i=>de ds i
 | .bS ns,.int i=>(de ns i).map D.int
 | .str x,.int i=>if decide (x.length<=sizeLine)=true then (de x.cps.toList i).map λc=>.str ⟨#[c]⟩ else none
 |_,_=>none
noncomputable def aD (x y:D) (s:aa):Res D:=bE (la x y s) s
theorem ao.at {K:Frag} {w:Wd} {ds:List D} {vs:List V} {i:Int} {d:D} (h:ao K w ds vs) (e:de ds i=some d):∃v,de vs i=some v/\DV K w d v:=by
 unfold de at e |-
 rw[h.length] at e
 cases hi:dQ vs.length i with
 |none=>rw[hi] at e;cases e
 |some j =>
  rw[hi] at e
  exact h.get' j d e
theorem RR:sm X (rO X.K Ξ aD):=by
 rintro value slice pins s σ H x y v u Q I rx ry ⟨w,dx,dy,rfl,S,hx,hy,h⟩ hs
 obtain⟨d,e,h2⟩:=dH h
 clear h
 unfold la at e
 split at e
 ·rename_i ds i e1
  cases hy
  obtain⟨a,xs,rfl,ha,aq⟩:=gf S hx e1
  obtain⟨z,ez,dz⟩:=aq.at e
  exact DU value slice pins s σ w.H _ _ v u Q I rx ry ⟨a,xs,i,z,rfl,rfl,bx.of ha,ez,aF S h2 _ dz⟩ hs
 ·rename_i ds i e1
  cases hy
  rw[dh e1 (by intro _ z;cases z)] at hx
  simp only[DV] at hx
  obtain⟨a,xs,rfl,ha,aq⟩:=hx
  obtain⟨z,ez,dz⟩:=aq.at e
  exact Oi value slice pins s σ w.H _ _ v u Q I rx ry ⟨a,xs,i,z,rfl,rfl,ha,ez,aF S h2 _ dz⟩ hs
 ·rename_i ns i e1
  cases hy
  rw[dh e1 (by intro _ z;cases z)] at hx
  simp only[DV] at hx
  obtain⟨a,rfl,ha⟩:=hx
  cases hn:de ns i with
  |none=>rw[hn] at e;cases e
  |some n =>
   rw[hn] at e
   cases e
   refine DU value slice pins s σ w.H _ _ v u Q I rx ry ⟨a,ns.map V.int,i,.int n,rfl,rfl,ha.sq,?_,aF S h2 _ rfl⟩ hs
   unfold de at hn |-
   rw[List.length_map]
   cases hj:dQ ns.length i with
   |none=>rw[hj] at hn;cases hn
   |some j =>
    rw[hj] at hn
    show (ns.map V.int)[j]?=some (.int n)
    rw[List.getElem?_map,show ns[j]?=some n from hn]
    rfl
 ·rename_i z i e1
  cases hy
  rw[dh e1 (by intro _ z;cases z)] at hx
  cases hx
  split at e
  ·rename_i hl
   cases hc:de z.cps.toList i with
   |none=>rw[hc] at e;cases e
   |some c =>
    rw[hc] at e
    cases e
    exact Oj value slice pins s σ w.H _ _ v u Q I rx ry ⟨z,i,c,rfl,rfl,of_decide_eq_true hl,hc,aF S h2 _ rfl⟩ hs
  ·cases e
 ·cases e
theorem bC {a b:Expr} {pos:Pos} {f g:Env->aa->Res D} (ha:PE X a (tE X.K Ξ f)) (hb:PE X b (tE X.K Ξ g)) (hs:DT b:=by intro _ _;rfl):PE X (.Subscript a b pos) (tE X.K Ξ (e2 aD f g)):=b9 (P5 RR ha hb hs) uL
noncomputable def rF (d:D) (s:aa):Option D:=match res d s with
 | .lst ds=>some (.int ds.length)
 | .tup ds=>some (.int ds.length)
 | .bS ns=>some (.int ns.length)
 | .str x=>if decide (x.length<=sizeLine)=true then some (.int x.length) else none
 |_=>none
noncomputable def bb (ds:List D) (s:aa):Res D:=match ds with
 | [d]=>bE (rF d s) s
 |_=>none
theorem lI {K:Frag} {w:Wd} {d:D} {vs:List V} (h:ao K w [d] vs):∃v,vs=[v]/\DV K w d v:=by
 obtain⟨v,r,rfl,dv,dr⟩:=h
 have e:r=[]:=dr
 subst e
 exact⟨v,rfl,dv⟩
theorem oF {K:Frag} {w:Wd} {d e:D} {vs:List V} (h:ao K w [d,e] vs):∃v u,vs=[v,u]/\DV K w d v/\DV K w e u:=by
 obtain⟨v,r,rfl,dv,h⟩:=h
 obtain⟨u,rfl,du⟩:=lI h
 exact⟨v,u,rfl,dv,du⟩
theorem cR:bP X (.builtin "len") (rC X.K Ξ bb):=by
 rintro pins s σ H xs us Q I r ⟨w,ds,rfl,S,aq,h⟩
 unfold bb at h
 split at h
 ·obtain⟨v,rfl,dv⟩:=lI aq
  obtain⟨d,e,h⟩:=dH h
  unfold rF at e
  split at e
  ·rename_i ys e1
   cases e
   obtain⟨a,xs,rfl,ha,aq⟩:=gf S dv e1
   exact w6 pins s σ w.H _ us Q I r ⟨a,xs,rfl,.inl (bx.of ha),by rw[<- aq.length];exact aF S h _ rfl⟩
  ·rename_i ys e1
   cases e
   rw[dh e1 (by intro _ z;cases z)] at dv
   simp only[DV] at dv
   obtain⟨a,xs,rfl,ha,aq⟩:=dv
   exact w6 pins s σ w.H _ us Q I r ⟨a,xs,rfl,.inr ha,by rw[<- aq.length];exact aF S h _ rfl⟩
  ·rename_i ns e1
   cases e
   rw[dh e1 (by intro _ z;cases z)] at dv
   simp only[DV] at dv
   obtain⟨a,rfl,ha⟩:=dv
   exact w6 pins s σ w.H _ us Q I r ⟨a,ns.map V.int,rfl,.inl ha.sq,by rw[List.length_map];exact aF S h _ rfl⟩
  ·rename_i z e1
   rw[dh e1 (by intro _ z;cases z)] at dv
   cases dv
   split at e
   ·rename_i hl
    cases e
    exact HY pins s σ w.H _ us Q I r ⟨z,rfl,of_decide_eq_true hl,aF S h _ rfl⟩
   ·cases e
  ·cases e
 ·exact h.elim
noncomputable def gE:List D->Option (List Bool)
 | []=>some []
 | .bl b::ds=>(gE ds).map λr=>b::r
 |_::_=>none
theorem yx:∀{ds:List D} {bs:List Bool},gE ds=some bs->ds=bs.map D.bl
 | [],bs,h=>by cases h;rfl
 | .bl b::ds,bs,h=>by
  simp only[gE] at h
  cases hd:gE ds with
  |none=>rw[hd] at h;cases h
  |some r=>rw[hd] at h;cases h;rw[yx hd];rfl
 | .ay::_,_,h=>by cases h
 | .int _::_,_,h=>by cases h
 | .str _::_,_,h=>by cases h
 | .tup _::_,_,h=>by cases h
 | .lst _::_,_,h=>by cases h
 | .aY _::_,_,h=>by cases h
 | .ar _::_,_,h=>by cases h
 | .ty _::_,_,h=>by cases h
 | .bS _::_,_,h=>by cases h
theorem D7 {bs:List Bool}:gE (bs.map D.bl)=some bs:=by
 induction bs with
 |nil=>rfl
 |cons b bs ih=>simp only[List.map_cons,gE,ih,Option.map_some]
noncomputable def iG (ds:List D) (s:aa):Res D:=match ds with
 | [d]=>match res d s with
  | .lst es=>bE ((gE es).map λbs=>.bl (bs.all id)) s
  |_=>none
 |_=>none
noncomputable def vN (ds:List D) (s:aa):Res D:=match ds with
 | [d]=>match res d s with
  | .lst es=>bE ((gE es).map λbs=>.bl (bs.any id)) s
  |_=>none
 |_=>none
theorem lP (hc:X.calm=true):bP X (.builtin "all") (rC X.K Ξ iG):=by
 rintro pins s σ H xs us Q I r ⟨w,ds,rfl,S,aq,h⟩
 unfold iG at h
 split at h
 ·obtain⟨v,rfl,dv⟩:=lI aq
  split at h
  ·rename_i es e1
   obtain⟨d,e,h⟩:=dH h
   cases hb:gE es with
   |none=>rw[hb] at e;cases e
   |some bs =>
    rw[hb] at e
    cases e
    obtain⟨a,xs,rfl,ha,aq⟩:=gf S dv e1
    rw[yx hb] at aq
    rw[aq.ya] at ha
    exact KY hc pins s σ w.H _ us Q I r ⟨a,bs,rfl,bx.of ha,aF S h _ rfl⟩
  ·exact h.elim
 ·exact h.elim
theorem Qp (hc:X.calm=true):bP X (.builtin "any") (rC X.K Ξ vN):=by
 rintro pins s σ H xs us Q I r ⟨w,ds,rfl,S,aq,h⟩
 unfold vN at h
 split at h
 ·obtain⟨v,rfl,dv⟩:=lI aq
  split at h
  ·rename_i es e1
   obtain⟨d,e,h⟩:=dH h
   cases hb:gE es with
   |none=>rw[hb] at e;cases e
   |some bs =>
    rw[hb] at e
    cases e
    obtain⟨a,xs,rfl,ha,aq⟩:=gf S dv e1
    rw[yx hb] at aq
    rw[aq.ya] at ha
    exact KZ hc pins s σ w.H _ us Q I r ⟨a,bs,rfl,bx.of ha,aF S h _ rfl⟩
  ·exact h.elim
 ·exact h.elim
noncomputable def oR (ds:List D) (s:aa):Res D:=match ds with
 | [.int i,.int j]=>ok (.int (if j > i then j else i)) s
 |_=>none
noncomputable def qT (ds:List D) (s:aa):Res D:=match ds with
 | [.int i,.int j]=>ok (.int (if j<i then j else i)) s
 |_=>none
theorem OD (hc:X.calm=true):bP X (.builtin "max") (rC X.K Ξ oR):=by
 rintro pins s σ H xs us Q I r ⟨w,ds,rfl,S,aq,h⟩
 unfold oR at h
 split at h
 ·rename_i i j
  obtain⟨v,u,rfl,dv,du⟩:=oF aq
  cases dv;cases du
  exact JL hc pins s σ w.H _ us Q I r ⟨i,j,rfl,aF S h _ rfl⟩
 ·exact h.elim
theorem OE (hc:X.calm=true):bP X (.builtin "min") (rC X.K Ξ qT):=by
 rintro pins s σ H xs us Q I r ⟨w,ds,rfl,S,aq,h⟩
 unfold qT at h
 split at h
 ·rename_i i j
  obtain⟨v,u,rfl,dv,du⟩:=oF aq
  cases dv;cases du
  exact JM hc pins s σ w.H _ us Q I r ⟨i,j,rfl,aF S h _ rfl⟩
 ·exact h.elim
noncomputable def fg (ds:List D) (s:aa):Res D:=match ds with
 | [d]=>match res d s with
  | .lst es=>ok (.tup es) s
  | .tup es=>ok (.tup es) s
  |_=>none
 |_=>none
theorem ou:bP X (.type "tuple") (rC X.K Ξ fg):=by
 rintro pins s σ H xs us Q I r ⟨w,ds,rfl,S,aq,h⟩
 unfold fg at h
 split at h
 ·obtain⟨v,rfl,dv⟩:=lI aq
  split at h
  ·rename_i es e1
   obtain⟨a,xs,rfl,ha,aq⟩:=gf S dv e1
   exact BP pins s σ w.H _ us Q I r ⟨a,xs,rfl,.inl ⟨bx.of ha,OC S aq h⟩⟩
  ·rename_i es e1
   rw[dh e1 (by intro _ z;cases z)] at dv
   have j9:=dv
   simp only[DV] at dv
   obtain⟨a,xs,rfl,ha,aq⟩:=dv
   exact BP pins s σ w.H _ us Q I r ⟨a,xs,rfl,.inr ⟨ha,aF S h _ j9⟩⟩
  ·exact h.elim
 ·exact h.elim
noncomputable def vm (ds:List D) (s:aa):Res D:=match ds with
 | [d]=>match res d s with
  | .lst es=>ok (.lst es) s
  | .tup es=>ok (.lst es) s
  |_=>none
 |_=>none
theorem OF:bP X (.type "list") (rC X.K Ξ vm):=by
 rintro pins s σ H xs us Q I r ⟨w,ds,rfl,S,aq,h⟩
 unfold vm at h
 split at h
 ·obtain⟨v,rfl,dv⟩:=lI aq
  split at h
  ·rename_i es e1
   obtain⟨a,xs,rfl,ha,aq⟩:=gf S dv e1
   exact B0 pins s σ w.H _ us Q I r ⟨a,xs,rfl,.inl (bx.of ha),oY S aq h⟩
  ·rename_i es e1
   rw[dh e1 (by intro _ z;cases z)] at dv
   simp only[DV] at dv
   obtain⟨a,xs,rfl,ha,aq⟩:=dv
   exact B0 pins s σ w.H _ us Q I r ⟨a,xs,rfl,.inr ha,oY S aq h⟩
  ·exact h.elim
 ·exact h.elim
end
end DI
namespace DI
open PySem L2
noncomputable def oS (n:Nat) (x:D) (ds:List D):Bool:=lay x&&bW ds&&decide (dep x<=n)
noncomputable def inD (x:D) (ds:List D):Option Bool:=if oS 100 x ds=true then some (ds.any λy=>beq y x) else none
noncomputable def oT (d:D) (s:aa):Option (List D):=match res d s with
 | .lst ds=>some ds
 | .tup ds=>some ds
 |_=>none
noncomputable def o9 (x y:D) (s:aa):Res D:=match oT y s with
 |some ds=>bE ((inD x ds).map D.bl) s
 |none=>none
noncomputable def ow (x y:D) (s:aa):Res D:=match oT y s with
 |some ds=>bE ((inD x ds).map λb=>D.bl (!b)) s
 |none=>none
theorem Dq {K:Frag} {w:Wd} {d:D} {v:V} {ds:List D} (S:aH K w) (h:DV K w d v) (e:oT d w.aC=some ds):∃a xs,v=.ref a/\(w.H a=some (.lst xs)\/aP K w.H a xs)/\ao K w ds xs:=by
 unfold oT at e
 split at e
 ·rename_i es e1
  cases e
  obtain⟨a,xs,rfl,ha,aq⟩:=gf S h e1
  exact⟨a,xs,rfl,.inl ha,aq⟩
 ·rename_i es e1
  cases e
  rw[dh e1 (by intro _ z;cases z)] at h
  simp only[DV] at h
  obtain⟨a,xs,rfl,ha,aq⟩:=h
  exact⟨a,xs,rfl,.inr ha,aq⟩
 ·cases e
section
variable {X:Cx} {Ξ:Wd->bD->Prop} {pins:List (Addr×Obj)} {σ:St} {s:Shared}
theorem yy {x:D} (lx:lay x=true):∀{ds:List D},bW ds=true->((bM ds).any λy=>PyData.eqv y (py x))=ds.any λy=>beq y x
 | [],_=>rfl
 |d::ds,h=>by
  simp only[bW,Bool.and_eq_true] at h
  simp only[bM,List.any_cons,uY d x h.1 lx,yy lx h.2]
theorem ER {x:D} {ds:List D} {b:Bool} (h:inD x ds=some b):lay x=true/\bW ds=true/\dep x<=100/\(ds.any λy=>beq y x)=b:=by
 unfold inD oS at h
 split at h
 ·rename_i hl
  simp only[Bool.and_eq_true,decide_eq_true_eq] at hl
  exact⟨hl.1.1,hl.1.2,hl.2,Option.some.inj h⟩
 ·cases h
theorem RS {k:Nat} (hr:bV k X.A):aW X (compareOp .In) (rO X.K Ξ o9):=by
 rintro pins s σ H x y v u Q I rx ry ⟨w,dx,dy,rfl,S,hx,hy,h⟩
 unfold o9 at h
 split at h
 ·rename_i ds hd
  obtain⟨d,e,h⟩:=dH h
  cases hb:inD dx ds with
  |none=>rw[hb] at e;cases e
  |some b =>
   rw[hb] at e
   cases e
   obtain⟨l1,l2,l3,l4⟩:=ER hb
   obtain⟨p1,p2⟩:=mQ _ l1
   obtain⟨q1,q2⟩:=qk _ l2
   obtain⟨bs,rd⟩:=(hx.py (mH _ l1)).reads I rx
   have hu:X.A.units+1+min (PyData.depthAll (bM ds)) (py dx).depth<cLine:=by
    have:=hr.un
    rw[p2]
    omega
   obtain⟨a,xs,rfl,ha,aq⟩:=Dq S hy hd
   have fin:EP X pins σ Q (.bool ((bM ds).any λy=>PyData.eqv y (py dx))) s:=⟨.bl b,w.H,I,by rw[yy l1 l2,l4];rfl,aF S h _ rfl⟩
   rcases ha with ha|ha
   ·obtain⟨cs,rc⟩:=(show L2.DV X.K (λ_=>False) w.H (.list (bM ds)) (.ref a) by simp only[L2.DV];exact⟨a,xs,rfl,not_false,ha,aq.py (mF _ l2)⟩).reads I ry
    exact SeqAt.in_list_reads rc rd q1 p1 hu fin
   ·obtain⟨cs,rc⟩:=(show L2.DV X.K (λ_=>False) w.H (.tuple (bM ds)) (.ref a) by simp only[L2.DV];exact⟨a,xs,rfl,ha,aq.py (mF _ l2)⟩).reads I ry
    exact SeqAt.in_tuple_reads rc rd q1 p1 hu fin
 ·exact h.elim
theorem D8 {k:Nat} (hr:bV k X.A):aW X (compareOp .NotIn) (rO X.K Ξ ow):=by
 rintro pins s σ H x y v u Q I rx ry ⟨w,dx,dy,rfl,S,hx,hy,h⟩
 unfold ow at h
 split at h
 ·rename_i ds hd
  obtain⟨d,e,h⟩:=dH h
  cases hb:inD dx ds with
  |none=>rw[hb] at e;cases e
  |some b =>
   rw[hb] at e
   cases e
   obtain⟨l1,l2,l3,l4⟩:=ER hb
   obtain⟨p1,p2⟩:=mQ _ l1
   obtain⟨q1,q2⟩:=qk _ l2
   obtain⟨bs,rd⟩:=(hx.py (mH _ l1)).reads I rx
   have hu:X.A.units+1+min (PyData.depthAll (bM ds)) (py dx).depth<cLine:=by
    have:=hr.un
    rw[p2]
    omega
   obtain⟨a,xs,rfl,ha,aq⟩:=Dq S hy hd
   have fin:EP X pins σ Q (.bool (!(bM ds).any λy=>PyData.eqv y (py dx))) s:=⟨.bl (!b),w.H,I,by rw[yy l1 l2,l4];rfl,aF S h _ rfl⟩
   rcases ha with ha|ha
   ·obtain⟨cs,rc⟩:=(show L2.DV X.K (λ_=>False) w.H (.list (bM ds)) (.ref a) by simp only[L2.DV];exact⟨a,xs,rfl,not_false,ha,aq.py (mF _ l2)⟩).reads I ry
    exact SeqAt.notIn_list_reads rc rd q1 p1 hu fin
   ·obtain⟨cs,rc⟩:=(show L2.DV X.K (λ_=>False) w.H (.tuple (bM ds)) (.ref a) by simp only[L2.DV];exact⟨a,xs,rfl,ha,aq.py (mF _ l2)⟩).reads I ry
    exact SeqAt.notIn_tuple_reads rc rd q1 p1 hu fin
 ·exact h.elim
noncomputable def tP (K:Frag) (Ξ:Wd->bD->Prop) (f:Env->aa->Res (Option Int)):TO:=fun σ H Q=>∃w env,w.H=H/\aH K w/\bJ K w env σ/\Out K Ξ w (f env w.aC) λw' i=>Q i w'.H
noncomputable def bT:Env->aa->Res (Option Int):=λ_ s=>ok none s
noncomputable def bI (f:Env->aa->Res D):Env->aa->Res (Option Int):=λenv s=>ak (f env s) λd s=>match d with
 | .int i=>ok (some i) s
 |_=>none
variable {e a b:Expr} {lo hi:Option Expr} {pos p2 p3 p4:Pos} {f g:Env->aa->Res D}
theorem ES {lo:Option Expr} {t t':TO} (h:PO X lo t) (i:∀ σ H Q,t' σ H Q->t σ H Q):PO X lo t':=λpins s σ H Q I hq=>h pins s σ H Q I (i σ H Q hq)
theorem fL:PO X none (tP X.K Ξ bT):=ES Mp fun σ H Q aw=>by
 obtain⟨w,env,eH,S,eo,h⟩:=aw
 subst eH
 exact aF S h
theorem eM (he:PE X e (tE X.K Ξ f)):PO X (some e) (tP X.K Ξ (bI f)):=ES (Mq he) fun σ H Q aw=>by
 obtain⟨w,env,eH,S,eo,h⟩:=aw
 subst eH
 refine⟨w,env,rfl,S,eo,(Out.ak h).mono λw1 d l1 S1 h1 v dv=>?_⟩
 cases d with
 |int i=>exact⟨i,dv,aF S1 h1⟩
 |_=>exact h1.elim
noncomputable def cutD (xs:List D) (lo hi:Option Int):List D:=(xs.drop (HT.aM xs.length 0 lo)).take (HT.aM xs.length xs.length hi-HT.aM xs.length 0 lo)
noncomputable def jM (d:D) (lo hi:Option Int) (s:aa):Res D:=match res d s with
 | .tup ds=>ok (.tup (cutD ds lo hi)) s
 | .lst ds=>ok (.lst (cutD ds lo hi)) s
 |_=>none
noncomputable def bQ (f:Env->aa->Res D) (l h:Env->aa->Res (Option Int)):Env->aa->Res D:=λenv s=>ak (f env s) λd s=>ak (l env s) λlo s=>ak (h env s) λhi s=>jM d lo hi s
noncomputable def Tf (K:Frag) (Ξ:Wd->bD->Prop):V->Option Int->Option Int->Hp->VK->Prop:=λx lo hi H Q=>∃w dx,w.H=H/\aH K w/\DV K w dx x/\Out K Ξ w (jM dx lo hi w.aC) λw' d=>∀v,DV K w' d v->Q v w'.H
theorem OG:sk X (Tf X.K Ξ):=by
 rintro pins s σ H x v vl vu lo hi sl Q I rx hs pl pu ⟨w,dx,rfl,S,hx,h⟩
 unfold jM at h
 split at h
 ·rename_i ds e1
  rw[dh e1 (by intro _ z;cases z)] at hx
  simp only[DV] at hx
  obtain⟨a,xs,rfl,ha,aq⟩:=hx
  refine Mw pins s σ w.H _ v vl vu lo hi sl Q I rx hs pl pu ⟨a,xs,rfl,ha,lS S ?_ h⟩
  unfold cutD jh
  rw[aq.length]
  exact(aq.drop _).take _
 ·rename_i ds e1
  obtain⟨a,xs,rfl,ha,aq⟩:=gf S hx e1
  refine Ms pins s σ w.H _ v vl vu lo hi sl Q I rx hs pl pu ⟨a,xs,rfl,bx.of ha,oY S ?_ h⟩
  unfold cutD jh
  rw[aq.length]
  exact(aq.drop _).take _
 ·exact h.elim
theorem fm {fl fh:Env->aa->Res (Option Int)} (he:PE X e (tE X.K Ξ f)) (hl:PO X lo (tP X.K Ξ fl)) (hu:PO X hi (tP X.K Ξ fh)):PE X (.Subscript e (.Slice lo hi none p2) pos) (tE X.K Ξ (bQ f fl fh)) :=
 b9 (KQ OG he hl hu) fun σ H Q aw=>by
  obtain⟨w,env,eH,S,eo,h⟩:=aw
  subst eH
  exact⟨w,env,rfl,S,eo,(Out.ak h).mono λw1 d l1 S1 h1 v dv=>⟨w1,env,rfl,S1,eo.le l1,(Out.ak h1).mono λw2 i l2 S2 h2=>⟨w2,env,rfl,S2,eo.le (l1.trans l2),(Out.ak h2).mono λw3 j l3 S3 h3=>⟨w3,d,rfl,S3,(l2.trans l3) _ _ dv,h3⟩⟩⟩⟩
noncomputable def ni (d:D) (s:aa):Res D:=match d with
 | .tup ds=>ok (.tup ds.reverse) s
 |_=>none
theorem Fs (he:PE X e (tE X.K Ξ f)):PE X (.Subscript e (.Slice none none (some (.UnaryOp .USub (.Constant (.int 1) 0 p4) p3)) p2) pos) (tE X.K Ξ (e1 ni f)):=b9 (Ox he) fun σ H Q aw=>by
 obtain⟨w,env,eH,S,eo,h⟩:=aw
 subst eH
 refine⟨w,env,rfl,S,eo,(Out.ak h).mono λw1 d l1 S1 h1 v dv=>?_⟩
 unfold ni at h1
 split at h1
 ·simp only[DV] at dv
  obtain⟨a,xs,rfl,ha,aq⟩:=dv
  exact⟨a,xs,rfl,ha,lS S1 aq.reverse h1⟩
 ·exact h1.elim
noncomputable def hU (d x:D) (s:aa):Res D:=match d with
 | .ar k=>match s[k]? with
  |some (.lst ds)=>if decide (ds.length<sizeLine)=true then ok .ay (s.set k (.lst (ds++[x]))) else none
  |_=>none
 |_=>none
noncomputable def jW (d:D) (s:aa):Bool:=match d with
 | .ar k=>match s[k]? with
  |some (.lst _)=>true
  |_=>false
 |_=>false
noncomputable def jl (f g:Env->aa->Res D):Env->aa->Res D:=λenv s=>ak (f env s) λd s=>if jW d s=true then ak (g env s) λx s=>hU d x s else none
theorem MR {K:Frag} {w:Wd} {d:D} {v:V} (S:aH K w) (dv:DV K w d v) (h:jW d w.aC=true):∃k a ds xs,d=.ar k/\v=.ref a/\w.ρ[k]?=some a/\w.aC[k]?=some (.lst ds)/\w.H a=some (.lst xs)/\ao K w ds xs:=by
 unfold jW at h
 split at h
 ·rename_i k
  split at h
  ·rename_i ds hk
   obtain⟨a,e1,rfl⟩:=dv
   obtain⟨xs,q1,q2⟩:=S.cell k a _ e1 hk
   exact⟨k,a,ds,xs,rfl,rfl,e1,hk,q1,q2⟩
  ·cases h
 ·cases h
theorem OH {K:Frag} {w:Wd} {d y:D} {v u:V} {q:Wd->D->Prop} (S:aH K w) (dv:DV K w d v) (du:DV K w y u) (h:Out K Ξ w (hU d y w.aC) q):∃a xs,v=.ref a/\w.H a=some (.lst xs)/\xs.length<sizeLine/\∃w',w'.H=upd w.H a (.lst (xs++[u]))/\q w' .ay:=by
 unfold hU at h
 split at h
 ·rename_i k
  split at h
  ·rename_i ds hk
   split at h
   ·rename_i hl
    obtain⟨a,e1,rfl⟩:=dv
    obtain⟨xs,q1,q2⟩:=S.cell k a _ e1 hk
    have nd:(Cell.lst ds)≠.dead:=by intro z;cases z
    have le:=(Fw.put (K:=K) (o:=.lst (xs++[u])) (c:=.lst (ds++[y])) S e1 hk nd).le
    refine⟨a,xs,rfl,q1,by rw[<- q2.length];exact of_decide_eq_true hl,w.put k a (.lst (xs++[u])) (.lst (ds++[y])),rfl,?_⟩
    exact h _ le (S.zM e1 hk nd ⟨_,ck,le.all (q2.append (ao.one du))⟩) rfl
   ·exact h.elim
  ·exact h.elim
 ·exact h.elim
theorem vo {o:Expr} {apos cU:Pos} (ho:PE X o (tE X.K Ξ f)) (ha:PE X a (tE X.K Ξ g))
  (yS:attributeBase o "append" X.env (eval o X.env)=eval o X.env:=by rfl)
  (zy:((backTo cU (starEach [a] X.env)).all (λx=>!x.1)&&(backToKw cU (keywordEach [] X.env)).all (λx=>x.1.isSome)
   && decide (([a]:List Expr).length+([]:List Keyword).length+(if ([]:List Keyword).isEmpty then 0 else 1)<30))=true:=by rfl)
  (yT:(apos.endLine==cU.line)=true:=by rfl) (hs:starEach [a] X.env=(false,eval a X.env)::starEach [] X.env:=by rfl) (yq:(backTo cU (starEach [] X.env)).any (·.1)=false:=by rfl) :
  PE X (.Call (.Attribute o "append" apos) [a] [] cU) (tE X.K Ξ (jl f g)) :=
 b9 (P7 PySem.F.plainAttrs_list PySem.F.slot_list_append PySem.F.type_list_append JO ho (iU ha kC hs) yS zy yT hs yq) fun σ H Q aw=>by
  obtain⟨w,env,eH,S,eo,h⟩:=aw
  subst eH
  refine⟨w,env,rfl,S,eo,(Out.ak h).mono λw1 d l1 S1 h1 v dv=>?_⟩
  split at h1
  ·rename_i hl
   obtain⟨k,p,ds,xs,rfl,rfl,e1,e2,e3,e4⟩:=MR S1 dv hl
   refine⟨.inl ⟨rfl,xs,bx.of e3⟩,w1,env,rfl,S1,eo.le l1,(Out.ak h1).mono λw2 y l2 S2 h2 u du=>?_⟩
   obtain⟨a',ys,ea,q1,q2,w3,eH,q3⟩:=OH S2 (l2 _ _ dv) du h2
   refine⟨a',ys,u,ea,rfl,q1,q2,?_⟩
   rw[<- eH]
   exact q3 _ rfl
  ·exact h1.elim
noncomputable def jm (d i x:D) (s:aa):Option aa:=match d,i with
 | .ar k,.int n=>match s[k]? with
  |some (.lst ds)=>(dQ ds.length n).map λj=>s.set k (.lst (ds.set j x))
  |_=>none
 |_,_=>none
noncomputable def kQ (f o i:Env->aa->Res D):Env->aa->Res Fl:=λenv s=>ak (f env s) λx s=>ak (o env s) λd s=>ak (i env s) λn s=>match jm d n x s with
 |some s'=>ok (.nx env) s'
 |none=>none
theorem OI {K:Frag} {w:Wd} {d i x:D} {v n u:V} {s':aa} (S:aH K w) (dv:DV K w d v) (dn:DV K w i n) (du:DV K w x u) (h:jm d i x w.aC=some s'):∃a xs k j,v=.ref a/\n=.int k/\w.H a=some (.lst xs)/\dQ xs.length k=some j/\∃w',w'.H=upd w.H a (.lst (xs.set j u))/\w'.aC=s'/\Le K w w'/\aH K w':=by
 unfold jm at h
 split at h
 ·rename_i k m
  split at h
  ·rename_i ds hk
   cases hj:dQ ds.length m with
   |none=>rw[hj] at h;cases h
   |some j =>
    rw[hj] at h
    cases h
    obtain⟨a,e1,rfl⟩:=dv
    obtain⟨xs,q1,q2⟩:=S.cell k a _ e1 hk
    have nd:(Cell.lst ds)≠.dead:=by intro z;cases z
    have le:=(Fw.put (K:=K) (o:=.lst (xs.set j u)) (c:=.lst (ds.set j x)) S e1 hk nd).le
    exact⟨a,xs,m,j,rfl,dn,q1,by rw[<- q2.length];exact hj,w.put k a (.lst (xs.set j u)) (.lst (ds.set j x)),rfl,rfl,le,S.zM e1 hk nd ⟨_,ck,le.all (q2.set du j)⟩⟩
  ·cases h
 ·cases h
theorem Fu {o i:Expr} {jX:Pos} {fo fi:Env->aa->Res D} (he:PE X e (tE X.K Ξ f)) (ho:PE X o (tE X.K Ξ fo)) (hi:PE X i (tE X.K Ξ fi))
  (ha:∀v,assign (.Subscript o i jX) X.env v=(do
   let ov <- holding [v] (eval o X.env)
   let iv <- holding [v,ov] (eval i X.env)
   standAt jX
   holding [v,ov,iv] (setItem ov iv v)
   release [v,ov,iv] []):=by intro _;rfl)
  (hs:swapsWithSole [.Subscript o i jX] e pos.line X.env=pure false:=by rfl) (hw:swappedStores [.Subscript o i jX] e X.env=pure none:=by rfl)
  (h1:(assignEach [.Subscript o i jX] X.env).map (·.2)=[assign (.Subscript o i jX) X.env]:=by rfl):PS X (.Assign [.Subscript o i jX] e pos) (tS X.K Ξ (kQ f fo fi)) :=
 jL (N3 he (N2 ho hi set_list ha) hs hw h1) λD0 σ H aw=>by
  obtain⟨w,env,eH,S,eo,h⟩:=aw
  subst eH
  refine⟨w,env,rfl,S,eo,(Out.ak h).mono λw1 x l1 S1 h1 u du=>?_⟩
  refine⟨w1,env,rfl,S1,eo.le l1,(Out.ak h1).mono λw2 d l2 S2 h2 v dv=>?_⟩
  refine⟨w2,env,rfl,S2,eo.le (l1.trans l2),(Out.ak h2).mono λw3 n l3 S3 h3 m dm=>?_⟩
  cases hd:jm d n x w3.aC with
  |none=>rw[hd] at h3;exact h3.elim
  |some s' =>
   rw[hd] at h3
   obtain⟨a,xs,k,j,e1,e2,q1,q2,w4,eH,es,le,S4⟩:=OI S3 (l3 _ _ dv) dm ((l2.trans l3) _ _ du) hd
   refine⟨a,xs,k,j,e1,e2,q1,q2,?_⟩
   rw[<- eH]
   exact h3 w4 le S4 es σ (eo.le (l1.trans (l2.trans (l3.trans le))))
end
end DI
namespace DI
open PySem L2
noncomputable def kd (d:D) (s:aa):Option Kn:=match res d s with
 | .ay=>some .ay
 | .bl _=>some .bl
 | .int _=>some .int
 | .str _=>some .str
 | .tup _=>some .tup
 | .lst _=>some .lst
 | .aY _=>some .aY
 |_=>none
theorem Qq {K:Frag} {w:Wd} {d:D} {v:V} {k:Kn} (S:aH K w) (h:DV K w d v) (e:kd d w.aC=some k):pE K w.H v k:=by
 unfold kd at e
 split at e<;>rename_i e1<;>first | (cases e;done) | (try cases e)
 ·rw[dh e1 (by intro _ z;cases z)] at h;cases h;trivial
 ·rw[dh e1 (by intro _ z;cases z)] at h;cases h;trivial
 ·rw[dh e1 (by intro _ z;cases z)] at h;cases h;trivial
 ·rw[dh e1 (by intro _ z;cases z)] at h;cases h;trivial
 ·rw[dh e1 (by intro _ z;cases z)] at h
  simp only[DV] at h
  obtain⟨a,xs,rfl,ha,_⟩:=h
  exact⟨xs,ha⟩
 ·obtain⟨a,xs,rfl,ha,_⟩:=gf S h e1
  exact⟨xs,bx.of ha⟩
 ·rw[dh e1 (by intro _ z;cases z)] at h
  simp only[DV] at h
  obtain⟨a,rfl,_,ha⟩:=h
  exact⟨_,ha⟩
noncomputable def Fv (T:String):Bool:=T=="int"||T=="bool"||T=="str"||T=="tuple"||T=="list"
noncomputable def bh (ds:List D) (s:aa):Res D:=match ds with
 | [d,.ty T]=>if Fv T=true then bE ((kd d s).map λk=>.bl (oW k T)) s else none
 |_=>none
section
variable {X:Cx} {Ξ:Wd->bD->Prop} {e a b:Expr} {es:List Expr} {pos:Pos} {f g:Env->aa->Res D} {fa:Env->aa->Res (List D)}
theorem dj:bP X (.builtin "isinstance") (rC X.K Ξ bh):=by
 rintro pins s σ H xs us Q I r ⟨w,ds,rfl,S,aq,h⟩
 unfold bh at h
 split at h
 ·rename_i d T
  obtain⟨v,u,rfl,dv,du⟩:=oF aq
  have eu:u=.ty T:=du
  subst eu
  split at h
  ·rename_i hT
   obtain⟨d',e,h⟩:=dH h
   cases hk:kd d w.aC with
   |none=>rw[hk] at e;cases e
   |some k =>
    rw[hk] at e
    cases e
    have sI:=Qq S dv hk
    simp only[Fv,Bool.or_eq_true,beq_iff_eq] at hT
    rcases hT with (((rfl|rfl)|rfl)|rfl)|rfl
    ·exact H0 pins s σ w.H _ us Q I r ⟨v,k,rfl,sI,aF S h _ rfl⟩
    ·exact HM pins s σ w.H _ us Q I r ⟨v,k,rfl,sI,aF S h _ rfl⟩
    ·exact H9 pins s σ w.H _ us Q I r ⟨v,k,rfl,sI,aF S h _ rfl⟩
    ·exact HF pins s σ w.H _ us Q I r ⟨v,k,rfl,sI,aF S h _ rfl⟩
    ·exact HN pins s σ w.H _ us Q I r ⟨v,k,rfl,sI,aF S h _ rfl⟩
  ·exact h.elim
 ·exact h.elim
theorem dq {x:Str} {T:String} (hv:bootBuiltins x=some (.type T)) (hg:Gl X x) (hm:X.mg x=none) (hn:x≠"__name__":=by decide) (hd:(x==("__debug__":Str))=false:=by decide):PE X (.Name x pos) (tE X.K Ξ (eC (.ty T))):=oM (v:=.ty T) (xQ hg hm hv rfl hn hd) λ_=>rfl
theorem Gb {x:Str} {i:Int} (g:∃t,X.mg x=some (.int i t)) (hg:Gl X x) (hd:(x==("__debug__":Str))=false:=by decide):PE X (.Name x pos) (tE X.K Ξ (eC (.int i))):=by
 obtain⟨t,e⟩:=g
 exact oM (v:=.int i) (Mc hg e ⟨t,rfl⟩ hd) λ_=>rfl
noncomputable def RT (d:D) (s:aa):Res D:=bE ((kd d s).map λk=>.bl (decide (k=.tup)||decide (k=.lst))) s
noncomputable def mZ (d:D):Bool:=plain d&&(py d).showable&&(!(py d).hasDict||(match py d with | .tuple ds=>gZ ds | .dict _=>true | _=>false))&&decide ((py d).depth<=100)&&decide ((py d).shown.length<=sizeLine)
noncomputable def ja (ds:List D) (s:aa):Res D:=match ds with
 | [d]=>if mZ (res d s)=true then ok (.str (py (res d s)).shown) s else none
 |_=>none
theorem ET {k:Nat} (hr:bV k X.A):bP X (.builtin "repr") (rC X.K Ξ ja):=by
 rintro pins s σ H xs us Q I r ⟨w,ds,rfl,S,aq,h⟩
 unfold ja at h
 split at h
 ·rename_i d
  obtain⟨v,rfl,dv⟩:=lI aq
  split at h
  ·rename_i hk
   simp only[mZ,Bool.and_eq_true,decide_eq_true_eq] at hk
   obtain⟨⟨⟨⟨h1,h2⟩,h3⟩,h4⟩,h5⟩:=hk
   have dp:=dv.res S h1
   have fin:=aF S h _ rfl
   generalize hp:py (res d w.aC)=P at *
   cases P with
   |tuple ps =>
    refine Jj hr pins s σ w.H _ us Q I r ⟨v,ps,_,rfl,dp,h2,?_,h4,h5,fin⟩
    simpa using h3
   |dict ai=>exact CS hr pins s σ w.H _ us Q I r ⟨v,_,_,rfl,dp,h2,.inr rfl,h4,h5,fin⟩
   |_ =>
    refine CS hr pins s σ w.H _ us Q I r ⟨v,_,_,rfl,dp,h2,.inl ?_,h4,h5,fin⟩
    simpa using h3
  ·exact h.elim
 ·exact h.elim
noncomputable def jb:List D->Option (List Int)
 | []=>some []
 | .int i::ds=>(jb ds).map λr=>i::r
 |_::_=>none
theorem xD:∀{ds:List D} {ns:List Int},jb ds=some ns->ds=ns.map D.int
 | [],ns,h=>by cases h;rfl
 | .int b::ds,ns,h=>by
  simp only[jb] at h
  cases hd:jb ds with
  |none=>rw[hd] at h;cases h
  |some r=>rw[hd] at h;cases h;rw[xD hd];rfl
 | .ay::_,_,h=>by cases h
 | .bl _::_,_,h=>by cases h
 | .str _::_,_,h=>by cases h
 | .tup _::_,_,h=>by cases h
 | .lst _::_,_,h=>by cases h
 | .aY _::_,_,h=>by cases h
 | .ar _::_,_,h=>by cases h
 | .ty _::_,_,h=>by cases h
 | .bS _::_,_,h=>by cases h
theorem C3 {ns:List Int}:jb (ns.map D.int)=some ns:=by
 induction ns with
 |nil=>rfl
 |cons b bs ih=>simp only[List.map_cons,jb,ih,Option.map_some]
noncomputable def lW (i:Int):List Int->List Int
 | []=>[i]
 |j::r=>if i<j then i::j::r else if i=j then j::r else j::lW i r
noncomputable def jc:List Int->List Int
 | []=>[]
 |i::r=>lW i (jc r)
theorem xE {i k:Int}:∀{l:List Int},k∈lW i l↔k=i\/k∈l
 | []=>by simp[lW]
 |j::r=>by
  unfold lW
  split
  ·simp
  ·split
   ·rename_i h;subst h;simp
   ·rw[List.mem_cons,xE,List.mem_cons]
    constructor
    ·rintro (h|h|h)
     ·exact .inr (.inl h)
     ·exact .inl h
     ·exact .inr (.inr h)
    ·rintro (h|h|h)
     ·exact .inr (.inl h)
     ·exact .inl h
     ·exact .inr (.inr h)
theorem Ck {i:Int}:∀{l:List Int},l.Pairwise (· < ·)->(lW i l).Pairwise (· < ·)
 | [],_=>by simp[lW]
 |j::r,h=>by
  obtain⟨h1,h2⟩:=List.pairwise_cons.mp h
  unfold lW
  split
  ·rename_i ia
   refine List.pairwise_cons.mpr ⟨λk hk=>?_,h⟩
   rcases List.mem_cons.mp hk with rfl|hk
   ·exact ia
   ·have:=h1 k hk;omega
  ·split
   ·exact h
   ·refine List.pairwise_cons.mpr ⟨λk hk=>?_,Ck h2⟩
    rcases xE.mp hk with rfl|hk
    ·omega
    ·exact h1 k hk
theorem xn {k:Int}:∀{l:List Int},k∈jc l↔k∈l
 | []=>by simp[jc]
 |i::r=>by simp[jc,xE,xn]
theorem xa:∀(l:List Int),(jc l).Pairwise (· < ·)
 | []=>List.Pairwise.nil
 |i::r=>Ck (xa r)
theorem BR:∀{l m:List Int},l.Pairwise (· < ·)->m.Pairwise (· < ·)->(∀k,k∈l↔k∈m)->l=m
 | [],[],_,_,_=>rfl
 | [],j::m,_,_,h=>by have:=(h j).mpr List.mem_cons_self;cases this
 |i::l,[],_,_,h=>by have:=(h i).mp List.mem_cons_self;cases this
 |i::l,j::m,hl,hm,h=>by
  obtain⟨l1,l2⟩:=List.pairwise_cons.mp hl
  obtain⟨m1,m2⟩:=List.pairwise_cons.mp hm
  have e:i=j:=by
   rcases List.mem_cons.mp ((h i).mp List.mem_cons_self) with e|e
   ·exact e
   ·rcases List.mem_cons.mp ((h j).mpr List.mem_cons_self) with e'|e'
    ·exact e'.symm
    ·have:=m1 i e;have:=l1 j e';omega
  subst e
  congr 1
  refine BR l2 m2 λk=>?_
  constructor
  ·intro hk
   rcases List.mem_cons.mp ((h k).mp (List.mem_cons_of_mem _ hk)) with e|e
   ·subst e;have:=l1 k hk;omega
   ·exact e
  ·intro hk
   rcases List.mem_cons.mp ((h k).mpr (List.mem_cons_of_mem _ hk)) with e|e
   ·subst e;have:=m1 k hk;omega
   ·exact e
noncomputable def qm (d:D) (s:aa):Res D:=match d with
 | .tup ds=>match jb ds with
  |some ns=>if decide (ns.length<64)=true then ok (.lst ((jc ns).map D.int)) s else none
  |none=>none
 |_=>none
theorem Jn {p p2 gA:Pos} (ha:PE X a (tE X.K Ξ f)) (hc:X.calm=true) (hg:Gl X "sorted") (hm:X.mg "sorted"=none) (hv:bootBuiltins "sorted"=some (.builtin "sorted")) (jx:Gl X "set") (nP:X.mg "set"=none) (Ti:bootBuiltins "set"=some (.type "set"))
  (he:starEach [a] X.env=(false,eval a X.env)::starEach [] X.env:=by rfl) (bX:(backTo gA (starEach [] X.env)).any (·.1)=false:=by rfl)
  (mr:starEach [.Call (.Name "set" p2) [a] [] gA] X.env=(false,eval (.Call (.Name "set" p2) [a] [] gA) X.env)::starEach [] X.env:=by rfl) (rG:(backTo pos (starEach [] X.env)).any (·.1)=false:=by rfl) :
  PE X (.Call (.Name "sorted" p) [.Call (.Name "set" p2) [a] [] gA] [] pos) (tE X.K Ξ (e1 qm f)) :=
 b9 (xx (Ib hc) hg hm hv (iU (oh (Ji hc) jx nP Ti (iU ha kC he) (by decide) (by decide) he bX) kC mr) (by decide) (by decide) mr rG) fun σ H Q aw=>by
  obtain⟨w,env,eH,S,eo,h⟩:=aw
  subst eH
  refine⟨w,env,rfl,S,eo,(Out.ak h).mono λw1 d l1 S1 h1 v dv=>?_⟩
  unfold qm at h1
  split at h1
  ·rename_i ds
   split at h1
   ·rename_i ns hn
    split at h1
    ·rename_i hl
     have hl:=of_decide_eq_true hl
     simp only[DV] at dv
     obtain⟨p,xs,rfl,hp,aq⟩:=dv
     rw[xD hn] at aq
     rw[aq.Dm] at hp
     refine⟨p,ns,rfl,hp,by omega,λq hq=>?_⟩
     refine⟨q,ns,rfl,ck,hl,λl ms kW hs hk=>?_⟩
     have e:=BR hs (xa ns) λk=>(hk k).trans xn.symm
     subst e
     have AF:(w1.grow q (.ext (jT X.prog X.w q ns))).H l=none:=kW
     have S2:=S1.grow (o:=.ext (jT X.prog X.w q ns)) hq
     exact h1 ((w1.grow q (.ext (jT X.prog X.w q ns))).grow l (.lst ((jc ns).map V.int))) ((Fw.grow hq).le.trans (Fw.grow AF).le) (S2.grow AF) rfl (.ref l) ⟨l,_,rfl,⟨(show ¬ (w1.grow q (.ext (jT X.prog X.w q ns))).Z l from lH S2 AF),ck⟩,ao.ints _⟩
    ·exact h1.elim
   ·exact h1.elim
  ·exact h1.elim
noncomputable def pb (i j:Nat) (fa:Env->aa->Res (List D)):Env->aa->Res Fl:=λenv s=>ak (fa env s) λds s=>match ds with
 | [x,y]=>ok (.nx ((env.set i (some x)).set j (some y))) s
 |_=>none
theorem EU (i j:Nat) {x y:Str} {px py pt:Pos} {kt k2 fR} (hc:X.calm=true) (hN:X.N.Nodup) (ha:PA X [a,b] (tA X.K Ξ fa)) (hi:X.N[i]?=some x:=by rfl) (hj:X.N[j]?=some y:=by rfl) (ia:i≠j:=by decide)
  (hx:X.env.scope.names.lookup x=some .local:=by rfl) (hy:X.env.scope.names.lookup y=some .local:=by rfl)
  (hw:swappedStores [.Tuple [.Name x px,.Name y py] kt pt] (.Tuple [a,b] k2 fR) X.env=pure (some [x,y]):=by rfl)
  (hs:swapsWithSole [.Tuple [.Name x px,.Name y py] kt pt] (.Tuple [a,b] k2 fR) pos.line X.env=pure false:=by rfl) :
  PS X (.Assign [.Tuple [.Name x px,.Name y py] kt pt] (.Tuple [a,b] k2 fR) pos) (tS X.K Ξ (pb i j fa)):=jL (N5 hc hN hi hj ia hx hy ha hw hs) λD0 σ H aw=>by
 obtain⟨w,env,eH,S,eo,h⟩:=aw
 subst eH
 refine⟨w,env,rfl,S,eo,(Out.ak h).mono λw1 ds l1 S1 h1 vs aq=>?_⟩
 split at h1
 ·obtain⟨v,u,rfl,dv,du⟩:=oF aq
  exact⟨v,u,rfl,aF S1 h1 _ (((eo.le l1).set dv i).set du j)⟩
 ·exact h1.elim
end
end DI
namespace L2
open PySem PySem.Spec PyProof.Rows
structure DS (Y:Cx) (D:Addr) (pins:List (Addr×Obj)):Prop where
 loc:D≠Y.env.locals
 fs:D∉Y.fs
 new:Y.cF.heap.objs.size<=D
 cell:∀x c,Y.env.cells.lookup x=some c->c≠D
 pin:∀p∈Y.pn++pins,p.1≠D
structure nQ (Y:Cx) (D:Addr) (nt:Nat) (caps:St) (pins:List (Addr×Obj)) (o:St) (H:Hp) (s:Shared) (acc:List V):Prop where
 inv:Inv Y pins (o++caps) H s
 len:o.length=nt
 lst:∃ys,s.heap.PlainList D ys/\Vals acc ys.toList
 free:H D=none
 mi:acc.length<=sizeLine
noncomputable abbrev hV:=St->Hp->List V->(St->List V->Hp->Prop)->Prop
def rH (Y:Cx) (D:Addr) (nt:Nat) (caps:St) (c:Code) (m:Sem PySem.Fin) (ta:hV):Prop :=
 ∀(pins:List (Addr×Obj)) (o:St) (H:Hp) (s:Shared) (acc:List V) (Q:St->List V->Hp->Prop),DS Y D pins->nQ Y D nt caps pins o H s acc->ta (o++caps) H acc Q ->
  wpAny (model Y.prog Y.w) Y.A m (λfn s'=>fn=.again c/\∃o' H' dN,nQ Y D nt caps pins o' H' s' dN/\Q (o'++caps) dN H') (λ_ _=>False) s
def CA (J:It) (g:TG) (tf:TT) (ta:hV) (τ:St) (acc:List V) (H:Hp) (Q:St->List V->Hp->Prop):Prop:=∃W:Nat->Nat->St->List V->Hp->Prop,(∃m,W 0 m τ acc H) /\
 ∀i m τ acc H2,W i m τ acc H2->(J.stop i H2/\Q τ acc H2) \/
  (J.go i H2/\∃N:St->List V->Hp->Prop,(∀ cw dN H',N cw dN H'->∃m',m' < m/\W (i+1) m' cw dN H') /\
   ∀x H3,J.rZ i H2 x H3->g x τ H3 fun nG H4=>tf nG H4 λb H5=>if b=true then ta nG H5 acc N else N nG acc H5)
noncomputable def Fx (te:TE):hV:=fun τ H acc Q=>acc.length+1<=sizeLine/\te τ H λv H'=>Q τ (acc++[v]) H'
noncomputable def Fy (wi:TI) (g:TG) (tf:TT) (ta:hV):hV:=fun τ H acc Q=>wi τ H λJ H1=>CA J g tf ta τ acc H1 Q
section
variable {Y:Cx} {D:Addr} {nt:Nat} {caps:St}
theorem DS.obj {pins:List (Addr×Obj)} {o:St} {H:Hp} {s:Shared} {acc:List V} (ds:DS Y D pins) (B:nQ Y D nt caps pins o H s acc):∃oD ys nn,s.heap.get? D=some oD/\oD={ cls:=.type "list",data:=.seq ys nn }/\Vals acc ys.toList/\Inv Y (pins++[(D,oD)]) (o++caps) H s:=by
 obtain⟨ys,⟨nn,ho⟩,rv⟩:=B.lst
 refine⟨_,ys,nn,ho,rfl,rv,B.inv.jG λp hp=>?_⟩
 rcases List.mem_append.mp hp with z|z
 ·exact B.inv.pin p (List.mem_append_right _ z)
 ·have e:p=(D,{ cls:=.type "list",data:=.seq ys nn }):=by simpa using z
  subst e
  exact⟨ho,B.free,ds.loc,ds.fs,λv z=>by cases z⟩
theorem Ls {el:Expr} {te:TE} {c:Code} (hx:Y.xe=λ_ _=>False) (hE:PE Y el te):rH Y D nt caps c ((do let _ <- call (.builtin "list.append") [.ref D,<- eval el Y.env]:Sem Unit) >>= λ_=>again c) (Fx te):=by
 intro pins o H s acc Q ds B h
 obtain⟨hz,h⟩:=h
 obtain⟨oD,ys,nn,ho,eo,rv,I⟩:=ds.obj B
 have q:=hE _ s _ H _ I h
 rw[hx] at q
 refine wpAny_bind (wpAny_bind (aA q λy s8 h8=>?_))
 obtain⟨v,H8,I8,r8,q9⟩:=h8
 have pD:=I8.pin (D,oD) (List.mem_append_right _ (List.mem_append_right _ (by simp)))
 have AG:s8.heap.PlainList D ys:=⟨nn,by rw[<- eo];exact pD.1⟩
 have AH:ys.size<=sizeLine:=by
  have e:=rv.length
  simp only[Array.length_toList] at e
  omega
 refine wpAny_bind (wpAny_list_append_plain (hsz:=AH) AG λh9 AI wH=>wpAny_pure (wpAny_pure ⟨rfl,?_⟩))
 have AJ:Inv Y pins (o++caps) H8 s8:=I8.ij
 have I9:Inv Y pins (o++caps) H8 { s8 with heap:=h9,toks:=s8.toks }:=AJ.turned (it:=D) (λb o hb e=>(wH.2 b hb).trans e) pD.2.1 ds.loc (.inr ds.new) ds.cell ds.pin
 refine⟨o,H8,acc++[v],⟨I9,B.len,⟨ys.push y,AI,?_⟩,pD.2.1,by rw[List.length_append];simpa using hz⟩,q9⟩
 rw[Array.toList_push]
 exact Vals.append rv (.cons r8 .nil)
theorem Cz {e tg:Expr} {tests:List Expr} {d:Nat} {it:Addr} {J:It} {fp:List Addr} {tn:Nat->Heap->Prop} {g:TG} {tf:TT} {ta:hV} {act:Sem PySem.Fin} {p0:Pos} {pins:List (Addr×Obj)} {o:St} {H:Hp} {s:Shared} {acc:List V} {Q:St->List V->Hp->Prop} (hx:Y.xe=λ_ _=>False) (hc:Y.calm=true)
  (T:Turn Y.prog Y.w Y.K tg J fp it tn) (Tj:tn 0 s.heap) (hf:∀b∈fp,cj Y pins H b) (lb:D∉fp) (hG:PG Y tg g) (fY:md g nt) (hF:PF Y tests tf) (hA:rH Y D nt caps (.compLoop e d (.ref it) (.ref D) Y.env) act ta) (ds:DS Y D pins) (B:nQ Y D nt caps pins o H s acc) (hq:(Code.compLoop e d (.ref it) (.ref D) Y.env).quiet=true)
  (RU:∀(M:Model) (A:Around) (Q':Fin->Shared->Prop) (E':Value->Shared->Prop) (s':Shared),wpAny (model Y.prog Y.w) A (compTurn e d (.ref it) (.ref D) Y.env) Q' (λ_ _=>False) s'->wpAny (model Y.prog Y.w) (A.under (.compLoop e d (.ref it) (.ref D) Y.env)) ((model Y.prog Y.w).den (.compLoop e d (.ref it) (.ref D) Y.env)) Q' E' s')
  (ht:compTurn e d (.ref it) (.ref D) Y.env=(do
   standAt p0
   match <- pyNext (.ref it) with
   |none=>pure (.done .next)
   |some v =>
    letOwnedTupleGo tg (.ref it) v
    assign tg Y.env v
    let mut ok:=true
    for c in tests do
     if ok then ok <- isTrue c Y.env (eval c Y.env)
    if ok then act else again (.compLoop e d (.ref it) (.ref D) Y.env)))
  (h:CA J g tf ta (o++caps) acc H Q) :
  codeAny (model Y.prog Y.w) Y.A (.compLoop e d (.ref it) (.ref D) Y.env) (λr s'=>r=.ok .next/\∃o' H' dN,nQ Y D nt caps pins o' H' s' dN/\Q (o'++caps) dN H') s:=by
 obtain⟨W,⟨m0,w0⟩,turn⟩:=h
 have lg:∀{H':Hp} {pl:List (Addr×Obj)},(∀b∈fp,H' b=none)->(∀p∈pl,p.1∉fp)->∀b∈fp,cj Y (pins++pl) H' b:=λ{H' pl} hn hp b hb=>by
  obtain⟨_,f1,nR,f3,f4,f5⟩:=hf b hb
  refine⟨hn b hb,f1,nR,f3,f4,λp sJ=>?_⟩
  rcases List.mem_append.mp sJ with z|z
  ·exact f5 p (List.mem_append_left _ z)
  ·rcases List.mem_append.mp z with z|z
   ·exact f5 p (List.mem_append_right _ z)
   ·exact λe=>hp p z (e ▸ hb)
 refine codeAny_loop hq (λn s'=>∃i acc o H',nQ Y D nt caps pins o H' s' acc/\tn i s'.heap/\(∀b∈fp,H' b=none)/\W i n (o++caps) acc H') (λn s3 hJ=>?_) m0 ⟨0,acc,o,H,B,Tj,λb hb=>(hf b hb).1,w0⟩
 obtain⟨i,acc,o3,H3,B3,jq,l7,w3⟩:=hJ
 refine RU (model Y.prog Y.w) _ _ _ _ ?_
 rw[ht]
 obtain⟨oD,ys,nn,ho,eo,mv,sL⟩:=ds.obj B3
 have nU:∀p∈[(D,oD)],p.1∉fp:=λp hp=>by
  have e:p=(D,oD):=by simpa using hp
  subst e
  exact lb
 have pR:∀{pl:List (Addr×Obj)} {cw:St} {H':Hp} {s':Shared},Inv Y (pins++[(D,oD)]++pl) cw H' s'->s'.heap.PlainList D ys/\H' D=none:=λ{pl cw H' s'} I'=>by
  have q:=I'.pin (D,oD) (List.mem_append_right _ (List.mem_append_left _ (List.mem_append_right _ (by simp))))
  exact⟨⟨nn,by rw[<- eo];exact q.1⟩,q.2.1⟩
 refine wpAny_bind (wpAny_standAt (wpAny_bind ?_))
 rcases turn i n _ acc H3 w3 with ⟨stop,q⟩ | ⟨go,N',hN,step⟩
 ·have hd:=T.done Y rfl rfl rfl hc i _ s3 _ H3 (λ_ _=>False) sL (lg l7 nU) jq stop
  refine aA hd λr s4 h4=>?_
  obtain⟨hr,I4⟩:=h4
  subst hr
  obtain⟨AK,n4⟩:=pR (pl:=[]) (by simpa using I4)
  exact wpAny_pure ⟨rfl,o3,H3,acc,⟨I4.ij,B3.len,⟨ys,AK,mv⟩,n4,B3.mi⟩,q⟩
 ·have hd:=T.item Y rfl rfl rfl hc i _ s3 _ H3 (λ_ _=>False) sL (lg l7 nU) jq go
  refine aA hd λr s4 h4=>?_
  obtain⟨u,hr,h4⟩:=h4
  subst hr
  refine wpAny_bind (aA h4 λ_ s5 h5=>?_)
  obtain⟨x,H5,I5,r5,y5,jr,r9⟩:=h5
  have sd:=I5.pinned (lg r9 nU) (T.obj _ _ jr)
  have q5:=hG _ s5 _ H5 x u _ sd r5 (fY x o3 _ H5 _ B3.len (step x H5 y5))
  rw[hx] at q5
  refine wpAny_bind (aA q5 λ_ s6 h6=>?_)
  obtain⟨pT,H6,I6,⟨o6,sM,vO⟩,q6⟩:=h6
  have q7:=hF _ s6 pT H6 _ I6 q6
  rw[hx] at q7
  refine wpAny_bind (aA q7 λb s7 h7=>?_)
  obtain⟨H7,I7,q7⟩:=h7
  subst vO
  obtain⟨wI,n7⟩:=pR I7
  have AL:Inv Y (pins++lG fp s5.heap) (o6++caps) H7 s7:=I7.jG λp hp=>by
   rcases List.mem_append.mp hp with z|z
   ·exact I7.pin p (List.mem_append_right _ (List.mem_append_left _ (List.mem_append_left _ z)))
   ·exact I7.pin p (List.mem_append_right _ (List.mem_append_right _ z))
  have rJ:∀{cw:St} {H':Hp} {s':Shared},Inv Y (pins++lG fp s5.heap) cw H' s'->tn (i+1) s'.heap/\∀b∈fp,H' b=none:=λ{cw H' s'} I'=>by
   refine⟨T.keep _ _ _ jr λb hb o e=>(I'.pin (b,o) (List.mem_append_right _ (List.mem_append_right _ (n9 hb e)))).1,λb hb=>?_⟩
   obtain⟨o,e,_⟩:=T.obj _ _ jr b hb
   exact(I'.pin (b,o) (List.mem_append_right _ (List.mem_append_right _ (n9 hb e)))).2.1
  cases b with
  |false =>
   rw[if_neg Bool.false_ne_true] at q7
   obtain⟨m',hm,w7⟩:=hN _ _ _ q7
   obtain⟨t7,f7⟩:=rJ AL
   exact wpAny_pure ⟨rfl,m',hm,i+1,acc,o6,H7,⟨AL.ij,sM,⟨ys,wI,mv⟩,n7,B3.mi⟩,t7,f7,w7⟩
  |true =>
   rw[if_pos rfl] at q7
   have wJ:DS Y D (pins++lG fp s5.heap):=⟨ds.loc,ds.fs,ds.new,ds.cell,λp hp=>by
    rcases List.mem_append.mp hp with z|z
    ·exact ds.pin p (List.mem_append_left _ z)
    ·rcases List.mem_append.mp z with z|z
     ·exact ds.pin p (List.mem_append_right _ z)
     ·exact λe=>lb (e ▸ (CL z).1)⟩
   refine aA (hA _ o6 H7 s7 acc N' wJ ⟨AL,sM,⟨ys,wI,mv⟩,n7,B3.mi⟩ q7) λfn s8 h8=>?_
   obtain⟨Tn,o8,H8,RV,B8,q8⟩:=h8
   subst Tn
   obtain⟨m',hm,w8⟩:=hN _ _ _ q8
   obtain⟨t8,f8⟩:=rJ B8.inv
   exact⟨rfl,m',hm,i+1,RV,o8,H8,⟨B8.inv.ij,B8.len,B8.lst,B8.free,B8.mi⟩,t8,f8,w8⟩
end
end L2
namespace L2
open PySem PySem.Spec PyProof.Rows
theorem EV {P:Program} {w:World} {el:Expr} {gens:List Comprehension} {sc:Scope} {ps:Pos} {d:Nat} {fT av:Value} {ce:Env} (A:Around) (Q':Fin->Shared->Prop) (E':Value->Shared->Prop) (s':Shared)
  (h:wpAny (model P w) A (compTurn (.ListComp el gens sc ps) d fT av ce) Q' (λ_ _=>False) s'):wpAny (model P w) (A.under (.compLoop (.ListComp el gens sc ps) d fT av ce)) ((model P w).den (.compLoop (.ListComp el gens sc ps) d fT av ce)) Q' E' s':=by
 show wpAny _ A ((compTurn (.ListComp el gens sc ps) d fT av ce).onRaise (λx=>do noteFrame x ce;theTreesLotGoes x)) _ _ s'
 exact wpAny_noted (wpAny_mono h (λ_ _ q=>q) λ_ _ z=>z.elim)
theorem Lu {P:Program} {w:World} {A:Around} {R:Result->Shared->Prop} {s:Shared} {el target iter:Expr} {ifs:List Expr} {gens:List Comprehension} {sc:Scope} {ps:Pos} {d:Nat} {it acc:Value} {env:Env} (hd:gens[d]?=some ⟨target,iter,ifs,0⟩)
  (h0:codeAny (model P w) A (.compLoop (.ListComp el gens sc ps) d it acc env) R s)
  (h:wpAny (model P w) A (pyIter it) (λsN s'=>codeAny (model P w) A (.compLoop (.ListComp el gens sc ps) d sN acc env) R s') (λ_ _=>False) s) :
  codeAny (model P w) A (.compStart (.ListComp el gens sc ps) d it acc env) R s:=by
 refine codeAny_of_tree ?_
 show wpAny _ _ ((compStart (.ListComp el gens sc ps) d it acc env).onRaise (λx=>do noteFrame x env;standAt theWindowsPlace)) _ _ s
 refine wpAny_notedAt ?_
 have cH:(clausesOf (.ListComp el gens sc ps))[d]?=some ⟨target,iter,ifs,0⟩:=hd
 unfold compStart
 rw[cH]
 show wpAny _ _ (ask >>= _) _ _ s
 refine wpAny_bind (wpAny_askSetting (wpAny_ite ?_))
 split
 ·first
   |exact wpAny_bind (wpAny_pure (wpAny_pure (And.intro rfl h0)))
   |exact wpAny_pure (And.intro rfl h0)
 ·refine wpAny_bind (wpAny_rule ?_)
  show wpAny _ _ (standAt iter.pos >>= _) _ _ s
  exact wpAny_bind (wpAny_standAt (wpAny_bind (wpAny_mono h (λsN s' h'=>wpAny_pure (And.intro rfl h')) λ_ _ x=>x.elim)))
section
variable {Y:Cx} {D:Addr} {nt:Nat} {caps:St}
theorem Lv {el tg src:Expr} {gens:List Comprehension} {sc:Scope} {ps:Pos} {tests:List Expr} {d:Nat} {wi:TI} {g:TG} {tf:TT} {ta:hV} {act:Addr->Sem PySem.Fin} {c:Code} (hx:Y.xe=λ_ _=>False) (hc:Y.calm=true) (hd:gens[d]?=some ⟨tg,src,tests,0⟩)
  (hi:PI Y tg src wi) (hG:PG Y tg g) (fY:md g nt) (hF:PF Y tests tf) (hA:∀it:Addr,rH Y D nt caps (.compLoop (.ListComp el gens sc ps) d (.ref it) (.ref D) Y.env) (act it) ta)
  (ht:∀it:Addr,compTurn (.ListComp el gens sc ps) d (.ref it) (.ref D) Y.env=(do
   standAt src.pos
   match <- pyNext (.ref it) with
   |none=>pure (.done .next)
   |some v =>
    letOwnedTupleGo tg (.ref it) v
    assign tg Y.env v
    let mut ok:=true
    for c in tests do
     if ok then ok <- isTrue c Y.env (eval c Y.env)
    if ok then act it else again (.compLoop (.ListComp el gens sc ps) d (.ref it) (.ref D) Y.env)))
  (hs:∀x,foldedSetIterable src Y.env x=pure x) :
  rH Y D nt caps c (do
   let x <- eval src Y.env
   standAt src.pos
   let x <- foldedSetIterable src Y.env x
   let _ <- runOwn (.compStart (.ListComp el gens sc ps) d (<- holding [x] (pyIter x)) (.ref D) Y.env) Y.env
   again c) (Fy wi g tf ta):=by
 intro pins o H s acc Q ds B h
 obtain⟨oD,ys,nn,ho,eo,rv,I⟩:=ds.obj B
 have q:=hi _ s _ H _ I h
 rw[hx] at q
 refine wpAny_bind (aA q λv s1 h1=>wpAny_bind (wpAny_standAt ?_))
 rw[hs]
 refine wpAny_bind (wpAny_pure (wpAny_bind (wpAny_holding (aA h1 λfT s2 h2=>?_))))
 obtain⟨it,fp,tn,J,H2,e,I2,T,iK,f2,ca⟩:=h2
 subst e
 have pD:=I2.pin (D,oD) (List.mem_append_right _ (List.mem_append_right _ (by simp)))
 have lb:D∉fp:=λz=>(f2 D z).2.2.2.2.2 (D,oD) (List.mem_append_right _ (List.mem_append_right _ (by simp))) rfl
 have nR:∀b∈fp,cj Y pins H2 b:=λb hb=>by
  obtain⟨a1,a2,a3,a4,a5,a6⟩:=f2 b hb
  refine⟨a1,a2,a3,a4,a5,λp hp=>a6 p ?_⟩
  rcases List.mem_append.mp hp with z|z
  ·exact List.mem_append_left _ z
  ·exact List.mem_append_right _ (List.mem_append_left _ z)
 have B2:nQ Y D nt caps pins o H2 s2 acc:=⟨I2.ij,B.len,⟨ys,⟨nn,by rw[<- eo];exact pD.1⟩,rv⟩,pD.2.1,B.mi⟩
 have loop:=Cz (e:=.ListComp el gens sc ps) (d:=d) hx hc T iK nR lb hG fY hF (hA it) ds B2 rfl (λ_ A Q' E' s' h=>EV A Q' E' s' h) (ht it) ca
 refine wpAny_bind (wpAny_runOwn ?_)
 refine codeAny_mono (Lu hd loop (T.self _ _ _ _ _ iK loop)) λr s' hr=>?_
 obtain⟨e,q⟩:=hr
 subst e
 exact wpAny_pure ⟨rfl,q⟩
end
noncomputable def EW (wi:TI) (nt:Nat) (cap:List Nat) (g:TG) (tf:TT) (ta:hV):TE:=fun σ H Q=>wi σ H λJ H1=>CA J g tf ta (List.replicate nt none++lL cap σ) [] H1 λ_ acc H2=>∀D,H2 D=none->Q (.ref D) (upd H2 D (.lst acc))
section
variable {X:Cx}
theorem Lw {el tg src:Expr} {tests:List Expr} {rest:List Comprehension} {sc:Scope} {ps:Pos} {N:List Str} {nt:Nat} {cap:List Nat} {wi:TI} {g:TG} {tf:TT} {ta:hV} {act:Env->Addr->Addr->Sem PySem.Fin} (hc:X.calm=true) (S:oz X sc N nt cap) (fY:md g nt) (hi:PI X tg src wi)
  (hY:∀(cl:List (Str×Addr)) (C:Addr) (s:Shared) (H:Hp) (ex:List Addr) (pn:List (Addr×Obj)),PG (fW X N sc cl C s H ex pn) tg g/\PF (fW X N sc cl C s H ex pn) tests tf/\∀D caps it,rH (fW X N sc cl C s H ex pn) D nt caps (.compLoop (.ListComp el (⟨tg,src,tests,0⟩::rest) sc ps) 0 (.ref it) (.ref D) (compEnvC sc cl C X.env)) (act (compEnvC sc cl C X.env) D it) ta)
  (ht:∀(it D:Addr) (ce:Env),compTurn (.ListComp el (⟨tg,src,tests,0⟩::rest) sc ps) 0 (.ref it) (.ref D) ce=(do
   standAt src.pos
   match <- pyNext (.ref it) with
   |none=>pure (.done .next)
   |some v =>
    letOwnedTupleGo tg (.ref it) v
    assign tg ce v
    let mut ok:=true
    for c in tests do
     if ok then ok <- isTrue c ce (eval c ce)
    if ok then act ce D it else again (.compLoop (.ListComp el (⟨tg,src,tests,0⟩::rest) sc ps) 0 (.ref it) (.ref D) ce)))
  (hs:∀x,foldedSetIterable src X.env x=pure x:=by intro _;rfl):PE X (.ListComp el (⟨tg,src,tests,0⟩::rest) sc ps) (EW wi nt cap g tf ta):=by
 intro pins s σ H Q I h
 obtain⟨cl,qU,cD⟩:=yr (env:=X.env) (sc:=sc) λn hn=>I.ok.has n (S.frees _ hn rfl).2
 rw[eval_ListComp]
 refine wpAny_comprehension_free (use:=none) rfl hs qU S.kind S.names (aA (hi pins s σ H _ I h) λxv s1 h1=>aA h1 λfT s2 h2=>?_)
 obtain⟨it,fp,tn,J,H2,e,I2,T,iK,f2,ca⟩:=h2
 subst e
 refine wpAny_newObj_type (wpAny_newFunctionEnv S.yt (by intro y hy;simp at hy) (λh3 fq jn=>?_) S.kind)
 dsimp only at fq jn |-
 generalize hD:s2.heap.objs.size=D at fq jn |-
 generalize hG:s2.heap.push { cls:=.type "list",dict:=none,data:=.seq ([]:List Value).toArray }=G at fq jn |-
 generalize AM:G.objs.size=C at fq jn |-
 have hC:C=D+1:=by rw[<- AM,<- hG,Heap.size_push,hD]
 have nV:D≠C:=by omega
 have eU:s2.heap.objs.size<=D:=Nat.le_of_eq hD
 have fM:s2.heap.objs.size<=C:=by omega
 have old:∀b o,s2.heap.get? b=some o->h3.get? b=some o:=λb o e=>jn.extBut b o (Nat.ne_of_lt (Nat.lt_of_lt_of_le (Heap.lt_size e) fM)) (Heap.get?_push_of_some _ (hG ▸ Heap.get?_push_of_some _ e))
 have jk:h3.PlainList D #[]:=⟨_,jn.extBut _ _ nV (Heap.get?_push_of_some _ (hG ▸ hD ▸ Heap.get?_push_size _ rfl))⟩
 have ic:∀b∈fp,b<s2.heap.objs.size:=λb hb=>by
  obtain⟨o,e,_⟩:=T.obj _ _ iK b hb
  exact Heap.lt_size e
 have IB:=I2.block (t':=s2.toks+([]:List (Str×Value)).length) S cD f2 ic old fM ⟨_,fq⟩
 have AN:D∉fu X.stack:=λz=>by
  rcases List.mem_cons.mp (I2.kB D z) with e|e
  ·exact absurd (Nat.lt_of_lt_of_le I2.lt eU) (by rw[e];exact Nat.lt_irrefl _)
  ·exact I2.rf eU e
 have lb:D∉fp:=λz=>absurd (Nat.lt_of_lt_of_le (ic D z) eU) (Nat.lt_irrefl _)
 have yz:∀x c,cl.lookup x=some c->c≠D:=λx c e z=>by
  obtain⟨v,o,ho,_⟩:=I2.cell x c ((cD x c).mp e).2
  exact absurd (Nat.lt_of_lt_of_le (Heap.lt_size ho) (by rw[z];exact eU)) (Nat.lt_irrefl _)
 have yZ:∀p∈X.pn++pins,p.1≠D:=λp hp z=>absurd (Nat.lt_of_lt_of_le (Heap.lt_size (I2.pin p hp).1) (by rw[z];exact eU)) (Nat.lt_irrefl _)
 have fin:∀(s':Shared) (τ:St) (H':Hp) (acc:List V) (ys:Array Value),Inv (fW X N sc cl C s2 H2 fp (X.pn++pins)) [] τ H' s'->s'.heap.PlainList D ys->Vals acc ys.toList->H' D=none->acc.length<=sizeLine->(∀D,H' D=none->Q (.ref D) (upd H' D (.lst acc))) ->
   compPost (model X.prog X.w) X.A X.xe none (EP X pins σ Q) (.ref D) C (.ok .next) s':=by
  intro s' τ H' acc ys I' pl rv hn hz q
  obtain⟨m,hm,_⟩:=id I'.loc
  refine⟨m,hm,λh' sb=>?_⟩
  have zT:bK X.prog X.w H' h':=I'.au.but I'.free sb
  obtain⟨n,ho⟩:=pl
  have dP:h'.get? D=some { cls:=.type "list",data:=.seq ys n }:=(sb.2 D nV).trans ho
  have new:cb X.prog X.w (upd H' D (.lst acc)) h' D (.lst acc):=⟨hz,ys.toList,n,rv,by simpa using dP⟩
  have u:=(I'.base.but fM sb).adopt (o:=.lst acc) eU hn
  refine⟨.ref D,upd H' D (.lst acc),I2.yO (s':={ s' with heap:=h' }) (ch:=fp) I'.os u (zT.adopt hn new) I'.bare (λb hb=>?_),rfl,q D hn⟩
  obtain⟨_,f1,_,f3,f4,f5⟩:=f2 b hb
  exact⟨f3,f1,f4,f5⟩
 have lg:∀b∈fp,cj (fW X N sc cl C s2 H2 fp (X.pn++pins)) [] H2 b:=λb hb=>by
  obtain⟨f0,f1,nR,f3,f4,f5⟩:=f2 b hb
  refine⟨f0,Nat.ne_of_lt (Nat.lt_of_lt_of_le (ic b hb) fM),λz=>?_,.inl hb,λx c e=>f4 x c ((cD x c).mp e).2,λp sJ=>?_⟩
  ·rcases List.mem_cons.mp (I2.kB b z) with e|e
   ·exact f1 e
   ·exact nR e
  ·exact f5 p (by simpa using sJ)
 obtain⟨AO,AQ,To⟩:=hY cl C s2 H2 fp (X.pn++pins)
 have loop:=Cz (Y:=fW X N sc cl C s2 H2 fp (X.pn++pins)) (D:=D) (nt:=nt) (caps:=lL cap σ) (e:=.ListComp el (⟨tg,src,tests,0⟩::rest) sc ps) (d:=0) (pins:=[]) (o:=List.replicate nt none) (acc:=[]) rfl hc T
  (T.keep _ _ _ iK λb _ o e=>old b o e) lg lb AO fY AQ (To D _ it) ⟨nV,AN,eU,yz,λp hp=>yZ p (by simpa using hp)⟩ ⟨IB,by simp,⟨#[],jk,.nil⟩,I2.au.fresh eU,Nat.zero_le _⟩ rfl (λ_ A Q' E' s' h=>EV A Q' E' s' h) (ht it D _) ca
 have Fz:=codeAny_mono loop (R':=compPost (model X.prog X.w) X.A X.xe none (EP X pins σ Q) (.ref D) C) λr s' hr=>by
  obtain⟨e,o',H',dN,B',q'⟩:=hr
  subst e
  obtain⟨ys,pl,rv⟩:=B'.lst
  exact fin s' _ H' dN ys B'.inv pl rv B'.free B'.mi q'
 exact codeAny_compStart_list Fz (T.self _ _ _ _ _ (T.keep _ _ _ iK λb _ o e=>old b o e) Fz)
end
end L2
namespace DI
open PySem L2
theorem cZ:bootBuiltins "isinstance"=some (.builtin "isinstance"):=by decide +kernel
theorem y7:bootBuiltins "int"=some (.type "int"):=by decide +kernel
theorem qC:bootBuiltins "bool"=some (.type "bool"):=by decide +kernel
theorem dM:bootBuiltins "tuple"=some (.type "tuple"):=by decide +kernel
theorem uZ:bootBuiltins "list"=some (.type "list"):=by decide +kernel
theorem Qr:bootBuiltins "set"=some (.type "set"):=by decide +kernel
theorem lQ:bootBuiltins "all"=some (.builtin "all"):=by decide +kernel
theorem Qs:bootBuiltins "any"=some (.builtin "any"):=by decide +kernel
theorem cT:bootBuiltins "len"=some (.builtin "len"):=by decide +kernel
theorem EX:bootBuiltins "repr"=some (.builtin "repr"):=by decide +kernel
theorem FA:bootBuiltins "max"=some (.builtin "max"):=by decide +kernel
theorem Qt:bootBuiltins "min"=some (.builtin "min"):=by decide +kernel
theorem xF:bootBuiltins "sorted"=some (.builtin "sorted"):=by decide +kernel
structure Gd (K:Frag) (mg:Str->Option Value) (x:Str) (st:Stmt) (ps:List Str) (f:Addr) (fd:FuncData):Prop where
 mg:mg x=some (.ref f)
 fn:nF K x x st f fd
 b:Binds K fd ps []
theorem FC {P:Program} {w:World} {K:Frag} {mg:Str->Option Value} {base:Heap} {k:Nat} {f:Addr} {fd:FuncData} {ps:List Str} {g:List D->aa->Res D} (h:∀ds s,g ds s=none):bg P w K mg base bB k f fd ps (bL K g) :=
 ⟨λvs H Q E h'=>by obtain⟨w,ds,_,_,_,q⟩:=h';rw[h] at q;exact q.elim,λA outer s H args us vs Q E _ _ _ _ h'=>by obtain⟨w,ds,_,_,_,q⟩:=h';rw[h] at q;exact q.elim⟩
noncomputable def vq (K:Frag):Sp:=λvs H Q _=>∃(a:Addr) (ns:List Int),vs=[.ref a]/\bx K H a (ns.map V.int)/\ns.length<=63/\∀H',Q (.bl true) H'
theorem OJ {P:Program} {w:World} {K:Frag} {mg:Str->Option Value} {base:Heap} {k:Nat} {f:Addr} {fd:FuncData} {x:Str} {g:List D->aa->Res D} (F:bg P w K mg base bB k f fd [x] (bL K g))
  (h:∀ns:List Int,ns.length<=63->∃s,g [.bS ns] []=some (.ok (.bl true),s)):bg P w K mg base bB k f fd [x] (vq K):=F.imp λvs H Q E ⟨a,ns,e,hS,hl,q⟩=>by
 subst e
 obtain⟨s,hs⟩:=h ns hl
 have nz:∀b,¬ (⟨[],[],H⟩:Wd).Z b:=λb ⟨k,c,e1,_,_⟩=>by simp at e1
 refine⟨⟨[],[],H⟩,[.bS ns],rfl,⟨rfl,List.nodup_nil,λk a e=>by simp at e,λk a c e=>by simp at e⟩,ao.one ⟨a,rfl,?_⟩,?_⟩
 ·rcases hS with hS|hS
  ·exact .inl ⟨nz a,hS⟩
  ·exact .inr hS
 ·show Out K dw _ (g [.bS ns] []) _
  rw[hs]
  intro w' _ _ _ v dv
  have e:v=.bl true:=dv
  subst e
  exact q _
end DI
namespace DI
open PySem L2
noncomputable def iH (g:D->Env->Option Env) (t:Env->aa->Res Bool) (act:Env->aa->Res (List D)) (lR:Env):List D->aa->Res (List D)
 | [],s=>ok [] s
 |d::ds,s=>match g d lR with
  |none=>none
  |some env=>ak (ne (t env s)) λb s=>if b=true then ak (ne (act env s)) λxs s=>ak (iH g t act lR ds s) λys s=>ok (xs++ys) s
   else iH g t act lR ds s
noncomputable def emit (f:Env->aa->Res D):Env->aa->Res (List D):=λenv s=>ak (f env s) λx s=>ok [x] s
noncomputable def more (it:Env->aa->Res (List D)) (g:D->Env->Option Env) (t:Env->aa->Res Bool) (act:Env->aa->Res (List D)):Env->aa->Res (List D):=λenv s=>ak (it env s) λds s=>iH g t act env ds s
noncomputable def u0 (nt:Nat) (cap:List Nat) (it:Env->aa->Res (List D)) (g:D->Env->Option Env) (t:Env->aa->Res Bool) (act:Env->aa->Res (List D)):Env->aa->Res D:=λenv s =>
 ak (it env s) λds s=>ak (ne (iH g t act (List.replicate nt none++iA cap env) ds s)) λxs s=>iY xs (ok (.lst xs) s)
def Sl (g:D->Env->Option Env) (sl:List Nat):Prop:=∀d env az,g d env=some az->az.length=env.length/\∀i,i∉sl->az[i]?=env[i]?
theorem D9 (i:Nat):Sl (gN i) [i]:=λd env az h=>by
 have e:env.set i (some d)=az:=Option.some.inj h
 subst e
 refine⟨List.length_set ..,λj hj=>?_⟩
 rw[List.getElem?_set_ne (λz=>hj (by simp[z]))]
theorem FD:∀(is:List Nat) (ds:List D) (env az:Env),fk (is.map gN) ds env=some az->az.length=env.length/\∀i,i∉is->az[i]?=env[i]?
 | [],[],env,az,h=>by
  have e:env=az:=Option.some.inj h
  rw[e]
  exact⟨rfl,λ_ _=>rfl⟩
 | [],_::_,_,_,h=>by cases h
 |_::_,[],_,_,h=>by cases h
 |j::is,d::ds,env,az,h=>by
  have h':fk (is.map gN) ds (env.set j (some d))=some az:=h
  obtain⟨h1,h2⟩:=FD is ds _ az h'
  refine⟨by rw[h1,List.length_set],λi hi=>?_⟩
  rw[h2 i (λz=>hi (List.mem_cons_of_mem _ z)),List.getElem?_set_ne (λz=>hi (by rw[z];exact List.mem_cons_self ..))]
theorem Ez (is:List Nat):Sl (gT (is.map gN)) is:=λd env az h=>by
 cases d with
 |tup ds=>exact FD is ds env az h
 |_=>cases h
theorem len_same {g:D->Env->Option Env} {sl:List Nat} {d:D} {env az:Env} (hs:Sl g sl) (hg:g d env=some az):az.length=env.length:=(hs d env az hg).1
def kc (sl:List Nat) (env:Env):Prop:=∀i∈sl,∀d,env[i]?≠some (some d)
theorem bJ.back {K:Frag} {w:Wd} {env az:Env} {σ:St} {g:D->Env->Option Env} {sl:List Nat} {d:D} (hs:Sl g sl) (hf:kc sl env) (hg:g d env=some az) (hl:env.length=σ.length) (h:bJ K w az σ):bJ K w env σ :=
 ⟨hl,λi x e=>by
  by_cases hi:i∈sl
  ·exact absurd e (hf i hi x)
  ·exact h.val i x (by rw[(hs d env az hg).2 i hi];exact e)⟩
def qV (K:Frag) (Pre:Env->Prop) (ta:hV) (act:Env->aa->Res (List D)):Prop:=∀(w:Wd) (env:Env) (τ:St) (acc:List V) (accD xs:List D) (s':aa) (Q:St->List V->Hp->Prop),Pre env->aH K w->bJ K w env τ->ao K w accD acc ->
 act env w.aC=some (.ok xs,s')->acc.length+xs.length<=sizeLine->(∀w' cw vs,Le K w w'->aH K w'->w'.aC=s'->bJ K w' env cw->ao K w' (accD++xs) vs->Q cw vs w'.H)->ta τ w.H acc Q
theorem oo {α β:Type} {r:Res α} {k:α->aa->Res β} {b:β} {s':aa} (h:ak r k=some (.ok b,s')):∃a s,r=some (.ok a,s)/\k a s=some (.ok b,s'):=by
 match r,h with
 |some (.ok a,s),h=>exact⟨a,s,rfl,h⟩
theorem yd {α:Type} {r:Res α} {a:α} {s:aa} (h:ne r=some (.ok a,s)):r=some (.ok a,s):=by
 match r,h with
 |some (.ok b,s2),h=>exact h
theorem IC {K:Frag} {f:Env->aa->Res D}:qV K (λ_=>True) (Fx (tE K dw f)) (emit f):=by
 intro w env τ acc accD xs s' Q _ S eo da h hl hQ
 obtain⟨x,s1,h1,h2⟩:=oo h
 cases h2
 refine⟨by simpa using hl,w,env,rfl,S,eo,?_⟩
 rw[h1]
 intro w' le S' e' v dv
 exact hQ w' τ (acc++[v]) le S' e' (eo.le le) (ao.append (le.all da) (ao.one dv))
theorem C4 {K:Frag} {Pre:Env->Prop} {g0:TG} {g:D->Env->Option Env} {nt:Nat} {sl:List Nat} {t:Env->aa->Res Bool} {act:Env->aa->Res (List D)} {ta:hV} {env:Env} {w1:Wd} {J:It} {ds xs accD:List D} {s':aa} {τ:St} {acc:List V} {Q:St->List V->Hp->Prop}
  (T:Tg K g0 g nt) (hs:Sl g sl) (hf:kc sl env) (hp:∀d az,g d env=some az->Pre az) (hA:qV K Pre ta act) (hJ:nN K w1 J ds) (S1:aH K w1) (eo:bJ K w1 env τ) (da:ao K w1 accD acc)
  (h:iH g t act env ds w1.aC=some (.ok xs,s')) (hl:acc.length+xs.length<=sizeLine) (hQ:∀w' cw vs,Le K w1 w'->aH K w'->w'.aC=s'->bJ K w' env cw->ao K w' (accD++xs) vs->Q cw vs w'.H) :
  CA J g0 (tT K dw t) ta τ acc w1.H Q:=by
 refine⟨λi m τ acc H'=>m=ds.length-i/\i<=ds.length/\∃w' accD xs,w'.H=H'/\Le K w1 w'/\aH K w'/\bJ K w' env τ/\ao K w' accD acc/\iH g t act env (ds.drop i) w'.aC=some (.ok xs,s')/\acc.length+xs.length<=sizeLine /\
   (∀w2 cw vs,Le K w' w2->aH K w2->w2.aC=s'->bJ K w2 env cw->ao K w2 (accD++xs) vs->Q cw vs w2.H),
  ⟨ds.length,rfl,Nat.zero_le _,w1,accD,xs,rfl,Le.refl _,S1,eo,da,h,hl,hQ⟩,?_⟩
 rintro i m τ acc H' ⟨rfl,hi,w',accD,xs,rfl,l',S',fx,wK,h',AR,pF⟩
 by_cases aU:i<ds.length
 ·right
  obtain⟨fY,hy⟩:=(hJ w' l' S' i).1 _ (List.getElem?_eq_getElem aU)
  rw[List.drop_eq_getElem_cons aU] at h'
  simp only[iH] at h'
  cases hg:g ds[i] env with
  |none=>rw[hg] at h';cases h'
  |some iD =>
   rw[hg] at h'
   obtain⟨b,s2,hb,h2⟩:=oo h'
   have hb:=yd hb
   refine⟨fY,fun τ acc H2=>∃w' accD xs,w'.H=H2/\Le K w1 w'/\aH K w'/\bJ K w' env τ/\ao K w' accD acc/\iH g t act env (ds.drop (i+1)) w'.aC=some (.ok xs,s')/\acc.length+xs.length<=sizeLine /\
    (∀w2 cw vs,Le K w' w2->aH K w2->w2.aC=s'->bJ K w2 env cw->ao K w2 (accD++xs) vs->Q cw vs w2.H),fun nG vJ H2 q=>⟨ds.length-(i+1),by omega,rfl,aU,q⟩,λx H3 y=>?_⟩
   obtain⟨w2,rfl,l2,S2,es,dv⟩:=hy x H3 y
   refine T.imp _ _ _ _ ⟨w2,env,ds[i],iD,rfl,S2,fx.le l2,dv,hg,fun iJ ka=>⟨w2,iD,rfl,S2,ka,?_⟩⟩
   have hlen:∀{ee:St},ee.length=iJ.length->iD.length=ee.length:=λe=>by rw[ka.len,e]
   have el:env.length=iD.length\/True:=.inr trivial
   rw[es,hb]
   intro w3 l3 S3 e3
   cases b with
   |true =>
    rw[if_pos rfl] at h2 |-
    obtain⟨ys,s3,ke,h3⟩:=oo h2
    have ke:=yd ke
    obtain⟨zs,s4,hz,h4⟩:=oo h3
    cases h4
    rw[<- e3] at ke
    refine hA w3 iD iJ acc accD ys s3 _ (hp _ _ hg) S3 (ka.le l3) ((l2.trans l3).all wK) ke (by rw[List.length_append] at AR;omega) λw4 Vy vs l4 S4 e4 GV Ge=>?_
    have lv:=Ge.length
    refine⟨w4,accD++ys,zs,rfl,l'.trans (l2.trans (l3.trans l4)),S4,GV.back hs hf hg ?_,Ge,by rw[e4];exact hz,?_,λw5 AS AU l5 S5 e5 AV zU=>pF w5 AS AU (l2.trans (l3.trans (l4.trans l5))) S5 e5 AV (by rw[<- List.append_assoc];exact zU)⟩
    ·rw[<- GV.len]
     exact(len_same hs hg).symm
    ·rw[List.length_append] at AR lv
     have:=wK.length
     omega
   |false =>
    rw[if_neg Bool.false_ne_true] at h2 |-
    exact⟨w3,accD,xs,rfl,l'.trans (l2.trans l3),S3,(ka.le l3).back hs hf hg (by rw[<- ka.len];exact(len_same hs hg).symm),(l2.trans l3).all wK,by rw[e3];exact h2,AR,λw5 AS AU l5 S5 e5 AV zU=>pF w5 AS AU (l2.trans (l3.trans l5)) S5 e5 AV zU⟩
 ·left
  have e:i=ds.length:=by omega
  subst e
  rw[List.drop_length] at h'
  cases h'
  exact⟨(hJ w' l' S' _).2 (Nat.le_refl _),pF w' τ acc (Le.refl _) S' rfl fx (by rw[List.append_nil];exact wK)⟩
theorem ID {K:Frag} {Pre zV:Env->Prop} {g0:TG} {g:D->Env->Option Env} {nt:Nat} {sl:List Nat} {it:Env->aa->Res (List D)} {t:Env->aa->Res Bool} {act:Env->aa->Res (List D)} {ta:hV} (T:Tg K g0 g nt) (hs:Sl g sl) (hA:qV K Pre ta act)
  (h1:∀env,zV env->kc sl env) (h2:∀d env az,zV env->g d env=some az->Pre az):qV K zV (Fy (gC K dw it) g0 (tT K dw t) ta) (more it g t act):=by
 intro w env τ acc accD xs s' Q hp S eo da h hl hQ
 obtain⟨ds,s1,hd,h3⟩:=oo h
 refine⟨w,env,rfl,S,eo,?_⟩
 rw[hd]
 intro w1 l1 S1 e1 J hJ
 exact C4 T hs (h1 env hp) (λd az hg=>h2 d env az hp hg) hA hJ S1 (eo.le l1) (l1.all da) (by rw[e1];exact h3) hl λw' cw vs l' S' e' fx aq=>hQ w' cw vs (l1.trans l') S' e' fx aq
theorem J7 {K:Frag} {Ξ:Wd->bD->Prop} {Pre:Env->Prop} {nt:Nat} {cap:List Nat} {it:Env->aa->Res (List D)} {g0:TG} {g:D->Env->Option Env} {sl:List Nat} {t:Env->aa->Res Bool} {act:Env->aa->Res (List D)} {ta:hV} (T:Tg K g0 g nt) (hs:Sl g sl) (sA:∀i∈sl,i<nt) (hA:qV K Pre ta act)
  (hp:∀d caps az,g d (List.replicate nt none++caps)=some az->Pre az) (σ:St) (H:Hp) (Q:VK) :
  tE K Ξ (u0 nt cap it g t act) σ H Q->EW (gC K Ξ it) nt cap g0 (tT K dw t) ta σ H Q:=by
 rintro ⟨w,env,rfl,S,eo,h⟩
 refine⟨w,env,rfl,S,eo,(Out.ak h).mono λw1 ds l1 S1 h1 J hJ=>?_⟩
 cases hr:iH g t act (List.replicate nt none++iA cap env) ds w1.aC with
 |none=>rw[hr] at h1;exact h1.elim
 |some r =>
  obtain⟨r,s'⟩:=r
  rw[hr] at h1
  cases r with
  |error x=>exact h1.elim
  |ok xs =>
   have h1:Out K Ξ w1 (iY xs (ok (D.lst xs) s')) (λw' d=>∀v,DV K w' d v->Q v w'.H):=h1
   obtain⟨hz,h1⟩:=qj h1
   have eb:=(eo.le l1).block nt cap (List.replicate nt none) (by simp)
   refine C4 T hs (λi hi d e=>?_) (λd az hg=>hp d _ az hg) hA hJ S1 eb (accD:=[]) rfl hr (by simpa using hz) λw' cw vs l' S' e' fx aq p wL=>?_
   ·rw[List.getElem?_append_left (by simpa using sA i hi),List.getElem?_replicate,if_pos (sA i hi)] at e
    cases e
   ·exact h1 (w'.grow p (.lst vs)) (l'.trans (Fw.grow wL).le) (S'.grow wL) e' (.ref p) ⟨p,vs,rfl,⟨(show ¬ w'.Z p from lH S' wL),ck⟩,(Fw.grow wL).le.all aq⟩
theorem kc.of {nt:Nat} {g:D->Env->Option Env} {sl cX:List Nat} (hs:Sl g sl) (hd:∀i∈cX,i<nt/\i∉sl) {d:D} {caps az:Env} (hg:g d (List.replicate nt none++caps)=some az):kc cX az:=λi hi x e=>by
 obtain⟨h1,h2⟩:=hd i hi
 rw[(hs _ _ _ hg).2 i h2,List.getElem?_append_left (by simpa using h1),List.getElem?_replicate,if_pos h1] at e
 cases e
theorem kc.on {g:D->Env->Option Env} {sl cX:List Nat} (hs:Sl g sl) (hd:∀i∈cX,i∉sl) {d:D} {env az:Env} (hf:kc cX env) (hg:g d env=some az):kc cX az:=λi hi x e=>by
 rw[(hs _ _ _ hg).2 i (hd i hi)] at e
 exact hf i hi x e
section
variable {X:Cx} {Ξ:Wd->bD->Prop} {el tg src sO pf Vz Ve:Expr} {tests u4 U9:List Expr} {sc:Scope} {ps pos:Pos} {N:List Str} {nt:Nat} {cap:List Nat} {it mf VA:Env->aa->Res (List D)} {gd AW VB:D->Env->Option Env} {g0 GW VD:TG} {sl cX VE:List Nat} {ft kZ VF:Env->aa->Res Bool} {f:Env->aa->Res D}
noncomputable abbrev yA (nt:Nat) (cap:List Nat) (it:Env->aa->Res (List D)) (g:D->Env->Option Env) (t:Env->aa->Res Bool) (mf:Env->aa->Res (List D)) (g2:D->Env->Option Env) (t2:Env->aa->Res Bool) (f:Env->aa->Res D):Env->aa->Res D:=u0 nt cap it g t (more mf g2 t2 (emit f))
noncomputable def apart (nt:Nat) (sl cX:List Nat):Bool:=cX.all (λi=>decide (i<nt)&&!sl.contains i)
theorem Dr {nt:Nat} {sl cX:List Nat} (h:apart nt sl cX=true):∀i∈cX,i<nt/\i∉sl:=λi hi=>by
 have:=List.all_eq_true.mp h i hi
 simp only[Bool.and_eq_true,decide_eq_true_eq,Bool.not_eq_true',List.contains_eq_mem,decide_eq_false_iff_not] at this
 exact this
noncomputable abbrev RW (e el:Expr) (d:Nat):PySem.Env->Addr->Addr->Sem PySem.Fin:=λce D it=>(do let _ <- call (.builtin "list.append") [.ref D,<- eval el ce]:Sem Unit) >>= λ_=>again (.compLoop e d (.ref it) (.ref D) ce)
noncomputable abbrev RX (e src:Expr) (d:Nat):PySem.Env->Addr->Addr->Sem PySem.Fin:=λce D it=>do
 let x <- eval src ce
 standAt src.pos
 let x <- foldedSetIterable src ce x
 let _ <- runOwn (.compStart e (d+1) (<- holding [x] (pyIter x)) (.ref D) ce) ce
 again (.compLoop e d (.ref it) (.ref D) ce)
theorem MS (hc:X.calm=true) (S:oz X sc N nt cap) (T:Tg X.K g0 gd nt) (ml:Sl gd sl) (T2:Tg X.K GW AW nt) (kX:Sl AW cX) (hi:PI X tg src (gC X.K Ξ it))
  (hY:∀(cl:List (Str×Addr)) (C:Addr) (s:Shared) (H:Hp) (ex:List Addr) (pn:List (Addr×Obj)),PG (fW X N sc cl C s H ex pn) tg g0/\PF (fW X N sc cl C s H ex pn) tests (tT X.K dw ft)/\PI (fW X N sc cl C s H ex pn) sO pf (gC X.K dw mf)/\PG (fW X N sc cl C s H ex pn) sO GW/\PF (fW X N sc cl C s H ex pn) u4 (tT X.K dw kZ)/\PE (fW X N sc cl C s H ex pn) el (tE X.K dw f))
  (pH:apart nt sl cX=true:=by rfl) (pJ:apart nt [] sl=true:=by rfl)
  (hs:∀x,foldedSetIterable src X.env x=pure x:=by intro _;rfl) (Tp:∀ce x,foldedSetIterable pf ce x=pure x:=by intro _ _;rfl):PE X (.ListComp el [⟨tg,src,tests,0⟩,⟨sO,pf,u4,0⟩] sc ps) (tE X.K Ξ (yA nt cap it gd ft mf AW kZ f)) :=
 b9 (Lw (act:=RX (.ListComp el [⟨tg,src,tests,0⟩,⟨sO,pf,u4,0⟩] sc ps) pf 0) hc S T.pQ hi (λcl C s H ex pn=>by
   obtain⟨y1,y2,y3,y4,y5,y6⟩:=hY cl C s H ex pn
   exact⟨y1,y2,λD caps it=>Lv (d:=1) (act:=λsN=>RW (.ListComp el [⟨tg,src,tests,0⟩,⟨sO,pf,u4,0⟩] sc ps) el 1 _ D sN) rfl hc rfl y3 y4 T2.pQ y5 (λsN=>Ls rfl y6) (λ_=>rfl) (Tp _)⟩) (λ_ _ _=>rfl) hs)
  (J7 (Pre:=kc cX) T ml (λi hi=>(Dr pJ i hi).1) (ID T2 kX IC (λ_ h=>h) (λ_ _ _ _ _=>trivial)) λd caps az hg=>kc.of ml (Dr pH) hg)
end
end DI
namespace L2
open PySem PySem.Spec PyProof.Rows
noncomputable abbrev Cx.cA (X:Cx):Cx:={ X with A:=X.A.in1,xe:=λ_ _=>False }
theorem Inv.cA {X:Cx} {pins:List (Addr×Obj)} {σ:St} {H:Hp} {s:Shared} (I:Inv X pins σ H s):Inv X.cA pins σ H s :=
 ⟨⟨I.ok.mod,I.ok.kind,I.ok.glob,I.ok.blt,I.ok.above,I.ok.inj,I.ok.has,I.ok.nB,I.ok.hd,I.ok.frames,I.ok.pw,I.ok.v8,I.ok.bs,I.ok.hZ,I.ok.kL,I.ok.oV,I.ok.gW,I.ok.l6⟩,I.os,I.bare,I.base,I.loc,I.cell,I.free,I.gM,I.pin,I.au,I.len⟩
theorem Inv.Gf {X:Cx} {pins:List (Addr×Obj)} {σ:St} {H:Hp} {s:Shared} (I:Inv X.cA pins σ H s):Inv X pins σ H s :=
 ⟨⟨I.ok.mod,I.ok.kind,I.ok.glob,I.ok.blt,I.ok.above,I.ok.inj,I.ok.has,I.ok.nB,I.ok.hd,I.ok.frames,I.ok.pw,I.ok.v8,I.ok.bs,I.ok.hZ,I.ok.kL,I.ok.oV,I.ok.gW,I.ok.l6⟩,I.os,I.bare,I.base,I.loc,I.cell,I.free,I.gM,I.pin,I.au,I.len⟩
def zW (X:Cx) (kv:Value) (rk:V->Hp->VK->Prop):Prop :=
 ∀(pins:List (Addr×Obj)) (s:Shared) (σ:St) (H:Hp) (x:V) (v:Value) (Q:VK),Inv X pins σ H s->RelV x v->rk x H Q->wpAny (model X.prog X.w) X.A (call kv [v]) (EP X pins σ Q) X.xe s
noncomputable def sP (K:Frag) (l:Addr) (all:List V) (rk:V->Hp->VK->Prop) (rc:R2):List V->V->V->Hp->VK->Prop
 | [],vb,_,H,Q=>bx K H l all/\Q vb H
 |x::xs,vb,kb,H,Q=>bx K H l all/\rk x H λk H1=>rc k kb H1 λz H2=>∃b,z=.bl b/\if b=true then sP K l all rk rc xs x k H2 Q else sP K l all rk rc xs vb kb H2 Q
def zX (K:Frag) (l:Addr) (all:List V) (rk:V->Hp->VK->Prop) (rc:R2) (dv:V) (H:Hp) (Q:VK):Prop:=bx K H l all/\match all with
 | []=>Q dv H
 |x::xs=>rk x H λk H1=>sP K l all rk rc xs x k H1 Q
def yB (X:Cx) (pins:List (Addr×Obj)) (σ:St) (Q:VK) (r:Result) (s':Shared):Prop:=match r with
 | .ok (.ret v)=>EP X pins σ Q v s'
 | .ok _=>False
 | .error e=>X.xe e s'
theorem J8 {X:Cx} {l I S:Addr} {jy:String} {kw:List (Str×Value)} {all:List V} {pins:List (Addr×Obj)} {σ:St} {rk:V->Hp->VK->Prop} {rc:R2} {Q:VK} (hc:X.calm=true) (kg:l≠I) (ie:S≠I) (sQ:S≠l) (hK:zW X.cA (.builtin jy) rk) (hC:aW X.cA (compareOp .Gt) rc) :
  ∀(rest:List V) (j:Nat) (s:Shared) (H:Hp) (vb kb:V) (ub uk:Value) (c:Nat),all.drop j=rest->j<=all.length->Inv X.cA pins σ H s->cj X pins H S->cj X pins H I->s.heap.get? S=some { cls:=.type "list",dict:=none,data:=.seq #[ub,uk] c,slots:=#[] }->s.heap.IsListIter I l j->RelV vb ub->RelV kb uk ->
   sP X.K l all rk rc rest vb kb H Q->codeAny (model X.prog X.w) X.A (.builtin "max.loop" ⟨[.ref I,.builtin jy,.ref S],kw⟩) (yB X pins σ Q) s:=by
 have qW:(toString "max"++toString ".loop":String)="max.loop":=by decide
 intro rest
 induction rest with
 |nil =>
  intro j s H vb kb ub uk c hd sR I0 fS fI gS hit rb VG h
  obtain⟨hq,h⟩:=h
  have hj:j=all.length:=Nat.le_antisymm sR (by simpa using hd)
  subst hj
  obtain⟨its,rv,pl,hz⟩:=I0.list hq
  have hh:X.A.in1.handled=none:=I0.ok.hd hc
  have W:=Walks.list (prog:=X.prog) (w:=X.w) (A:=X.A.in1) hh I l kg its.toArray
  have hsz:its.toArray.size=all.length:=by rw[List.size_toArray];exact rv.length.symm
  refine codeAny_builtin PySem.F.entry_max_loop ?_
  rw[Around.under_plainId PySem.F.plain_max_loop _]
  show wpAny _ X.A.in1 (seqItems? (.ref S) >>= _) _ _ _
  refine wpAny_bind (wpAny_seqItems gS rfl ?_)
  show wpAny _ X.A.in1 (tryCatch (pyNext (.ref I)) _ >>= _) _ _ _
  refine wpAny_bind (wpAny_tryCatch (W.done _ _ _ ⟨by rw[hsz];exact hit,pl.isList⟩ λh' jz dD=>?_))
  have nW:=dD S _ (by simpa using ie) gS
  have I1:Inv X.cA pins σ H { s with heap:=h',toks:=jz }:=I0.turned (it:=I) (λb o hb e=>dD b o (by simpa using hb) e) fI.1 fI.2.1 fI.2.2.2.1 fI.2.2.2.2.1 fI.2.2.2.2.2
  show wpAny _ X.A.in1 (updateSeq S (λ_=>#[]) >>= _) _ _ _
  refine wpAny_bind ?_
  refine wpAny_updateSeq nW rfl (wpAny_bind (wpAny_letGo (wpAny_pure ?_)))
  have I2:=I1.turned (h':=h'.update S (Obj.mapSeq λ_=>(#[]:Array Value))) (t':=jz) (it:=S) (λb o hb e=>(Heap.get?_update_other _ _ (Ne.symm hb)).trans e) fS.1 fS.2.1 fS.2.2.2.1 fS.2.2.2.2.1 fS.2.2.2.2.2
  exact⟨vb,H,I2.Gf,rb,h⟩
 |cons x rest ih =>
  intro j s H vb kb ub uk c hd sR I0 fS fI gS hit rb GX h
  obtain⟨hq,h⟩:=h
  have hx:all[j]?=some x:=by
   have:=congrArg (λl=>l[0]?) hd
   simpa using this
  have cH:all.drop (j+1)=rest:=by
   have:=congrArg (List.drop 1) hd
   simpa [List.drop_drop] using this
  obtain⟨its,rv,pl,hz⟩:=I0.list hq
  have hh:X.A.in1.handled=none:=I0.ok.hd hc
  have W:=Walks.list (prog:=X.prog) (w:=X.w) (A:=X.A.in1) hh I l kg its.toArray
  have hsz:its.toArray.size=all.length:=by rw[List.size_toArray];exact rv.length.symm
  refine codeAny_builtin PySem.F.entry_max_loop ?_
  rw[Around.under_plainId PySem.F.plain_max_loop _]
  show wpAny _ X.A.in1 (seqItems? (.ref S) >>= _) _ _ _
  refine wpAny_bind (wpAny_seqItems gS rfl ?_)
  show wpAny _ X.A.in1 (tryCatch (pyNext (.ref I)) _ >>= _) _ _ _
  refine wpAny_bind (wpAny_tryCatch (W.item j _ _ _ (by rw[hsz];exact(List.getElem?_eq_some_iff.mp hx).1) ⟨hit,pl.isList⟩ λv h' jz hP rL dD=>?_))
  obtain⟨v',me,rx⟩:=rv.get hx
  have ev:v'=v:=by
   have:its.toArray[j]?=some v:=hP
   rw[List.getElem?_toArray,me] at this
   exact Option.some.inj this
  subst ev
  have nW:=dD S _ (by simpa using ie) gS
  have I1:Inv X.cA pins σ H { s with heap:=h',toks:=jz }:=I0.turned (it:=I) (λb o hb e=>dD b o (by simpa using hb) e) fI.1 fI.2.1 fI.2.2.2.1 fI.2.2.2.2.1 fI.2.2.2.2.2
  obtain⟨oI,sS,kU,lh⟩:=id rL.1
  have nS:∀v,({ cls:=.type "list",dict:=none,data:=.seq #[ub,uk] c,slots:=#[] }:Obj).data≠.cell v:=λv z=>by cases z
  have nI:∀v,oI.data≠.cell v:=λv z=>by rw[lh] at z;cases z
  have I2:=I1.jG (pins':=pins++[(S,{ cls:=.type "list",dict:=none,data:=.seq #[ub,uk] c,slots:=#[] }),(I,oI)]) λp hp=>by
   rcases List.mem_append.mp hp with z|z
   ·exact I1.pin p (List.mem_append_right _ z)
   ·rcases List.mem_cons.mp z with rfl|z
    ·exact⟨nW,fS.1,fS.2.1,fS.2.2.1,nS⟩
    ·rw[List.mem_singleton.mp z]
     exact⟨sS,fI.1,fI.2.1,fI.2.2.1,nI⟩
  show wpAny _ X.A.in1 (tryCatch (holding [v'] (call (.builtin jy) [v'])) _ >>= _) _ _ _
  refine wpAny_bind (wpAny_tryCatch (wpAny_holding (wpAny_mono (hK _ _ σ H x v' _ I2 rx h) (λuv s2 ef=>?_) λ_ _ z=>z.elim)))
  obtain⟨k,H2,I3,wM,h⟩:=ef
  show wpAny _ X.A.in1 (tryCatch (holding [v',uv] (richCompare .Gt uv uk >>= _)) _ >>= _) _ _ _
  refine wpAny_bind (wpAny_tryCatch (wpAny_holding (wpAny_bind (wpAny_mono (hC _ s2 σ H2 k kb uv uk _ I3 wM GX h) (λz s3 AX=>?_) λ_ _ z=>z.elim))))
  obtain⟨zv,H3,I4,rz,b,eb,h⟩:=AX
  subst eb
  cases rz
  refine wpAny_bind (wpAny_holding (wpAny_truthy_bool ?_))
  refine wpAny_bind (wpAny_letGo (wpAny_pure ?_))
  have pS:=I4.pin (S,{ cls:=.type "list",dict:=none,data:=.seq #[ub,uk] c,slots:=#[] }) (List.mem_append_right _ (List.mem_append_right _ (by simp)))
  have pI:=I4.pin (I,oI) (List.mem_append_right _ (List.mem_append_right _ (by simp)))
  have I5:Inv X.cA pins σ H3 s3:=I4.ij
  have dE:cj X pins H3 S:=⟨pS.2.1,fS.2⟩
  have pU:cj X pins H3 I:=⟨pI.2.1,fI.2⟩
  cases b with
  |true =>
   rw[if_pos rfl] at h
   rw[if_pos rfl]
   refine wpAny_bind ?_
   refine wpAny_updateSeq pS.1 rfl (wpAny_bind (wpAny_letGo ?_))
   rw[qW]
   obtain⟨c2,iN⟩:∃c2,(s3.heap.update S (Obj.mapSeq λ_=>#[v',uv])).get? S=some { cls:=.type "list",dict:=none,data:=.seq #[v',uv] c2,slots:=#[] }:=⟨_,Heap.get?_update_self _ pS.1 rfl⟩
   have I6:Inv X.cA pins σ H3 { s3 with heap:=s3.heap.update S (Obj.mapSeq λ_=>#[v',uv]),toks:=s3.toks }:=I5.turned (t':=s3.toks) (it:=S) (λb o hb e=>(Heap.get?_update_other _ _ (Ne.symm hb)).trans e) dE.1 dE.2.1 dE.2.2.2.1 dE.2.2.2.2.1 dE.2.2.2.2.2
   exact wpAny_pure ⟨plainId_quiet PySem.F.plain_max_loop _,ih (j+1) _ H3 x k v' uv c2 cH (List.getElem?_eq_some_iff.mp hx).1 I6 dE pU iN ⟨oI,(Heap.get?_update_other _ _ ie).trans pI.1,kU,lh⟩ rx wM h⟩
  |false =>
   rw[if_neg Bool.false_ne_true] at h
   rw[if_neg Bool.false_ne_true]
   refine wpAny_bind (wpAny_letGo ?_)
   rw[qW]
   exact wpAny_pure ⟨plainId_quiet PySem.F.plain_max_loop _,ih (j+1) _ H3 vb kb ub uk c cH (List.getElem?_eq_some_iff.mp hx).1 I5 dE pU pS.1 ⟨oI,pI.1,kU,lh⟩ rb GX h⟩
theorem Jo (a v:Value):argsOk "max" ⟨[a],[(Str.ofString "key",v)]⟩:=by unfold argsOk;kernel_rfl
theorem J9 {X:Cx} {l:Addr} {jy:String} {all:List V} {pins:List (Addr×Obj)} {σ:St} {H:Hp} {s:Shared} {rk:V->Hp->VK->Prop} {rc:R2} {Q:VK} (hc:X.calm=true) (hK:zW X.cA (.builtin jy) rk) (hC:aW X.cA (compareOp .Gt) rc)
  (I0:Inv X pins σ H s) (bz:all≠[]) (h:zX X.K l all rk rc .ay H Q):wpAny (model X.prog X.w) X.A (call (.builtin "max") [.ref l] [(Str.ofString "key",.builtin jy)]) (EP X pins σ Q) X.xe s:=by
 have qW:(toString "max"++toString ".loop":String)="max.loop":=by decide
 obtain⟨hq,h⟩:=h
 obtain⟨its,rv,pl,hz⟩:=I0.list hq
 have sT:l<s.heap.objs.size:=by obtain⟨o,n,ho,_⟩:=pl;exact Heap.lt_size ho
 have hh:X.A.in1.handled=none:=I0.cA.ok.hd hc
 refine kmk_tree PySem.F.kind_max PySem.F.plain_max PySem.F.entry_max (Jo _ _) ?_
 show wpAny _ X.A.in1 (Builtin.Builtins.bindParams "max" ["key","default"] 0 ⟨[],[(Str.ofString "key",.builtin jy)]⟩ >>= _) _ _ s
 refine wpAny_bind (wpAny_of_eq (show Builtin.Builtins.bindParams "max" ["key","default"] 0 ⟨[],[(Str.ofString "key",.builtin jy)]⟩=pure [some (.builtin jy),none] from rfl) ?_)
 refine wpAny_bind (wpAny_pure ?_)
 refine wpAny_bind (wpAny_pyIter_list pl.isList ?_)
 refine wpAny_bind (wpAny_newList ?_ (Nat.zero_le _))
 rw[qW]
 generalize hI:s.heap.objs.size=I at *
 have hS:(s.heap.push { cls:=.type "list_iterator",data:=.fields #[.ref l,.int 0 0] }).objs.size=I+1:=by rw[<- hI];exact Heap.size_push ..
 generalize AY:(s.heap.push { cls:=.type "list_iterator",data:=.fields #[.ref l,.int 0 0] }).objs.size=S at *
 have kg:l≠I:=Nat.ne_of_lt sT
 have ie:S≠I:=by rw[hS];exact Nat.succ_ne_self _
 have sQ:S≠l:=by rw[hS];exact Nat.ne_of_gt (Nat.lt_succ_of_lt sT)
 have kk:∀b o,s.heap.get? b=some o->((s.heap.push { cls:=.type "list_iterator",data:=.fields #[.ref l,.int 0 0] }).push { cls:=.type "list",dict:=none,data:=.seq #[] 0,slots:=#[] }).get? b=some o:=λb o e=>Heap.get?_push_of_some _ (Heap.get?_push_of_some _ e)
 have gI:((s.heap.push { cls:=.type "list_iterator",data:=.fields #[.ref l,.int 0 0] }).push { cls:=.type "list",dict:=none,data:=.seq #[] 0,slots:=#[] }).get? I=some { cls:=.type "list_iterator",data:=.fields #[.ref l,.int 0 0] }:=Heap.get?_push_of_some _ (hI ▸ Heap.get?_push_size _ rfl)
 have gS:((s.heap.push { cls:=.type "list_iterator",data:=.fields #[.ref l,.int 0 0] }).push { cls:=.type "list",dict:=none,data:=.seq #[] 0,slots:=#[] }).get? S=some { cls:=.type "list",dict:=none,data:=.seq #[] 0,slots:=#[] }:=AY ▸ Heap.get?_push_size _ rfl
 have nI:H I=none:=I0.au.fresh (Nat.le_of_eq hI)
 have nS:H S=none:=I0.au.fresh (by rw[hS];exact Nat.le_trans (Nat.le_of_eq hI) (Nat.le_succ _))
 have fI:cj X pins H I:=I0.kM (Nat.le_of_eq hI) nI
 have fS:cj X pins H S:=I0.kM (by rw[hS];exact Nat.le_trans (Nat.le_of_eq hI) (Nat.le_succ _)) nS
 have I1:=I0.cA.kept (t':=s.toks) kk
 refine wpAny_pure ⟨plainId_quiet PySem.F.plain_max_loop _,?_⟩
 show codeAny (model X.prog X.w) X.A (.builtin "max.loop" ⟨[.ref I,.builtin jy,.ref S],[]⟩) (yB X pins σ Q) _
 have W:=Walks.list (prog:=X.prog) (w:=X.w) (A:=X.A.in1) hh I l kg its.toArray
 have hsz:its.toArray.size=all.length:=by rw[List.size_toArray];exact rv.length.symm
 have hit:Heap.IsListIter ((s.heap.push { cls:=.type "list_iterator",data:=.fields #[.ref l,.int 0 0] }).push { cls:=.type "list",dict:=none,data:=.seq #[] 0,slots:=#[] }) I l 0:=⟨_,gI,rfl,rfl⟩
 have Tq:Heap.IsList ((s.heap.push { cls:=.type "list_iterator",data:=.fields #[.ref l,.int 0 0] }).push { cls:=.type "list",dict:=none,data:=.seq #[] 0,slots:=#[] }) l its.toArray:=pl.isList.at λo e=>kk l o e
 refine codeAny_builtin PySem.F.entry_max_loop ?_
 rw[Around.under_plainId PySem.F.plain_max_loop _]
 show wpAny _ X.A.in1 (seqItems? (.ref S) >>= _) _ _ _
 refine wpAny_bind (wpAny_seqItems gS rfl ?_)
 show wpAny _ X.A.in1 (tryCatch (pyNext (.ref I)) _ >>= _) _ _ _
 cases all with
 |nil =>
  exact absurd rfl bz
 |cons x rest =>
  refine wpAny_bind (wpAny_tryCatch (W.item 0 _ _ _ (by rw[hsz];simp) ⟨hit,Tq⟩ λv h' jz hP rL dD=>?_))
  obtain⟨v',me,rx⟩:=rv.get (i:=0) (x:=x) rfl
  have ev:v'=v:=by
   have:its.toArray[0]?=some v:=hP
   rw[List.getElem?_toArray,me] at this
   exact Option.some.inj this
  subst ev
  have nW:=dD S _ (by simpa using ie) gS
  have I2:=I1.turned (h':=h') (t':=jz) (it:=I) (λb o hb e=>dD b o (by simpa using hb) e) fI.1 fI.2.1 fI.2.2.2.1 fI.2.2.2.2.1 fI.2.2.2.2.2
  obtain⟨oI,sS,kU,lh⟩:=id rL.1
  have cS:∀v,({ cls:=.type "list",dict:=none,data:=.seq #[] 0,slots:=#[] }:Obj).data≠.cell v:=λv z=>by cases z
  have cI:∀v,oI.data≠.cell v:=λv z=>by rw[lh] at z;cases z
  have I3:=I2.jG (pins':=pins++[(S,{ cls:=.type "list",dict:=none,data:=.seq #[] 0,slots:=#[] }),(I,oI)]) λp hp=>by
   rcases List.mem_append.mp hp with z|z
   ·exact I2.pin p (List.mem_append_right _ z)
   ·rcases List.mem_cons.mp z with rfl|z
    ·exact⟨nW,fS.1,fS.2.1,fS.2.2.1,cS⟩
    ·rw[List.mem_singleton.mp z]
     exact⟨sS,fI.1,fI.2.1,fI.2.2.1,cI⟩
  show wpAny _ X.A.in1 (tryCatch (holding [v'] (call (.builtin jy) [v'])) _ >>= _) _ _ _
  refine wpAny_bind (wpAny_tryCatch (wpAny_holding (wpAny_mono (hK _ _ σ H x v' _ I3 rx h) (λuv s2 ef=>?_) λ_ _ z=>z.elim)))
  obtain⟨k,H2,I4,wM,h⟩:=ef
  have pS:=I4.pin (S,{ cls:=.type "list",dict:=none,data:=.seq #[] 0,slots:=#[] }) (List.mem_append_right _ (List.mem_append_right _ (by simp)))
  have pI:=I4.pin (I,oI) (List.mem_append_right _ (List.mem_append_right _ (by simp)))
  have I5:Inv X.cA pins σ H2 s2:=I4.ij
  have dE:cj X pins H2 S:=⟨pS.2.1,fS.2⟩
  have pU:cj X pins H2 I:=⟨pI.2.1,fI.2⟩
  show wpAny _ X.A.in1 (updateSeq S (λ_=>#[v',uv]) >>= _) _ _ _
  refine wpAny_bind ?_
  refine wpAny_updateSeq pS.1 rfl ?_
  rw[qW]
  obtain⟨c2,iN⟩:∃c2,(s2.heap.update S (Obj.mapSeq λ_=>#[v',uv])).get? S=some { cls:=.type "list",dict:=none,data:=.seq #[v',uv] c2,slots:=#[] }:=⟨_,Heap.get?_update_self _ pS.1 rfl⟩
  have I6:Inv X.cA pins σ H2 { s2 with heap:=s2.heap.update S (Obj.mapSeq λ_=>#[v',uv]),toks:=s2.toks }:=I5.turned (t':=s2.toks) (it:=S) (λb o hb e=>(Heap.get?_update_other _ _ (Ne.symm hb)).trans e) dE.1 dE.2.1 dE.2.2.2.1 dE.2.2.2.2.1 dE.2.2.2.2.2
  exact wpAny_pure ⟨plainId_quiet PySem.F.plain_max_loop _,J8 hc kg ie sQ hK hC rest 1 _ H2 x k v' uv c2 rfl (by simp) I6 dE pU iN ⟨oI,(Heap.get?_update_other _ _ ie).trans pI.1,kU,lh⟩ rx wM h⟩
end L2
namespace HT
open PySem PyProof.Rows
def Gg (A:Around) (s:Shared) (y x:Value) (b:Bool):Prop:=∀(prog:Program) (w:World) (E:Value->Shared->Prop) (Q:Value->Shared->Prop),Q (.bool b) s->wpAny (model prog w) A (richCompare .Lt y x) Q E s
inductive jN (A:Around) (s:Shared):List Value->List Value->Bool->Prop where
 |nn:jN A s [] [] false
 |nc (y:Value) (ys:List Value):jN A s [] (y::ys) true
 |cn (x:Value) (xs:List Value):jN A s (x::xs) [] false
 |eq {x y:Value} {xs ys:List Value} {b:Bool}:SeqAt.EqAt A s x y true->jN A s xs ys b->jN A s (x::xs) (y::ys) b
 |lt {x y:Value} {xs ys:List Value} {b:Bool}:SeqAt.EqAt A s x y false->Gg A s x y b->jN A s (x::xs) (y::ys) b
section
open PySem.SeqAt
open PySem.AutoSeq1 (wpAny_loadPart')
open PySem.MeetsSeq PySem.MeetsSeq2 PySem.MeetsSeq3
theorem Jp (l b:Addr) (items kF:Array Value) (n n2:Nat) (dd ma:Option Addr) (sl cX:Array (Option Value)) (kh:Bool) :
  Meets (Builtin.«tuple.__lt__» ⟨[.ref l,.ref b],[]⟩)
   (λA R s=>s.heap.get? l=some { cls:=.type "tuple",dict:=dd,data:=.seq items n,slots:=sl }/\s.heap.get? b=some { cls:=.type "tuple",dict:=ma,data:=.seq kF n2,slots:=cX } /\
    jN A.in1 s items.toList kF.toList kh/\R (.ok (.ret (.bool kh))) s) :=
 .of_wp λprog w A R s h=>by
  obtain⟨hp,g,d,tk,os⟩:=s;obtain⟨hl,hb,hA,h⟩:=h
  have f2:=AutoSeq1.sub_tuple_tuple
  wp_walk using wpAny_loadPart' hl,wpAny_loadPart' hb,wpAny_forIn_list _ (λrest b s'=>b.1=none/\s'=⟨hp,g,d,tk,os⟩/\∃(vs ws:List Value),rest=vs.zip ws /\
   jN A.in1 ⟨hp,g,d,tk,os⟩ vs ws kh/\vs.length+kF.size=ws.length+items.size) _
  case turn =>
   rintro ⟨y,x⟩ rest b s' ⟨dC,rfl,vs,ws,hz,ha,hlen⟩
   cases ha with
   |nn=>cases hz
   |nc _ _=>cases hz
   |cn _ _=>cases hz
   |eq he hr =>
    rw[List.zip_cons_cons] at hz
    injection hz with AZ FE
    injection AZ with hy hx
    subst hy hx
    simp only[List.length_cons] at hlen
    refine wpAny_bind (he prog w _ _ ?_)
    wp_walk
    exact⟨rfl,rfl,_,_,FE,hr,by omega⟩
   |lt he hr =>
    rw[List.zip_cons_cons] at hz
    injection hz with AZ FE
    injection AZ with hy hx
    subst hy hx
    refine wpAny_bind (he prog w _ _ ?_)
    have Tr:=hr prog w
    wp_walk using Tr
    exact⟨_,rfl,by simpa using h⟩
  case fin =>
   rintro ⟨b1,b2⟩ s' ⟨dC,rfl,vs,ws,hz,ha,hlen⟩
   simp only at dC
   subst dC
   have hv:kh=decide (items.size<kF.size):=by
    cases ha with
    |nn=>simp only[List.length_nil] at hlen;exact(decide_eq_false (by omega)).symm
    |nc _ _=>simp only[List.length_nil,List.length_cons] at hlen;exact(decide_eq_true (by omega)).symm
    |cn _ _=>simp only[List.length_nil,List.length_cons] at hlen;exact(decide_eq_false (by omega)).symm
    |eq _ _=>rw[List.zip_cons_cons] at hz;cases hz
    |lt _ _=>rw[List.zip_cons_cons] at hz;cases hz
   rw[hv] at h
   wp_walk
   exact⟨_,rfl,by simpa [Builtin.Tuple.tupleCompareSizes] using h⟩
  case h =>
   exact⟨rfl,rfl,items.toList,kF.toList,rfl,hA,by simp only[Array.length_toList];omega⟩
end
end HT
namespace HT
open PySem PyProof.Rows PySem.SeqAt PySem.MeetsSeq
section
variable {prog:Program} {w:World} {A:Around} {E:Value->Shared->Prop} {s:Shared}
theorem MT {l b:Addr} {items kF:Array Value} {kh:Bool} {Q:Value->Shared->Prop} (hl:IsTup s.heap l items) (hb:IsTup s.heap b kF) (hA:∀A':Around,A'.units<=A.units+4->jN A' s items.toList kF.toList kh)
  (hu:A.units<cLine) (h:Q (.bool kh) s):wpAny (model prog w) A (richCompare .Lt (.ref l) (.ref b)) Q E s:=by
 obtain⟨⟨cls,dd,data,sl⟩,ho,hc,n,hd⟩:=id hl
 obtain⟨⟨F0,ma,data2,cX⟩,iM,iN,n2,hd2⟩:=id hb
 simp only at hc hd iN hd2
 subst hc hd iN hd2
 refine richCompare_meets_room (op:=.Lt) ⟨_,ho,rfl⟩ ⟨_,iM,rfl⟩ PySem.F.slot_tuple_lt PySem.F.entry_tuple_lt (PySem.F.args_tuple_lt_2 _ _) (Jp l b items kF n n2 dd ma sl cX kh)
  ⟨ho,iM,hA _ ?_,show Value.bool kh≠Value.notImplemented/\Q (.bool kh) s from ⟨(λx=>nomatch x),h⟩⟩ hu
 show A.units+1<=A.units+4
 omega
end
end HT
namespace DI
open PySem L2 HT
mutual
noncomputable def sU:D->D->Option Bool
 | .int i,.int j=>some (decide (i<j))
 | .str x,.str y=>some (decide (x.cps.toList<y.cps.toList))
 | .tup xs,.tup ys=>vQ xs ys
 |_,_=>none
noncomputable def vQ:List D->List D->Option Bool
 | [],[]=>some false
 | [],_::_=>some true
 |_::_,[]=>some false
 |x::xs,y::ys=>if beq x y=true then vQ xs ys else sU x y
end
section
variable {X:Cx} {Ξ:Wd->bD->Prop} {pins:List (Addr×Obj)} {σ:St} {s:Shared} {w:Wd}
theorem Qu (I:Inv X pins σ w.H s) (A:Around) {x y:D} {v u:V} {vx vy:Value} (lx:lay x=true) (ly:lay y=true) (hu:A.units+dep x<cLine) (hx:DV X.K w x v) (hy:DV X.K w y u) (rx:RelV v vx) (ry:RelV u vy):SeqAt.EqAt A s vx vy (beq x y):=by
 obtain⟨as,r1⟩:=(hx.py (mH _ lx)).reads I rx
 obtain⟨bs,r2⟩:=(hy.py (mH _ ly)).reads I ry
 obtain⟨p1,p2⟩:=mQ _ lx
 obtain⟨q1,q2⟩:=mQ _ ly
 have:=SeqAt.eqAt_reads _ _ A s vx vy as bs r1 r2 p1 q1 (by rw[p2];omega)
 rw[uY _ _ lx ly] at this
 exact this
mutual
theorem FF (I:Inv X pins σ w.H s):∀(A:Around) (x y:D) (b:Bool) (v u:V) (vx vy:Value),sU x y=some b->lay x=true->lay y=true->A.units+5*dep x+5<cLine->DV X.K w x v->DV X.K w y u->RelV v vx->RelV u vy->Gg A s vx vy b
 |A,.int i,.int j,b,v,u,vx,vy,h,_,_,_,hx,hy,rx,ry=>by
  cases h;cases hx;cases hy
  obtain⟨t,rfl⟩:=rx
  obtain⟨t',rfl⟩:=ry
  intro prog w E Q q
  exact KO A s i t j t' prog w E Q q
 |A,.str i,.str j,b,v,u,vx,vy,h,_,_,hu,hx,hy,rx,ry=>by
  cases h;cases hx;cases hy
  obtain⟨t,rfl⟩:=rx
  obtain⟨t',rfl⟩:=ry
  intro prog w E Q q
  exact(PyProof.Rows.lt_str q:wpAny (model prog w) A (compareOp .Lt (.str i t) (.str j t')) Q E s)
 |A,.tup xs,.tup ys,b,v,u,vx,vy,h,lx,ly,hu,hx,hy,rx,ry=>by
  simp only[sU] at h
  simp only[DV] at hx hy
  obtain⟨a,as,rfl,ha,fz⟩:=hx
  obtain⟨c,cs,rfl,hc,Tt⟩:=hy
  cases rx;cases ry
  obtain⟨its,r1,p1,_⟩:=I.tuple ha
  obtain⟨m8,r2,p2,_⟩:=I.tuple hc
  intro prog w' E Q q
  simp only[dep] at hu
  exact MT p1 p2 (λA' VH=>by
   have:=EY I A' xs ys b as cs its m8 h (by simpa [lay] using lx) (by simpa [lay] using ly) (by omega) fz Tt r1 r2
   simpa using this) (by omega) q
 |_,.ay,_,_,_,_,_,_,h,_,_,_,_,_,_,_=>by cases h
 |_,.bl _,_,_,_,_,_,_,h,_,_,_,_,_,_,_=>by cases h
 |_,.lst _,_,_,_,_,_,_,h,_,_,_,_,_,_,_=>by cases h
 |_,.aY _,_,_,_,_,_,_,h,_,_,_,_,_,_,_=>by cases h
 |_,.ar _,_,_,_,_,_,_,h,_,_,_,_,_,_,_=>by cases h
 |_,.ty _,_,_,_,_,_,_,h,_,_,_,_,_,_,_=>by cases h
 |_,.bS _,_,_,_,_,_,_,h,_,_,_,_,_,_,_=>by cases h
 |_,.int _,.ay,_,_,_,_,_,h,_,_,_,_,_,_,_=>by cases h
 |_,.int _,.bl _,_,_,_,_,_,h,_,_,_,_,_,_,_=>by cases h
 |_,.int _,.str _,_,_,_,_,_,h,_,_,_,_,_,_,_=>by cases h
 |_,.int _,.tup _,_,_,_,_,_,h,_,_,_,_,_,_,_=>by cases h
 |_,.int _,.lst _,_,_,_,_,_,h,_,_,_,_,_,_,_=>by cases h
 |_,.int _,.aY _,_,_,_,_,_,h,_,_,_,_,_,_,_=>by cases h
 |_,.int _,.ar _,_,_,_,_,_,h,_,_,_,_,_,_,_=>by cases h
 |_,.int _,.ty _,_,_,_,_,_,h,_,_,_,_,_,_,_=>by cases h
 |_,.int _,.bS _,_,_,_,_,_,h,_,_,_,_,_,_,_=>by cases h
 |_,.str _,.ay,_,_,_,_,_,h,_,_,_,_,_,_,_=>by cases h
 |_,.str _,.bl _,_,_,_,_,_,h,_,_,_,_,_,_,_=>by cases h
 |_,.str _,.int _,_,_,_,_,_,h,_,_,_,_,_,_,_=>by cases h
 |_,.str _,.tup _,_,_,_,_,_,h,_,_,_,_,_,_,_=>by cases h
 |_,.str _,.lst _,_,_,_,_,_,h,_,_,_,_,_,_,_=>by cases h
 |_,.str _,.aY _,_,_,_,_,_,h,_,_,_,_,_,_,_=>by cases h
 |_,.str _,.ar _,_,_,_,_,_,h,_,_,_,_,_,_,_=>by cases h
 |_,.str _,.ty _,_,_,_,_,_,h,_,_,_,_,_,_,_=>by cases h
 |_,.str _,.bS _,_,_,_,_,_,h,_,_,_,_,_,_,_=>by cases h
 |_,.tup _,.ay,_,_,_,_,_,h,_,_,_,_,_,_,_=>by cases h
 |_,.tup _,.bl _,_,_,_,_,_,h,_,_,_,_,_,_,_=>by cases h
 |_,.tup _,.int _,_,_,_,_,_,h,_,_,_,_,_,_,_=>by cases h
 |_,.tup _,.str _,_,_,_,_,_,h,_,_,_,_,_,_,_=>by cases h
 |_,.tup _,.lst _,_,_,_,_,_,h,_,_,_,_,_,_,_=>by cases h
 |_,.tup _,.aY _,_,_,_,_,_,h,_,_,_,_,_,_,_=>by cases h
 |_,.tup _,.ar _,_,_,_,_,_,h,_,_,_,_,_,_,_=>by cases h
 |_,.tup _,.ty _,_,_,_,_,_,h,_,_,_,_,_,_,_=>by cases h
 |_,.tup _,.bS _,_,_,_,_,_,h,_,_,_,_,_,_,_=>by cases h
theorem EY (I:Inv X pins σ w.H s):∀(A:Around) (xs ys:List D) (b:Bool) (vs us:List V) (ps qs:List Value),vQ xs ys=some b->bW xs=true->bW ys=true->A.units+5*iF xs+5<cLine->ao X.K w xs vs->ao X.K w ys us->Vals vs ps->Vals us qs->jN A s ps qs b
 |A,[],[],b,vs,us,ps,qs,h,_,_,_,hx,hy,rx,ry=>by
  cases h;cases hx;cases hy;cases rx;cases ry
  exact .nn
 |A,[],y::ys,b,vs,us,ps,qs,h,_,_,_,hx,hy,rx,ry=>by
  cases h;cases hx;cases rx
  obtain⟨u,r,rfl,_,_⟩:=hy
  cases ry
  exact .nc _ _
 |A,x::xs,[],b,vs,us,ps,qs,h,_,_,_,hx,hy,rx,ry=>by
  cases h;cases hy;cases ry
  obtain⟨u,r,rfl,_,_⟩:=hx
  cases rx
  exact .cn _ _
 |A,x::xs,y::ys,b,vs,us,ps,qs,h,lx,ly,hu,hx,hy,rx,ry=>by
  obtain⟨v,r,rfl,dx,dr⟩:=hx
  obtain⟨u,r',rfl,dy,Tu⟩:=hy
  simp only[bW,Bool.and_eq_true] at lx ly
  simp only[iF] at hu
  have m1:=Nat.le_max_left (dep x) (iF xs)
  have m2:=Nat.le_max_right (dep x) (iF xs)
  cases rx with
  |cons rx Tv =>
   cases ry with
   |cons ry Tw =>
    have he:=Qu I A lx.1 ly.1 (by omega) dx dy rx ry
    simp only[vQ] at h
    split at h
    ·rename_i hb
     rw[hb] at he
     exact .eq he (EY I A xs ys b _ _ _ _ h lx.2 ly.2 (by omega) dr Tu Tv Tw)
    ·rename_i hb
     rw[Bool.not_eq_true] at hb
     rw[hb] at he
     exact .lt he (FF I A x y b _ _ _ _ h lx.1 ly.1 (by omega) dx dy rx ry)
end
noncomputable def fN (x y:D) (s:aa):Res D:=if (lay x&&lay y&&decide (dep x<=30))=true then bE ((sU x y).map D.bl) s else none
theorem nj {k:Nat} (hr:bV k X.A):aW X (compareOp .Lt) (rO X.K Ξ fN):=by
 rintro pins s σ H x y v u Q I rx ry ⟨w,dx,dy,rfl,S,hx,hy,h⟩
 unfold fN at h
 split at h
 ·rename_i hl
  simp only[Bool.and_eq_true,decide_eq_true_eq] at hl
  obtain⟨d,e,h⟩:=dH h
  cases hb:sU dx dy with
  |none=>rw[hb] at e;cases e
  |some b =>
   rw[hb] at e
   cases e
   exact FF I X.A dx dy b x y v u hb hl.1.1 hl.1.2 (by have:=hr.un;have:=hl.2;have:cLine=9900:=rfl;omega) hx hy rx ry _ _ _ _ ⟨.bl b,w.H,I,rfl,aF S h _ rfl⟩
 ·exact h.elim
end
end DI
namespace DI
open PySem L2
noncomputable def nk (kf:D->aa->Res D) (o:D->D->aa->Res D):D->D->List D->aa->Res D
 |b,_,[],s=>ok b s
 |b,k,d::ds,s=>ak (ne (kf d s)) λk' s=>ak (ne (o k' k s)) λc s=>match c with
  | .bl true=>nk kf o d k' ds s
  | .bl false=>nk kf o b k ds s
  |_=>none
noncomputable def FG (kf:D->aa->Res D) (o:D->D->aa->Res D) (dflt:Option D):List D->aa->Res D
 | [],s=>match dflt with
  |some d=>ok d s
  |none=>none
 |d::ds,s=>ak (ne (kf d s)) λk s=>nk kf o d k ds s
noncomputable def rK (K:Frag) (kf:D->aa->Res D):V->Hp->VK->Prop:=λx H Q=>∃w dx,w.H=H/\aH K w/\DV K w dx x/\Out K dw w (kf dx w.aC) λw' d=>∀v,DV K w' d v->Q v w'.H
theorem yC {K:Frag} {Ξ:Wd->bD->Prop} {kf:D->aa->Res D} {o:D->D->aa->Res D} {l:Addr} {all:List V} {Q:VK}:∀{ds:List D} {vs:List V} {w:Wd} {b k:D} {vb vk:V},aH K w->LstAt w l all->ao K w ds vs->DV K w b vb->DV K w k vk ->
  Out K Ξ w (nk kf o b k ds w.aC) (λw' d=>∀v,DV K w' d v->Q v w'.H)->sP K l all (rK K kf) (rO K dw o) vs vb vk w.H Q
 | [],vs,w,b,k,vb,vk,S,hl,hd,hb,hk,h=>by
  have e:vs=[]:=hd
  subst e
  exact⟨hl.sq,aF S h _ hb⟩
 |d::ds,vs,w,b,k,vb,vk,S,hl,hd,hb,hk,h=>by
  obtain⟨v,r,rfl,dv,dr⟩:=hd
  refine⟨hl.sq,w,d,rfl,S,dv,(Out.ak h).ne.mono λw1 k' l1 S1 h1 VI GY=>⟨w1,k',k,rfl,S1,GY,l1 _ _ hk,(Out.ak h1).ne.mono λw2 c l2 S2 h2 vc dc=>?_⟩⟩
  have nX:=l1.trans l2
  cases c with
  |bl c =>
   have e:vc=.bl c:=dc
   refine⟨c,e,?_⟩
   cases c with
   |true =>
    rw[if_pos rfl]
    exact yC (Ξ:=Ξ) S2 (nX.lst _ _ hl) (nX.all dr) (nX _ _ dv) (l2 _ _ GY) h2
   |false =>
    rw[if_neg Bool.false_ne_true]
    exact yC (Ξ:=Ξ) S2 (nX.lst _ _ hl) (nX.all dr) (nX _ _ hb) (nX _ _ hk) h2
  |_=>exact h2.elim
theorem MU {K:Frag} {Ξ:Wd->bD->Prop} {kf:D->aa->Res D} {o:D->D->aa->Res D} {w:Wd} {ds:List D} {v dv:V} {dflt:Option D} {Q:VK} (S:aH K w) (hl:DV K w (.lst ds) v) (hd:∀d,dflt=some d->∀w',DV K w' d dv)
  (h:Out K Ξ w (FG kf o dflt ds w.aC) (λw' d=>∀v,DV K w' d v->Q v w'.H)):∃l all,v=.ref l/\(all=[]->dflt≠none)/\zX K l all (rK K kf) (rO K dw o) dv w.H Q:=by
 simp only[DV] at hl
 obtain⟨l,all,rfl,ha,aq⟩:=hl
 refine⟨l,all,rfl,λe z=>?_,ha.sq,?_⟩
 ·subst e z
  have hn:ds.length=0:=aq.length
  cases ds with
  |nil=>exact h
  |cons _ _=>cases hn
 ·cases ds with
  |nil =>
   have e:all=[]:=aq
   subst e
   cases dflt with
   |none=>exact h.elim
   |some d=>exact aF S h _ (hd d rfl w)
  |cons d ds =>
   obtain⟨x,r,rfl,dx,dr⟩:=aq
   exact⟨w,d,rfl,S,dx,(Out.ak h).ne.mono λw1 k l1 S1 h1 vk dk=>yC (Ξ:=Ξ) S1 (l1.lst _ _ ha) (l1.all dr) (l1 _ _ dx) dk h1⟩
theorem MV {X:Cx}:zW X.cA (.builtin "len") (rK X.K λd s=>bb [d] s):=by
 rintro pins s σ H x v Q I rx ⟨w,dx,rfl,S,hx,h⟩
 exact cR (X:=X.cA) pins s σ w.H [x] [v] Q I (.cons rx .nil) ⟨w,[dx],rfl,S,ao.one hx,h⟩
noncomputable def yD (kf:D->aa->Res D) (o:D->D->aa->Res D) (dflt:Option D) (d:D) (s:aa):Res D:=match d with
 | .lst ds=>FG kf o dflt ds s
 |_=>none
noncomputable abbrev yE:D->aa->Res D:=yD (λd s=>bb [d] s) jV none
theorem MW {K:Frag} {Ξ:Wd->bD->Prop} {kf:D->aa->Res D} {o:D->D->aa->Res D} {w:Wd} {d:D} {v dv:V} {dflt:Option D} {Q:VK} (S:aH K w) (hl:DV K w d v) (hd:∀d,dflt=some d->∀w',DV K w' d dv)
  (h:Out K Ξ w (yD kf o dflt d w.aC) (λw' d=>∀v,DV K w' d v->Q v w'.H)):∃l all,v=.ref l/\(all=[]->dflt≠none)/\zX K l all (rK K kf) (rO K dw o) dv w.H Q:=by
 unfold yD at h
 split at h
 ·exact MU S hl hd h
 ·exact h.elim
section
variable {X:Cx} {Ξ:Wd->bD->Prop} {e:Expr} {p pos Tx VJ zx Vf:Pos} {f:Env->aa->Res D}
theorem Lx (he:PE X e (tE X.K Ξ f)) (hc:X.calm=true) (hg:Gl X "max") (hm:X.mg "max"=none) (Tz:Gl X "len") (TB:X.mg "len"=none)
  (hs:starEach [e] X.env=(false,eval e X.env)::starEach [] X.env:=by rfl)
  (TC:backTo pos (starEach [e] X.env)=(false,eval e X.env)::backTo pos (starEach [] X.env):=by rfl) (bX:(backTo pos (starEach [e] X.env)).any (·.1)=false:=by rfl) :
  PE X (.Call (.Name "max" p) [e] [⟨some "key",.Name "len" zx,Tx⟩] pos) (tE X.K Ξ (e1 yE f)):=by
 rintro pins s σ H Q I ⟨w,env,rfl,S,eo,h⟩
 refine wpAny_Call_Name_kw (lE I hg hm FA ?_)
 have ha:=iU he (kC (X:=X)) hs
 refine PyProof.Rows.callWith_kw (aA (ha pos pins s σ w.H (λvs H1=>∃v,vs=[v]/\∃(w1:Wd) (d:D),w1.H=H1/\aH X.K w1/\DV X.K w1 d v/\Out X.K Ξ w1 (yE d w1.aC) (λw' d=>∀v,DV X.K w' d v->Q v w'.H)) I ⟨w,env,rfl,S,eo,(Out.ak h).mono λw1 d l1 S1 h1 v dv=>⟨v,rfl,w1,d,rfl,S1,dv,h1⟩⟩) λus s1 ⟨vs,H1,I1,r1,q1⟩=>?_) TC bX
 show wpAny _ _ (evalAll ((do let v <- eval (.Name "len" zx) X.env;standAt pos;pure v)::(backToKw pos (keywordEach [] X.env)).map (·.2))) _ _ s1
 refine wpAny_evalAll_cons (wpAny_bind (lE I1 Tz TB cT (wpAny_bind (wpAny_standAt (wpAny_pure (wpAny_evalAll_nil ?_))))))
 obtain⟨v,rfl,w1,d,rfl,S1,dv,h1⟩:=q1
 obtain⟨l,all,rfl,bz,TF⟩:=MW (dv:=.ay) S1 dv (λd e w'=>by cases e) h1
 obtain⟨u,rfl,ru⟩:=vals1 r1
 cases ru
 exact J9 hc MV (vM (X:=X.cA)) I1 (λz=>bz z rfl) TF
end
end DI
namespace DI
open PySem L2
noncomputable def og:List D->aa->Res D:=bw 2 2 (ax (bt (ba (e2 fN (ab 1) (eB bb (ae (ab 0) ag)))) (aG (e2 aD (ab 0) (ab 1))) bA) (aG (eC (.int 0))))
noncomputable def qo:List D->aa->Res D:=bw 2 3 (ax (bq (aB og (ae (ab 0) (ae (ab 1) ag))) (gN 2)) (aG (eNew (ae (eB oR (ae (eC (.int 0)) (ae (e2 lO (ab 2) (e2 kJ (eC (.int 10)) (eC (.int 18)))) ag))) (ae (e2 eJ (ab 2) (eC (.int 2147483647))) ag)))))
noncomputable def dA:List D->aa->Res D:=bw 2 4 (ax (bt (ba (e2 jV (e2 aD (ab 0) (eC (.int 0))) (eC (.int 0)))) (ax (bq (e2 eJ (e2 aD (ab 0) (eC (.int 0))) (ab 1)) (gN 2)) (ax (kQ (e2 mW (e2 aD (ab 0) (eC (.int 0))) (ab 1)) (ab 0) (eC (.int 0))) (aG (ab 2)))) bA) (ax (kQ (e2 eJ (e2 aS (e2 dY (e2 aD (ab 0) (eC (.int 1))) (eC (.int 48271))) (eC (.int 29))) (eC (.int 2147483647))) (ab 0) (eC (.int 1))) (ax (bq (e2 eJ (e2 aS (e2 aS (e2 dY (e2 aD (ab 0) (eC (.int 1))) (e2 aD (ab 0) (eC (.int 1)))) (e2 dY (eC (.int 39373)) (e2 aD (ab 0) (eC (.int 1))))) (eC (.int 7))) (eC (.int 2147483629))) (gN 3)) (ax (bq (e2 eJ (e2 aS (e2 dY (ab 3) (ab 3)) (e2 dY (eC (.int 16807)) (ab 3))) (eC (.int 2147483587))) (gN 3)) (aG (e2 eJ (e2 mW (ab 3) (eC (.int 8))) (ab 1)))))))
noncomputable def qp:List D->aa->Res D:=bw 2 3 (ax (bq (e2 aS (eC (.int 1)) (aB dA (ae (ab 0) (ae (eC (.int 4)) ag)))) (gN 2)) (aG (eB fg (ae (cL 1 [0,2] (dS (ae (ab 1) ag)) (gN 0) (ba (e2 cg (aB dA (ae (ab 1) (ae (e2 aS (ab 2) (eC (.int 1))) ag))) (eC (.int 0)))) (ab 0)) ag))))
noncomputable def iq:Nat->List D->aa->Res D
 |0=>λ_ _=>none
 |n+1=>bw 2 2 (ax (bt (bH (e1 RT (ab 1))) (ax (bt (dZ (ba (e2 cC (eB bh (ae (ab 0) (ae (eC (.ty "tuple")) ag))) (eB bh (ae (ab 1) (ae (eC (.ty "tuple")) ag))))) (ba (e2 cC (eB bh (ae (ab 0) (ae (eC (.ty "list")) ag))) (eB bh (ae (ab 1) (ae (eC (.ty "list")) ag)))))) (aG (eC (.bl false))) bA) (aG (dO (e2 cg (eB bb (ae (ab 0) ag)) (eB bb (ae (ab 1) ag))) (eB iG (ae (cL 2 [] (lU (ae (ab 0) (ae (ab 1) ag))) (gT [gN 0,gN 1]) dI (aB (iq n) (ae (ab 0) (ae (ab 1) ag)))) ag))))) bA) (aG (dO (e2 cg (eB bh (ae (ab 0) (ae (eC (.ty "bool")) ag))) (eB bh (ae (ab 1) (ae (eC (.ty "bool")) ag)))) (e2 cg (ab 0) (ab 1)))))
noncomputable def n6:List D->aa->Res D:=bw 1 1 (aG (eB iG (ae (cL 2 [] (lU (ae (ab 0) (ae (bQ (ab 0) (bI (eC (.int 1))) bT) ag))) (gT [gN 0,gN 1]) dI (e2 fN (ab 0) (ab 1))) ag)))
noncomputable def qe:List D->aa->Res D:=bw 1 1 (aG (dO (eB bh (ae (ab 0) (ae (eC (.ty "int")) ag))) (dO (rA (eB bh (ae (ab 0) (ae (eC (.ty "bool")) ag)))) (e2 o7 (ab 0) (eC (.int 0))))))
noncomputable def jE:List D->aa->Res D:=bw 2 2 (aG (dO (aB qe (ae (ab 0) ag)) (e2 fN (ab 0) (ab 1))))
noncomputable def uq:List D->aa->Res D:=bw 1 1 (aG (aB jE (ae (ab 0) (ae (eC (.int (8))) ag))))
noncomputable def tY:List D->aa->Res D:=bw 1 1 (aG (dO (eB bh (ae (ab 0) (ae (eC (.ty "tuple")) ag))) (dO (eB iG (ae (cL 1 [] (c9 (ab 0)) (gN 0) dI (aB uq (ae (ab 0) ag))) ag)) (aB n6 (ae (ab 0) ag)))))
noncomputable def tu:List D->aa->Res D:=bw 2 2 (aG (dO (eB bh (ae (ab 0) (ae (eC (.ty "tuple")) ag))) (dO (j7 kP kP (eC (.int 1)) (eB bb (ae (ab 0) ag)) (ab 1)) (eB iG (ae (cL 1 [] (c9 (ab 0)) (gN 0) dI (aB tY (ae (ab 0) ag))) ag)))))
noncomputable def mI:List D->aa->Res D:=bw 2 2 (aG (eB iG (ae (cL 1 [0] (c9 (ab 1)) (gN 0) dI (e2 o9 (ab 0) (ab 1))) ag)))
end DI
namespace ST
open PySem PySem.W PyProof.Rows
structure Ord (α:Type) where
 lt:α->α->Bool
 nY:∀a,lt a a=false
 tr:∀a b c,lt a b=true->lt b c=true->lt a c=true
 wN:∀a b,lt a b=false->lt b a=false->a=b
section
variable {α:Type} (O:Ord α)
def Ord.le (a b:α):Prop:=O.lt b a=false
variable {O}
theorem Ord.le_refl (a:α):O.le a a:=O.nY a
theorem Ord.le_of_lt {a b:α} (h:O.lt a b=true):O.le a b:=by
 unfold Ord.le
 cases hb:O.lt b a with
 |false=>rfl
 |true=>have:=O.tr _ _ _ h hb;rw[O.nY] at this;cases this
theorem Ord.y8 {a b c:α} (h:O.le a b) (g:O.le b c):O.le a c:=by
 unfold Ord.le at *
 cases hc:O.lt c a with
 |false=>rfl
 |true =>
  cases hb:O.lt a b with
  |true=>have:=O.tr _ _ _ hc hb;rw[g] at this;cases this
  |false =>
   have e:=O.wN a b hb h
   subst e
   rw[g] at hc;cases hc
theorem Ord.Qv {a b:α} (h:O.le a b) (g:O.le b a):a=b:=O.wN _ _ g h
end
noncomputable def ok {β:Type} (c:Nat->Nat->Bool) (n:Nat):KasT β->(β->Prop)->Prop
 | .ret a,Q=>Q a
 | .ask i j k,Q=>i<n/\j<n/\ok c n (k (c i j)) Q
section
variable {α:Type} {O:Ord α} {x:Nat->α} {n:Nat}
noncomputable def ky (x:Nat->α) (p:Array Nat) (i:Nat):α:=x (p.getD i 0)
def Pm (n:Nat) (p:Array Nat):Prop:=p.size=n/\p.toList.Perm (List.range n)
def Up (O:Ord α) (f:Nat->α) (k:Nat):Prop:=∀i j,i<j->j<k->O.le (f i) (f j)
def Dn (O:Ord α) (f:Nat->α) (k:Nat):Prop:=∀i j,i<j->j<k->O.le (f j) (f i)
theorem Up.more {f:Nat->α} {k:Nat} (h:Up O f k) (hk:1<=k) (h1:O.le (f (k-1)) (f k)):Up O f (k+1):=λi j ia hj=>by
 by_cases e:j=k
 ·subst e
  by_cases e':i=j-1
  ·subst e';exact h1
  ·exact Ord.y8 (h i (j-1) (by omega) (by omega)) h1
 ·exact h i j ia (by omega)
theorem Dn.more {f:Nat->α} {k:Nat} (h:Dn O f k) (hk:1<=k) (h1:O.le (f k) (f (k-1))):Dn O f (k+1):=λi j ia hj=>by
 by_cases e:j=k
 ·subst e
  by_cases e':i=j-1
  ·subst e';exact h1
  ·exact Ord.y8 h1 (h i (j-1) (by omega) (by omega))
 ·exact h i j ia (by omega)
theorem Pm.lt {p:Array Nat} (h:Pm n p) {i:Nat} (hi:i<n):p.getD i 0<n:=by
 have hs:i<p.size:=by rw[h.1];exact hi
 have:p[i]∈p.toList:=by simp
 have e:p.getD i 0=p[i]:=by simp[Array.getD,hs]
 rw[e]
 exact List.mem_range.mp (h.2.mem_iff.mp this)
theorem Pm.rev {p:Array Nat} (h:Pm n p) (i j:Nat):Pm n (kas_rev p i j):=⟨by rw[kas_rev_size];exact h.1,(Array.perm_iff_toList_perm.mp (mirror_perm p i j _)).trans h.2⟩
theorem Ea {p q:Array Nat} {i j:Nat} (h:p[i]?=q[j]?):p.getD i 0=q.getD j 0:=by
 rw[Array.getD_eq_getD_getElem?,Array.getD_eq_getD_getElem?,h]
theorem OK {p:Array Nat} {i j:Nat} (hj:j<=p.size) (k:Nat):ky x (kas_rev p i j) k=if i<=k/\k<j then ky x p (i+j-1-k) else ky x p k:=by
 have e:=getElem?_mirror_all (i:=i) hj k
 unfold ky kas_rev
 split<;>rename_i h
 ·rw[if_pos h] at e;rw[Ea e]
 ·rw[if_neg h] at e;rw[Ea e]
theorem MX {p:Array Nat} {i j:Nat} (hj:j<=p.size) (he:∀k,i<=k->k<j->ky x p k=ky x p (j-1)):ky x (kas_rev p i j)=ky x p:=funext λk=>by
 rw[OK hj]
 split
 ·rw[he _ (by omega) (by omega),he k (by omega) (by omega)]
 ·rfl
noncomputable abbrev asks (O:Ord α) (x:Nat->α) (i j:Nat):Bool:=O.lt (x i) (x j)
structure DS (O:Ord α) (x:Nat->α) (n:Nat) (p:Array Nat) (m q:Nat):Prop where
 pm:Pm n p
 q1:q+1<=m
 mn:m<=n
 dn:Dn O (ky x p) m
 bl:∀k,m-(q+1)<=k->k<m->ky x p k=ky x p (m-1)
theorem DS.turn {p:Array Nat} {m q:Nat} (D:DS O x n p m q):Pm n (kas_rev p (m-(q+1)) m)/\ky x (kas_rev p (m-(q+1)) m)=ky x p :=
 ⟨D.pm.rev _ _,MX (by rw[D.pm.1];exact D.mn) D.bl⟩
end
end ST
namespace ST
open PySem PySem.W PyProof.Rows
section
variable {α:Type} {O:Ord α} {x:Nat->α} {prog:Program} {w:World} {A:Around} {E:Value->Shared->Prop} {s:Shared}
end
end ST
namespace ST
open PySem PySem.W PyProof.Rows HT
noncomputable def lX:Ord Int where
 lt a b:=decide (a<b)
 nY a:=decide_eq_false (Int.lt_irrefl a)
 tr a b c h g:=by simp only[decide_eq_true_eq] at *;omega
 wN a b h g:=by simp only[decide_eq_false_iff_not] at *;omega
section
variable {prog:Program} {w:World} {A:Around} {E:Value->Shared->Prop} {s:Shared}
inductive lY (h:Heap):List Value->List (List Int)->Prop where
 |nil:lY h [] []
 |cons {a:Addr} {its:Array Value} {ns:List Int} {us:List Value} {gF:List (List Int)}:IsTup h a its->IntsAre its.toList ns->lY h us gF->lY h (.ref a::us) (ns::gF)
theorem lY.keep {h h':Heap} (k:∀c o,h.get? c=some o->h'.get? c=some o) {us:List Value} {gF:List (List Int)} (t:lY h us gF):lY h' us gF:=by
 induction t with
 |nil=>exact .nil
 |cons a b _ ih =>
  obtain⟨o,ho,r⟩:=a
  exact .cons ⟨o,k _ _ ho,r⟩ b ih
theorem lY.at {h:Heap} {us:List Value} {gF:List (List Int)} (t:lY h us gF):∀i,i<us.length->∃a its,us.getD i Value.none=.ref a/\IsTup h a its/\IntsAre its.toList (gF.getD i []):=by
 induction t with
 |nil=>intro i hi;simp at hi
 |cons a b _ ih =>
  intro i hi
  cases i with
  |zero=>exact⟨_,_,rfl,a,b⟩
  |succ i =>
   obtain⟨c,its,e,r⟩:=ih i (by simpa using hi)
   exact⟨c,its,by simpa using e,r⟩
inductive sV:List (Option Value)->List (List Int)->Prop where
 |nil:sV [] []
 |ay {fs:List (Option Value)} {gF:List (List Int)}:sV fs gF->sV (none::fs) ([]::gF)
 |one {fs:List (Option Value)} {gF:List (List Int)} {n:Int} {t:Tok} {r:List Int}:sV fs gF->sV (some (.int n t)::fs) ((n::r)::gF)
noncomputable def ins {α:Type} (O:Ord α) (a:α):List α->List α
 | []=>[a]
 |b::r=>if O.lt b a=true then b::ins O a r else a::b::r
noncomputable def jP {α:Type} (O:Ord α):List α->List α
 | []=>[]
 |a::r=>ins O a (jP O r)
end
section
variable {α:Type} {O:Ord α}
theorem Ds (a:α) (l:List α):(ins O a l).Perm (a::l):=by
 induction l with
 |nil=>exact .refl _
 |cons b r ih =>
  unfold ins
  split
  ·exact(List.Perm.cons b ih).trans (List.Perm.swap a b r)
  ·exact .refl _
theorem Jq (l:List α):(jP O l).Perm l:=by
 induction l with
 |nil=>exact .refl _
 |cons a r ih=>exact(Ds a _).trans (ih.cons a)
theorem OL (a:α) (l:List α) (h:l.Pairwise O.le):(ins O a l).Pairwise O.le:=by
 induction l with
 |nil=>exact List.pairwise_singleton _ _
 |cons b r ih =>
  obtain⟨h1,h2⟩:=List.pairwise_cons.mp h
  unfold ins
  split<;>rename_i hb
  ·refine List.pairwise_cons.mpr ⟨λc hc=>?_,ih h2⟩
   rcases List.mem_cons.mp ((Ds a r).mem_iff.mp hc) with e|e
   ·rw[e];exact Ord.le_of_lt hb
   ·exact h1 c e
  ·have hb:O.le a b:=by rw[Bool.not_eq_true] at hb;exact hb
   refine List.pairwise_cons.mpr ⟨λc hc=>?_,h⟩
   rcases List.mem_cons.mp hc with e|e
   ·rw[e];exact hb
   ·exact Ord.y8 hb (h1 c e)
theorem Ly (l:List α):(jP O l).Pairwise O.le:=by
 induction l with
 |nil=>exact .nil
 |cons a r ih=>exact OL a _ ih
theorem Ka:∀{l m:List α},l.Perm m->l.Pairwise O.le->m.Pairwise O.le->l=m:=by
 intro l
 induction l with
 |nil=>intro m h _ _;exact h.nil_eq
 |cons a r ih =>
  intro m h h1 h2
  cases m with
  |nil=>exact absurd h.length_eq (by simp)
  |cons b t =>
   obtain⟨a1,a2⟩:=List.pairwise_cons.mp h1
   obtain⟨b1,b2⟩:=List.pairwise_cons.mp h2
   have e:a=b:=by
    rcases List.mem_cons.mp (h.mem_iff.mp List.mem_cons_self) with e|e
    ·exact e
    ·rcases List.mem_cons.mp (h.mem_iff.mpr List.mem_cons_self) with e'|e'
     ·exact e'.symm
     ·exact Ord.Qv (a1 b e') (b1 a e)
   subst e
   rw[ih h.cons_inv a2 b2]
end
end ST
namespace DI
open PySem L2
section
variable {X:Cx} {Ξ:Wd->bD->Prop} {a e tg:Expr} {p pos:Pos} {f:Env->aa->Res D} {fa:Env->aa->Res (List D)}
end
end DI
namespace L2
open PySem PySem.Spec PyProof.Rows
structure EZ (sc:Scope) (cl eZ:List (Str×Addr)) (C:Nat) (h:Heap):Prop where
 old:∀n c,eZ.lookup n=some c->(C<c/\(n,NameKind.cell)∈sc.names/\∃v,h.IsCell c v)\/cl.lookup n=some c
 own:∀n,sc.names.lookup n=some .cell\/(cl.lookup n).isSome=true->∃c,eZ.lookup n=some c
 inj:(∀x y c,cl.lookup x=some c->cl.lookup y=some c->x=y)->(∀x c,cl.lookup x=some c->c<C)->∀x y c,eZ.lookup x=some c->eZ.lookup y=some c->x=y
theorem xo {x:Str} {c:Addr}:∀(names:List (Str×NameKind)) (n:Nat) (acc:List (Str×Addr)),(cellsFrom n names acc).lookup x=some c->((x,NameKind.cell)∈names/\n<=c)\/acc.lookup x=some c
 | [],n,acc,h=>.inr h
 |(y,k)::r,n,acc,h=>by
  unfold cellsFrom at h
  split at h
  ·rename_i hk
   have hk:k=.cell:=by simpa using hk
   subst hk
   rcases xo r (n+1) _ h with ⟨h1,h2⟩|h1
   ·exact .inl ⟨List.mem_cons_of_mem _ h1,by omega⟩
   ·rw[List.lookup_cons] at h1
    split at h1
    ·rename_i e
     have e:x=y:=by simpa using e
     subst e
     cases h1
     exact .inl ⟨List.mem_cons_self,Nat.le_refl _⟩
    ·exact .inr h1
  ·rcases xo r n acc h with ⟨h1,h2⟩|h1
   ·exact .inl ⟨List.mem_cons_of_mem _ h1,h2⟩
   ·exact .inr h1
theorem xp:∀(names:List (Str×NameKind)) (n:Nat) (acc:List (Str×Addr)),(∀x y c,acc.lookup x=some c->acc.lookup y=some c->x=y)->(∀x c,acc.lookup x=some c->c<n)->∀x y c,(cellsFrom n names acc).lookup x=some c->(cellsFrom n names acc).lookup y=some c->x=y
 | [],n,acc,hi,hb=>hi
 |(z,k)::r,n,acc,hi,hb=>by
  unfold cellsFrom
  split
  ·refine xp r (n+1) _ (λx y c h1 h2=>?_) λx c h1=>?_
   ·rw[List.lookup_cons] at h1 h2
    split at h1
    ·rename_i e1
     split at h2
     ·rename_i e2
      exact(by simpa using e1:x=z).trans (by simpa using e2:y=z).symm
     ·cases h1
      exact absurd (hb y _ h2) (Nat.lt_irrefl _)
    ·split at h2
     ·cases h2
      exact absurd (hb x _ h1) (Nat.lt_irrefl _)
     ·exact hi x y c h1 h2
   ·rw[List.lookup_cons] at h1
    split at h1
    ·cases h1;exact Nat.lt_succ_self _
    ·exact Nat.lt_succ_of_lt (hb x c h1)
  ·exact xp r n acc hi hb
theorem xG {x:Str} {c:Addr} {lo:Nat}:∀(names:List (Str×NameKind)) (h:Heap) (acc:List (Str×Addr)),lo<=h.objs.size->(∀x c,acc.lookup x=some c->lo<=c->h.IsCell c none)->(cellsFrom h.objs.size names acc).lookup x=some c->lo<=c->(pushCells h names).IsCell c none
 | [],h,acc,_,ha,e,hl=>ha x c e hl
 |(z,k)::r,h,acc,GF,ha,e,hl=>by
  unfold cellsFrom at e
  unfold pushCells
  split at e
  ·rename_i hk
   rw[if_pos hk]
   have hz:(h.push { cls:=.type "cell",data:=.cell none }).objs.size=h.objs.size+1:=Heap.size_push ..
   refine xG (lo:=lo) r _ ((z,h.objs.size)::acc) (by omega) (λy d hy hd=>?_) (by rw[hz];exact e) hl
   rw[List.lookup_cons] at hy
   split at hy
   ·cases hy
    exact⟨_,Heap.get?_push_size _ rfl,rfl⟩
   ·exact(ha y d hy hd).keeps λb o q=>Heap.get?_push_of_some _ q
  ·rename_i hk
   rw[if_neg hk]
   exact xG r h acc GF ha e hl
theorem HS {M:Model} {A:Around} {E:Value->Shared->Prop} {s:Shared} {scope:Scope} {globals:Addr} {cl:List (Str×Addr)} {qual:Str} {env:Env} {bi:Addr} {Q:Env->Shared->Prop}
  (hQ:∀eZ h3,((∀x c,cl.lookup x=some c->c<s.heap.objs.size)->EZ scope cl eZ s.heap.objs.size h3)->h3.Ns s.heap.objs.size (λ_=>none)->(∀b o,s.heap.get? b=some o->h3.get? b=some o)->Q (newEnv scope s.heap.objs.size globals eZ qual none .none (some env) bi) { s with heap:=h3 }) :
  wpAny M A (newFunctionEnv scope globals cl [] qual none .none (some env) bi) Q E s:=by
 simp only[newFunctionEnv,Option.isSome_some,if_true]
 refine wpAny_bind (wpAny_alloc ?_)
 refine wpAny_bind (wpAny_layCells _ (λname kind cells=>by cases nZ:kind==NameKind.cell<;>simp[nZ]) _ _ _ _ ?_)
 rw[show ({ s with heap:=s.heap.push { cls:=.type "dict",data:=.dict #[] } }:Shared).heap.objs.size=s.heap.objs.size+1 from Heap.size_push ..]
 simp only[List.forIn_nil]
 refine wpAny_bind (wpAny_pure (wpAny_pure ?_))
 have hz:(s.heap.push { cls:=.type "dict",data:=.dict #[] }).objs.size=s.heap.objs.size+1:=Heap.size_push ..
 refine hQ (cellsFrom (s.heap.objs.size+1) scope.names cl) _ (λhb=>⟨λn c e=>?_,λn hn=>?_,λhi dC=>xp _ _ _ hi λx c e=>Nat.lt_succ_of_lt (dC x c e)⟩) ((Heap.Ns.new s.heap (.type "dict")).keeps (pushCells_keeps _ _)) λb o e=>pushCells_keeps _ _ b o (Heap.get?_push_of_some _ e)
 ·rcases xo _ _ _ e with ⟨h1,h2⟩|h1
  ·exact .inl ⟨by omega,h1,none,xG (lo:=s.heap.objs.size+1) scope.names _ cl (by omega) (λx d q hd=>absurd (hb x d q) (Nat.not_lt.mpr (Nat.le_of_succ_le hd))) (by rw[hz];exact e) h2⟩
  ·exact .inr h1
 ·exact Option.isSome_iff_exists.mp (PySem.W.cellsFrom_some scope.names _ cl hn)
noncomputable abbrev iR (X:Cx) (N:List Str) (sc:Scope) (cl:List (Str×Addr)) (C:Addr) (s:Shared) (H:Hp) (ex:List Addr) (pn:List (Addr×Obj)):Cx:={ fW X N sc cl C s H ex pn with fn:=λx=>sc.names.lookup x==some .cell }
structure qD (X:Cx) (sc:Scope) (N:List Str) (nt:Nat) (cap:List Nat):Prop where
 kind:sc.kind=.function
 names:∀x∈sc.names,x.2=.local->sc.names.lookup x.1=some .local
 cells:∀x∈sc.names,x.2=.cell->sc.names.lookup x.1=some .cell
 frees:∀x∈sc.names,x.2=.free->sc.names.lookup x.1=some .free/\(X.env.scope.names.lookup x.1=some .cell\/X.env.scope.names.lookup x.1=some .free)
 len:N.length=nt+cap.length
 zB:∀(k:Nat) j,cap[k]?=some j->∃x,X.N[j]?=some x/\N[nt+k]?=some x/\(x,NameKind.free)∈sc.names
section
variable {X:Cx} {sc:Scope} {N:List Str} {nt:Nat} {cap:List Nat} {cl eZ:List (Str×Addr)} {s:Shared} {h1:Heap} {H:Hp} {σ:St} {pins:List (Addr×Obj)} {fp:List Addr} {C:Addr} {t':Nat}
theorem Inv.OM (I:Inv X pins σ H s) (S:qD X sc N nt cap) (cD:∀n c,cl.lookup n=some c↔((n,NameKind.free)∈sc.names/\X.env.cells.lookup n=some c)) (fV:EZ sc cl eZ C h1) (hf:∀b∈fp,cj X pins H b) (ic:∀b∈fp,b<s.heap.objs.size)
  (hk:∀b o,s.heap.get? b=some o->h1.get? b=some o) (hC:s.heap.objs.size<=C) (pC:∃m,h1.Ns C m):Inv (iR X N sc eZ C s H fp (X.pn++pins)) [] (jJ nt cap σ) H { s with heap:=h1,toks:=t' }:=by
 have qL:∀b∈fu X.stack,b∈X.env.locals::X.fs:=I.kB
 have RY:∀x c,cl.lookup x=some c->c<s.heap.objs.size:=λx c e=>by
  obtain⟨v,o,ho,_⟩:=I.cell x c ((cD x c).mp e).2
  exact Heap.lt_size ho
 have yU:∀x,(relabel sc X.env).names.lookup x=some .cell\/(relabel sc X.env).names.lookup x=some .free->(x,NameKind.free)∈sc.names\/sc.names.lookup x=some .cell:=λx hx=>by
  rw[tM] at hx
  cases e:sc.names.lookup x with
  |none=>rw[e] at hx;rcases hx with z|z<;>cases z
  |some k =>
   have hm:(x,k)∈sc.names:=by
    obtain⟨l1,l2,e1,_⟩:=List.lookup_eq_some_iff.mp e
    rw[e1]
    simp
   rw[e] at hx
   cases k with
   |free=>exact .inl hm
   |cell=>exact .inr rfl
   |_=>exfalso;revert hx;simp
 have xV:∀x,(x,NameKind.free)∈sc.names->∃c,X.env.cells.lookup x=some c:=λx hx=>I.ok.has x (S.frees _ hx rfl).2
 have Gh:∀x c,(x,NameKind.free)∈sc.names->X.env.cells.lookup x=some c->eZ.lookup x=some c:=λx c hx hc=>by
  have e:=(cD x c).mpr ⟨hx,hc⟩
  obtain⟨d,hd⟩:=fV.own x (.inr (by rw[e];rfl))
  rcases fV.old x d hd with ⟨_,q,_⟩|q
  ·have z1:=S.cells _ q rfl
   have z2:=(S.frees _ hx rfl).1
   dsimp only at z1 z2
   rw[z1] at z2
   cases z2
  ·rw[e] at q
   cases q
   exact hd
 have ok:Cx.Ok (iR X N sc eZ C s H fp (X.pn++pins)):=by
  refine⟨I.ok.mod,?_,I.ok.glob,I.ok.blt,hC,?_,?_,?_,I.ok.hd,I.ok.frames,.inl rfl,?_,I.bs,Nat.le_trans I.ok.hZ I.sz,?_,?_,I.stack,I.xP⟩
  ·exact S.kind
  ·exact fV.inj (λx y c hx hy=>I.ok.inj x y c ((cD x c).mp hx).2 ((cD y c).mp hy).2) λx c e=>Nat.lt_of_lt_of_le (RY x c e) hC
  ·intro x hx
   rcases yU x hx with hm|hm
   ·obtain⟨c,e⟩:=xV x hm
    exact⟨c,Gh x c hm e⟩
   ·exact fV.own x (.inl hm)
  ·intro x c hx e
   rcases fV.old x c e with ⟨q,_,_⟩|q
   ·exact Nat.le_trans hC (Nat.le_of_lt q)
   ·have z2:=(S.frees _ ((cD x c).mp q).1 rfl).1
    have z1:sc.names.lookup x=some .cell:=by simpa using hx
    dsimp only at z2
    rw[z1] at z2
    cases z2
  ·intro b hb
   refine⟨Nat.ne_of_lt (Nat.lt_of_lt_of_le (ic b hb) hC),λx c e=>?_⟩
   rcases fV.old x c e with ⟨q,_,_⟩|q
   ·exact Nat.ne_of_gt (Nat.lt_of_lt_of_le (ic b hb) (Nat.le_trans hC (Nat.le_of_lt q)))
   ·exact(hf b hb).2.2.2.2.1 x c ((cD x c).mp q).2
  ·intro b o e hb
   rcases(hf b hb).2.2.2.1 with z|z
   ·exact I.ok.kL b o e z
   ·exact absurd (Nat.lt_of_lt_of_le (Heap.lt_size e) (Nat.le_trans I.ok.hZ z)) (Nat.lt_irrefl _)
  ·intro b hb z
   rcases List.mem_cons.mp (qL b z) with e|e
   ·exact(hf b hb).2.1 e
   ·exact(hf b hb).2.2.1 e
 obtain⟨m,hm⟩:=pC
 obtain⟨mX,SF,An⟩:=I.loc
 refine⟨ok,rfl,I.bare,Un.kept hk,⟨m,hm,λi x v e1 e2 e3=>?_⟩,λx c e=>?_,I.au.fresh hC,λx c e=>?_,λp hp=>?_,I.au.kept hk,?_⟩
 ·
  have hi:nt<=i:=by
   apply Nat.le_of_not_lt
   intro aU
   have:(jJ nt cap σ)[i]?=some none:=by
    unfold jJ
    rw[List.getElem?_append_left (by simpa using aU),List.getElem?_replicate,if_pos aU]
   rw[this] at e2
   cases e2
  have jv:(cap.map λj=>(σ[j]?).getD none)[i-nt]?=some (some v):=by
   have e:=e2
   unfold jJ at e
   rw[List.getElem?_append_right (by simpa using hi)] at e
   simpa using e
  rw[List.getElem?_map] at jv
  cases ej:cap[i-nt]? with
  |none=>rw[ej] at jv;cases jv
  |some j =>
   rw[ej] at jv
   have ev:(σ[j]?).getD none=some v:=Option.some.inj jv
   have sv:σ[j]?=some (some v):=by
    cases q:σ[j]? with
    |none=>rw[q] at ev;cases ev
    |some z=>rw[q] at ev;exact congrArg some ev
   obtain⟨y,f1,f2,f3⟩:=S.zB _ _ ej
   rw[Nat.add_sub_cancel' hi] at f2
   have Ao:y=x:=Option.some.inj (f2.symm.trans e1)
   subst Ao
   obtain⟨g1,g2⟩:=S.frees _ f3 rfl
   have Ap:nA X.env.scope y:=.inr g2
   obtain⟨u,r,l⟩:=An j y v f1 sv Ap
   refine⟨u,r,.inr ⟨?_,?_⟩⟩
   ·show (relabel sc X.env).names.lookup y=some .cell\/(relabel sc X.env).names.lookup y=some .free
    rw[tM,g1]
    simp only[Option.map_some]
    split
    ·exact .inl rfl
    ·exact .inr rfl
   ·rcases l with ⟨k,_⟩ | ⟨_,c,hc,lK⟩
    ·exfalso
     have k':X.env.scope.names.lookup y=some .local:=k
     dsimp only at g2
     rw[k'] at g2
     rcases g2 with z|z<;>cases z
    ·obtain⟨oc,ho,hd⟩:=lK
     exact⟨c,Gh y c f3 hc,oc,hk _ _ ho,hd⟩
 ·rcases fV.old x c e with ⟨_,_,q⟩|q
  ·exact q
  ·obtain⟨v,oc,ho,hd⟩:=I.cell x c ((cD x c).mp q).2
   exact⟨v,oc,hk _ _ ho,hd⟩
 ·rcases fV.old x c e with ⟨q,_,_⟩|q
  ·exact I.au.fresh (by omega)
  ·exact I.gM x c ((cD x c).mp q).2
 ·have sx:p∈X.pn++pins:=by simpa using hp
  obtain⟨e,n,ne,nf,d⟩:=I.pin p sx
  refine⟨hk _ _ e,n,Nat.ne_of_lt (Nat.lt_of_lt_of_le (Heap.lt_size e) hC),λz=>?_,d⟩
  rcases List.mem_cons.mp (qL p.1 z) with q|q
  ·exact ne q
  ·exact nf q
 ·unfold jJ
  rw[List.length_append,List.length_replicate,List.length_map]
  exact S.len.symm
end
section
variable {X:Cx}
theorem Jr {el tg src:Expr} {tests:List Expr} {sc:Scope} {ps:Pos} {N:List Str} {nt:Nat} {cap:List Nat} {wi:TI} {g:TG} {tf:TT} {te:TE} {p1:Pos} {use:Option (Value->Sem Unit)} {R:Value->Shared->Prop} {pins:List (Addr×Obj)} {s:Shared} {σ:St} {H:Hp} {Q:VK} (hc:X.calm=true) (S:qD X sc N nt cap) (fY:md g nt) (hi:PI X tg src wi)
  (hY:∀(cl:List (Str×Addr)) (C:Addr) (s:Shared) (H:Hp) (ex:List Addr) (pn:List (Addr×Obj)),PG (iR X N sc cl C s H ex pn) tg g/\PF (iR X N sc cl C s H ex pn) tests tf/\PE (iR X N sc cl C s H ex pn) el te)
  (hs:∀x,foldedSetIterable src X.env x=pure x) (I:Inv X pins σ H s) (h:qK wi nt cap g tf te σ H Q)
  (vU:∀(s':Shared) (H1:Hp) (D C:Addr) (m:Str->Option Value),(∀h',Heap.SameBut C s'.heap h'->Inv X pins σ H1 { s' with heap:=h' })->s'.heap.Ns C m->H1 C=none->C≠X.env.locals->C∉X.fs->X.cF.heap.objs.size<=C->(∀x c,X.env.cells.lookup x=some c->c≠C)->(∀p∈X.pn++pins,p.1≠C)->Q (.ref D) H1->compPost (model X.prog X.w) X.A X.xe use R (.ref D) C (.ok .next) s') :
  wpAny (model X.prog X.w) X.A (comprehension (.ListComp el [⟨tg,src,tests,0⟩] sc ps) sc X.env p1 (newList []) false (eval src X.env) use) R X.xe s:=by
 obtain⟨cl,qU,cD⟩:=yr (env:=X.env) (sc:=sc) λn hn=>I.ok.has n (S.frees _ hn rfl).2
 refine wpAny_comprehension_free (use:=use) rfl hs qU S.kind S.names (aA (hi pins s σ H _ I h) λxv s1 h1=>aA h1 λfT s2 h2=>?_)
 obtain⟨it,fp,tn,J,H2,e,I2,T,iK,f2,W,⟨m0,w0⟩,turn⟩:=h2
 subst e
 refine wpAny_newObj_type (HS λeZ h3 kR fq mj=>?_)
 dsimp only at kR fq mj |-
 generalize hD:s2.heap.objs.size=D at kR fq mj |-
 generalize hG:s2.heap.push { cls:=.type "list",dict:=none,data:=.seq ([]:List Value).toArray }=G at kR fq mj |-
 generalize AM:G.objs.size=C at kR fq mj |-
 have hC:C=D+1:=by rw[<- AM,<- hG,Heap.size_push,hD]
 have nV:D≠C:=by omega
 have eU:s2.heap.objs.size<=D:=Nat.le_of_eq hD
 have fM:s2.heap.objs.size<=C:=by omega
 have old:∀b o,s2.heap.get? b=some o->h3.get? b=some o:=λb o e=>mj b o (hG ▸ Heap.get?_push_of_some _ e)
 have jk:h3.PlainList D #[]:=⟨_,mj _ _ (hG ▸ hD ▸ Heap.get?_push_size _ rfl)⟩
 have ic:∀b∈fp,b<s2.heap.objs.size:=λb hb=>by
  obtain⟨o,e,_⟩:=T.obj _ _ iK b hb
  exact Heap.lt_size e
 have kR:=kR λx c e=>by
  obtain⟨v,o,ho,_⟩:=I2.cell x c ((cD x c).mp e).2
  exact Nat.lt_of_lt_of_le (Heap.lt_size ho) fM
 have IB:=I2.OM (t':=s2.toks) S cD kR f2 ic old fM ⟨_,fq⟩
 have AN:D∉fu X.stack:=λz=>by
  rcases List.mem_cons.mp (I2.kB D z) with e|e
  ·exact absurd (Nat.lt_of_lt_of_le I2.lt eU) (by rw[e];exact Nat.lt_irrefl _)
  ·exact I2.rf eU e
 have lb:D∉fp:=λz=>absurd (Nat.lt_of_lt_of_le (ic D z) eU) (Nat.lt_irrefl _)
 have yz:∀x c,eZ.lookup x=some c->c≠D:=λx c e z=>by
  rcases kR.old x c e with ⟨q,_,_⟩|e
  ·rw[z] at q
   exact absurd q (by rw[hC];exact Nat.not_lt.mpr (Nat.le_succ D))
  ·obtain⟨v,o,ho,_⟩:=I2.cell x c ((cD x c).mp e).2
   exact absurd (Nat.lt_of_lt_of_le (Heap.lt_size ho) (by rw[z];exact eU)) (Nat.lt_irrefl _)
 have yZ:∀p∈X.pn++pins,p.1≠D:=λp hp z=>absurd (Nat.lt_of_lt_of_le (Heap.lt_size (I2.pin p hp).1) (by rw[z];exact eU)) (Nat.lt_irrefl _)
 generalize fb:iR X N sc eZ C s2 H2 fp (X.pn++pins)=Y at IB
 have lg:∀{H':Hp} {pl:List (Addr×Obj)},(∀b∈fp,H' b=none)->(∀p∈pl,p.1∉fp)->∀b∈fp,cj Y pl H' b:=λ{H' pl} hn hp b hb=>by
  subst fb
  obtain⟨_,f1,nR,f3,f4,f5⟩:=f2 b hb
  refine⟨hn b hb,Nat.ne_of_lt (Nat.lt_of_lt_of_le (ic b hb) fM),λz=>?_,.inl hb,λx c e=>(kR.old x c e).elim (λq z=>Nat.ne_of_gt (Nat.lt_of_lt_of_le (ic b hb) (Nat.le_trans fM (Nat.le_of_lt q.1))) z) λe=>f4 x c ((cD x c).mp e).2,λp sJ=>?_⟩
  ·rcases List.mem_cons.mp (I2.kB b z) with e|e
   ·exact f1 e
   ·exact nR e
  ·rcases List.mem_append.mp sJ with z|z
   ·exact f5 p z
   ·exact λe=>hp p z (e ▸ hb)
 have AO:PG Y tg g:=by subst fb;exact(hY _ _ _ _ _ _).1
 have AQ:PF Y tests tf:=by subst fb;exact(hY _ _ _ _ _ _).2.1
 have TH:PE Y el te:=by subst fb;exact(hY _ _ _ _ _ _).2.2
 have eP:Y.prog=X.prog:=by subst fb;rfl
 have eW:Y.w=X.w:=by subst fb;rfl
 have eA:Y.A=X.A:=by subst fb;rfl
 have eK:Y.K=X.K:=by subst fb;rfl
 have eE:Y.env=compEnvC sc eZ C X.env:=by subst fb;rfl
 have eX:Y.xe=λ_ _=>False:=by subst fb;rfl
 have eC:Y.calm=true:=by subst fb;exact hc
 have eS:Y.cF.heap.objs.size<=D:=by subst fb;exact eU
 have eF:D∉Y.fs:=by subst fb;exact AN
 have eL:D≠Y.env.locals:=by subst fb;exact nV
 have TJ:∀x c,Y.env.cells.lookup x=some c->c≠D:=by subst fb;exact yz
 have eN:∀p∈Y.pn,p.1≠D:=by subst fb;exact yZ
 have fin:∀(s':Shared) (τ:St) (H':Hp) (acc:List V) (ys:Array Value),Inv Y [] τ H' s'->s'.heap.PlainList D ys->Vals acc ys.toList->H' D=none->acc.length<=sizeLine->(∀D,H' D=none->Q (.ref D) (upd H' D (.lst acc))) ->
   compPost (model X.prog X.w) X.A X.xe use R (.ref D) C (.ok .next) s':=by
  intro s' τ H' acc ys I' pl rv hn hz q
  subst fb
  obtain⟨m,hm,_⟩:=id I'.loc
  refine vU s' (upd H' D (.lst acc)) D C m (λh' sb=>?_) hm ?_ (λz=>absurd (Nat.lt_of_lt_of_le I2.lt fM) (by rw[z];exact Nat.lt_irrefl _)) (I2.rf fM) (Nat.le_trans I2.sz fM) (λx c e z=>?_) (λp hp z=>absurd (Nat.lt_of_lt_of_le (Heap.lt_size (I2.pin p hp).1) (by rw[z];exact fM)) (Nat.lt_irrefl _)) (q D hn)
  ·have zT:bK X.prog X.w H' h':=I'.au.but I'.free sb
   obtain⟨n,ho⟩:=pl
   have dP:h'.get? D=some { cls:=.type "list",data:=.seq ys n }:=(sb.2 D nV).trans ho
   have new:cb X.prog X.w (upd H' D (.lst acc)) h' D (.lst acc):=⟨hz,ys.toList,n,rv,by simpa using dP⟩
   have u:=(I'.base.but fM sb).adopt (o:=.lst acc) eU hn
   refine I2.yO (s':={ s' with heap:=h' }) (ch:=fp) I'.os u (zT.adopt hn new) I'.bare (λb hb=>?_)
   obtain⟨_,f1,_,f3,f4,f5⟩:=f2 b hb
   exact⟨f3,f1,f4,f5⟩
  ·rw[bc (Ne.symm nV)]
   exact I'.free
  ·obtain⟨v,o,iM,_⟩:=I2.cell x c e
   exact absurd (Nat.lt_of_lt_of_le (Heap.lt_size iM) (by rw[z];exact fM)) (Nat.lt_irrefl _)
 have loop:codeAny (model X.prog X.w) X.A (.compLoop (.ListComp el [⟨tg,src,tests,0⟩] sc ps) 0 (.ref it) (.ref D) (compEnvC sc eZ C X.env)) (compPost (model X.prog X.w) X.A X.xe use R (.ref D) C)
   { s2 with heap:=h3 }:=by
  refine IZ (λn s'=>∃i acc o H' ys,Inv Y [] (o++lL cap σ) H' s'/\o.length=nt/\tn i s'.heap/\(∀b∈fp,H' b=none)/\s'.heap.PlainList D ys/\Vals acc ys.toList/\H' D=none/\W i n acc H') ?_ m0
   ⟨0,[],List.replicate nt none,H2,#[],IB,by simp,T.keep _ _ _ iK λb _ o e=>old b o e,λb hb=>(f2 b hb).1,jk,.nil,I2.au.fresh eU,w0⟩
  rintro n s3 ⟨i,acc,o3,H3,ys,I3,GZ,jq,l7,TK,mv,TL,w3⟩
  generalize TM:o3++lL cap σ=τ at I3
  obtain⟨nn,ho⟩:=id TK
  generalize G0:({ cls:=.type "list",data:=.seq ys nn }:Obj)=oD at ho
  have Qw:∀v,oD.data≠.cell v:=λv z=>by subst G0;cases z
  have sL:Inv Y [(D,oD)] τ H3 s3:=I3.jG λp hp=>by
   have e:p=(D,oD):=by simpa using hp
   subst e
   exact⟨ho,TL,eL,eF,Qw⟩
  have nU:∀p∈[(D,oD)],p.1∉fp:=λp hp=>by
   have e:p=(D,oD):=by simpa using hp
   subst e
   exact lb
  have pR:∀{pl:List (Addr×Obj)} {cw:St} {H':Hp} {s':Shared},Inv Y ([(D,oD)]++pl) cw H' s'->s'.heap.PlainList D ys/\H' D=none:=λ{pl cw H' s'} I'=>by
   have q:=I'.pin (D,oD) (List.mem_append_right _ (List.mem_append_left _ (by simp)))
   exact⟨⟨nn,by rw[G0];exact q.1⟩,q.2.1⟩
  rcases turn i n acc H3 w3 with ⟨stop,hz,q⟩ | ⟨go,hz,N',hN,step⟩
  ·have hd:=T.done Y eP eW eK eC i [(D,oD)] s3 τ H3 (λ_ _=>False) sL (lg l7 nU) jq stop
   rw[eA] at hd
   refine aA hd λr s4 h4=>?_
   obtain⟨hr,I4⟩:=h4
   subst hr
   obtain⟨AK,n4⟩:=pR (pl:=[]) (by simpa using I4)
   exact fin s4 τ H3 acc ys (Inv.ij (pins:=[]) I4) AK mv n4 hz q
  ·have hd:=T.item Y eP eW eK eC i [(D,oD)] s3 τ H3 (λ_ _=>False) sL (lg l7 nU) jq go
   rw[eA] at hd
   refine aA hd λr s4 h4=>?_
   obtain⟨u,hr,h4⟩:=h4
   subst hr
   refine aA h4 λ_ s5 h5=>?_
   obtain⟨x,H5,I5,r5,y5,jr,r9⟩:=h5
   have sd:=I5.pinned (lg r9 nU) (T.obj _ _ jr)
   have q5:=AO _ s5 τ H5 x u _ sd r5 (TM ▸ fY x o3 _ H5 _ GZ (step o3 x H5 GZ y5))
   rw[eP,eW,eA,eE,eX] at q5
   refine aA q5 λ_ s6 h6=>?_
   obtain⟨pT,H6,I6,⟨o6,sM,vO⟩,q6⟩:=h6
   have q7:=AQ _ s6 pT H6 _ I6 q6
   rw[eP,eW,eA,eE,eX] at q7
   refine aA q7 λb s7 h7=>?_
   obtain⟨H7,I7,q7⟩:=h7
   have rJ:∀{cw:St} {H':Hp} {s':Shared},Inv Y ([(D,oD)]++lG fp s5.heap) cw H' s'->tn (i+1) s'.heap/\∀b∈fp,H' b=none:=λ{cw H' s'} I'=>by
    refine⟨T.keep _ _ _ jr λb hb o e=>(I'.pin (b,o) (List.mem_append_right _ (List.mem_append_right _ (n9 hb e)))).1,λb hb=>?_⟩
    obtain⟨o,e,_⟩:=T.obj _ _ jr b hb
    exact(I'.pin (b,o) (List.mem_append_right _ (List.mem_append_right _ (n9 hb e)))).2.1
   cases b with
   |false =>
    rw[if_neg Bool.false_ne_true] at q7 |-
    obtain⟨m',hm,w7⟩:=hN _ _ q7
    obtain⟨wI,n7⟩:=pR I7
    obtain⟨t7,f7⟩:=rJ I7
    exact⟨m',hm,i+1,acc,o6,H7,ys,vO ▸ I7.jG (λp hp=>by simp at hp),sM,t7,f7,wI,mv,n7,w7⟩
   |true =>
    rw[if_pos rfl] at q7 |-
    have q8:=TH _ s7 pT H7 _ I7 q7
    rw[eP,eW,eA,eE,eX] at q8
    refine aA q8 λy s8 h8=>?_
    obtain⟨v,H8,I8,r8,q9⟩:=h8
    obtain⟨m',hm,w8⟩:=hN _ _ q9
    obtain⟨AG,n8⟩:=pR I8
    obtain⟨t8,f8⟩:=rJ I8
    have AH:ys.size<=sizeLine:=by
     have e:=mv.length
     simp only[Array.length_toList] at e
     omega
    refine wpAny_list_append_plain (hsz:=AH) AG λh9 AI wH=>?_
    have AJ:Inv Y [] pT H8 s8:=I8.jG (λp hp=>by simp at hp)
    have I9:Inv Y [] pT H8 { s8 with heap:=h9,toks:=s8.toks }:=AJ.turned (it:=D) (λb o hb e=>(wH.2 b hb).trans e) n8 eL (.inr eS) TJ (λp hp=>eN p (by simpa using hp))
    refine⟨m',hm,i+1,acc++[v],o6,H8,ys.push y,vO ▸ I9,sM,T.keep _ _ _ t8 λb hb o e=>(wH.2 b (λz=>lb (z ▸ hb))).trans e,f8,AI,?_,n8,w8⟩
    rw[Array.toList_push]
    exact Vals.append mv (.cons r8 .nil)
 exact codeAny_compStart_list loop (T.self _ _ _ _ _ (T.keep _ _ _ iK λb _ o e=>old b o e) loop)
theorem Lz {el tg src:Expr} {tests:List Expr} {sc:Scope} {ps:Pos} {N:List Str} {nt:Nat} {cap:List Nat} {wi:TI} {g:TG} {tf:TT} {te:TE} (hc:X.calm=true) (S:qD X sc N nt cap) (fY:md g nt) (hi:PI X tg src wi)
  (hY:∀(cl:List (Str×Addr)) (C:Addr) (s:Shared) (H:Hp) (ex:List Addr) (pn:List (Addr×Obj)),PG (iR X N sc cl C s H ex pn) tg g/\PF (iR X N sc cl C s H ex pn) tests tf/\PE (iR X N sc cl C s H ex pn) el te)
  (hs:∀x,foldedSetIterable src X.env x=pure x:=by intro _;rfl):PE X (.ListComp el [⟨tg,src,tests,0⟩] sc ps) (qK wi nt cap g tf te):=by
 intro pins s σ H Q I h
 rw[eval_ListComp]
 exact Jr (use:=none) hc S fY hi hY hs I h λs' H1 D C m IX hm _ _ _ _ _ _ q=>⟨m,hm,λh' sb=>⟨.ref D,H1,IX h' sb,rfl,q⟩⟩
end
end L2
namespace L2
open PySem
noncomputable def E2 (sc:Scope) (on:List (Str×NameKind)) (oN N:List Str) (nt:Nat) (cap:List Nat):Bool :=
 decide (sc.kind=.function)&&sc.names.all (λx=>decide (x.2=.local->sc.names.lookup x.1=some .local))&&sc.names.all (λx=>decide (x.2=.cell->sc.names.lookup x.1=some .cell)) &&
 sc.names.all (λx=>decide (x.2=.free->sc.names.lookup x.1=some .free/\(on.lookup x.1=some .cell\/on.lookup x.1=some .free)))&&decide (N.length=nt+cap.length) &&
 (List.range cap.length).all (λk=>match cap[k]? with
  |some j=>match oN[j]? with
   |some x=>decide (N[nt+k]?=some x)&&decide ((x,NameKind.free)∈sc.names)
   |none=>false
  |none=>true)
theorem eO {X:Cx} {sc:Scope} {N:List Str} {nt:Nat} {cap:List Nat} (h:E2 sc X.env.scope.names X.N N nt cap=true):qD X sc N nt cap:=by
 unfold E2 at h
 simp only[Bool.and_eq_true,List.all_eq_true,decide_eq_true_eq] at h
 obtain⟨⟨⟨⟨⟨h1,h2⟩,h3⟩,h4⟩,h5⟩,h6⟩:=h
 refine⟨h1,h2,h3,λx hx e=>h4 x hx e,h5,λk j e=>?_⟩
 have hk:k<cap.length:=(List.getElem?_eq_some_iff.mp e).1
 have:=h6 k (List.mem_range.mpr hk)
 rw[e] at this
 dsimp only at this
 cases ex:X.N[j]? with
 |none=>rw[ex] at this;cases this
 |some x =>
  rw[ex] at this
  simp only[Bool.and_eq_true,decide_eq_true_eq] at this
  exact⟨x,rfl,this.1,this.2⟩
end L2
namespace DI
open PySem L2
section
variable {X:Cx} {Ξ:Wd->bD->Prop} {e a b c tg el src:Expr} {es rest tests:List Expr} {pos:Pos} {f g h:Env->aa->Res D} {fa:Env->aa->Res (List D)} {ft gt:Env->aa->Res Bool}
theorem eD {sc:Scope} {ps:Pos} {N:List Str} {nt:Nat} {cap:List Nat} {it:Env->aa->Res (List D)} {gd:D->Env->Option Env} {g0:TG} (hc:X.calm=true) (S:qD X sc N nt cap) (T:Tg X.K g0 gd nt) (hi:PI X tg src (gC X.K Ξ it))
  (hY:∀(cl:List (Str×Addr)) (C:Addr) (s:Shared) (H:Hp) (ex:List Addr) (pn:List (Addr×Obj)),PG (iR X N sc cl C s H ex pn) tg g0/\PF (iR X N sc cl C s H ex pn) tests (tT X.K dw ft)/\PE (iR X N sc cl C s H ex pn) el (tE X.K dw f))
  (hs:∀x,foldedSetIterable src X.env x=pure x:=by intro _;rfl):PE X (.ListComp el [⟨tg,src,tests,0⟩] sc ps) (tE X.K Ξ (cL nt cap it gd ft f)) :=
 b9 (Lz hc S T.pQ hi hY hs) fun σ H Q h=>Jm T.imp (λR R' i h=>Lo R R' i h) (Ll σ H Q h)
end
end DI
namespace L2
open PySem PySem.Spec PyProof.Rows
section
variable {X:Cx} {tg:Expr}
end
end L2
namespace DI
open PySem L2
section
variable {X:Cx} {Ξ:Wd->bD->Prop} {a b c tg:Expr} {pos:Pos} {fa:Env->aa->Res (List D)}
end
end DI
namespace L2
open PySem PySem.Spec PyProof.Rows
section
variable {X:Cx}
theorem xh:∀(ys:List Value) (k:Nat),(∀(i:Nat) (v:Value),ys[i]?=some v->∃t,v=Value.int (0+((k+i:Nat):Int)*1) t)->Vals ((List.range' k ys.length).map λi:Nat=>V.int (0+(i:Int))) ys
 | [],k,_=>.nil
 |y::ys,k,h=>by
  rw[List.length_cons,List.range'_succ,List.map_cons]
  refine .cons ?_ (xh ys (k+1) λi v e=>?_)
  ·obtain⟨t,e⟩:=h 0 y rfl
   rw[e]
   exact⟨t,by rw[Int.mul_one];rfl⟩
  ·obtain⟨t,e⟩:=h (i+1) v (by simpa using e)
   exact⟨t,by rw[e,show k+(i+1)=k+1+i by omega]⟩
theorem Js (hc:X.calm=true):bP X (.type "list") (λxs H Q=>∃(p:Addr) (n:Nat),xs=[.ref p]/\H p=some (.bF 0 n)/\n<=1000000/\∀q,H q=none->Q (.ref q) (upd H q (.lst ((List.range n).map λi:Nat=>V.int (0+(i:Int)))))):=by
 intro pins s σ H xs us Q I r h
 obtain⟨p,n,rfl,hp,hn,q⟩:=h
 obtain⟨u,rfl,ru⟩:=vals1 r
 cases ru
 obtain⟨t1,t2,t3,hr⟩:=I.au p _ hp
 refine call_list_range (I.ok.hd hc) hr (small_one (by omega) (by omega) (by omega) (by omega)) (n:=n) ?_ (by omega) λh' tk dN c' hk hS hit=>?_
 ·rw[rangeSize_one]
  split<;>omega
 ·obtain⟨hsz,hit⟩:=hit
  have rv:=xh dN.toList 0 λi v e=>by
   obtain⟨t,e⟩:=hit i v (by simpa using e)
   exact⟨t,by rw[e,Nat.zero_add]⟩
  rw[Array.length_toList,hsz,<- List.range_eq_range'] at rv
  refine⟨.ref _,_,I.laid (o:=.lst ((List.range n).map λi:Nat=>V.int (0+(i:Int)))) (t':=tk) hk (Nat.le_refl _) ⟨?_,dN.toList,c',rv,by simpa using hS⟩,rfl,q _ (I.au.fresh (Nat.le_refl _))⟩
  rw[List.length_map,List.length_range]
  exact Nat.le_trans hn (by decide)
end
end L2
namespace DI
open PySem L2
section
variable {X:Cx} {Ξ:Wd->bD->Prop} {a:Expr} {p pos:Pos} {fa:Env->aa->Res (List D)}
noncomputable def qE (ds:List D) (s:aa):Res D:=match ds with
 | [.int j]=>if (decide (0<=j)&&decide (j<=1000000))=true then ok (.lst (bF 0 j.toNat)) s else none
 |_=>none
theorem Eb {K:Frag} {w:Wd} (n:Nat):ao K w (bF 0 n) ((List.range n).map λi:Nat=>V.int (0+(i:Int))):=by
 have:bF 0 n=((List.range n).map λi:Nat=>(0:Int)+(i:Int)).map D.int:=by
  unfold bF
  rw[List.map_map]
  rfl
 rw[this,show ((List.range n).map λi:Nat=>V.int (0+(i:Int)))=((List.range n).map λi:Nat=>(0:Int)+(i:Int)).map V.int by rw[List.map_map];rfl]
 exact ao.ints _
theorem Ec {p2 gA:Pos} (ha:PA X [a] (tA X.K Ξ fa)) (hc:X.calm=true) (hg:Gl X "list") (hm:X.mg "list"=none) (jx:Gl X "range") (nP:X.mg "range"=none)
  (he:starEach [a] X.env=(false,eval a X.env)::starEach [] X.env:=by rfl) (bX:(backTo gA (starEach [] X.env)).any (·.1)=false:=by rfl)
  (mr:starEach [.Call (.Name "range" p2) [a] [] gA] X.env=(false,eval (.Call (.Name "range" p2) [a] [] gA) X.env)::starEach [] X.env:=by rfl) (rG:(backTo pos (starEach [] X.env)).any (·.1)=false:=by rfl) :
  PE X (.Call (.Name "list" p) [.Call (.Name "range" p2) [a] [] gA] [] pos) (tE X.K Ξ (eB qE fa)) :=
 b9 (oh (Js hc) hg hm (by decide +kernel) (iU (oh Cj jx nP (by decide +kernel) ha (by decide) (by decide) he bX) kC mr) (by decide) (by decide) mr rG) fun σ H Q aw=>by
  obtain⟨w,env,eH,S,eo,h⟩:=aw
  subst eH
  refine⟨w,env,rfl,S,eo,(Out.ak h).mono λw1 ds l1 S1 h1 vs aq=>?_⟩
  unfold qE at h1
  split at h1
  ·rename_i j
   split at h1
   ·rename_i hj
    simp only[Bool.and_eq_true,decide_eq_true_eq] at hj
    obtain⟨v,r,rfl,dv,dr⟩:=aq
    have e1:v=.int j:=dv
    have e2:r=[]:=dr
    subst e1 e2
    refine⟨j,rfl,λq hq=>⟨q,j.toNat,rfl,by rw[ck,Int.toNat_of_nonneg hj.1],by omega,λl hl=>?_⟩⟩
    have kW:(w1.grow q (.bF 0 j)).H l=none:=hl
    have S2:=S1.grow (o:=.bF 0 j) hq
    exact h1 ((w1.grow q (.bF 0 j)).grow l (.lst ((List.range j.toNat).map λi:Nat=>V.int (0+(i:Int))))) ((Fw.grow hq).le.trans (Fw.grow kW).le) (S2.grow kW) rfl (.ref l) ⟨l,_,rfl,⟨(show ¬ (w1.grow q (.bF 0 j)).Z l from lH S2 kW),ck⟩,Eb _⟩
   ·exact h1.elim
  ·exact h1.elim
end
end DI
namespace DI
open PySem L2
section
variable {X:Cx} {Ξ:Wd->bD->Prop} {a:Expr} {p pos:Pos} {f g:Env->aa->Res D} {fa:Env->aa->Res (List D)}
theorem ao.erase {K:Frag} {w:Wd}:∀{ds:List D} {xs:List V} (j:Nat),ao K w ds xs->ao K w (ds.eraseIdx j) (xs.eraseIdx j)
 | [],xs,j,h=>by
  have e:xs=[]:=h
  subst e
  exact h
 |d::ds,xs,0,h=>by
  obtain⟨v,r,rfl,_,dr⟩:=h
  exact dr
 |d::ds,xs,j+1,h=>by
  obtain⟨v,r,rfl,dv,dr⟩:=h
  exact⟨v,r.eraseIdx j,rfl,dv,ao.erase j dr⟩
end
end DI
namespace DI
open PySem L2 HT PyProof.Rows
section
variable {X:Cx} {Ξ:Wd->bD->Prop}
theorem LA {K:Frag} {w:Wd} {ns:List Int} {xs:List V} {us:List Value} (h:ao K w (ns.map D.int) xs) (r:Vals xs us):IntsAre us ns:=by
 induction ns generalizing xs us with
 |nil =>
  have e:xs=[]:=h
  subst e
  cases r
  exact .nil
 |cons n ns ih =>
  obtain⟨v,t,rfl,dv,h⟩:=h
  cases dv
  cases r with
  |cons a r =>
   obtain⟨t,rfl⟩:=a
   exact .cons n t (ih h r)
end
end DI
namespace ST
open PySem PySem.Spec PyProof.Rows
section
variable {prog:Program} {w:World} {A:Around} {E:Value->Shared->Prop} {s:Shared}
theorem sorted_ints {l:Addr} {us:List Value} {ns:List Int} {Q:Value->Shared->Prop} (hl:s.heap.IsList l us.toArray) (hI:IntsAre us ns) (hz:us.length<64)
  (hQ:∀h' b (out:List Value) (ms:List Int) e,(∀c o,s.heap.get? c=some o->h'.get? c=some o)->s.heap.objs.size<=b->h'.get? b=some { cls:=.type "list",data:=.seq out.toArray e }->IntsAre out ms->ms.Perm ns->ms.Pairwise (·<=·)->Q (.ref b) { s with heap:=h' }) :
  wpAny (model prog w) A (call (.builtin "sorted") [.ref l]) Q E s:=by
 have line:us.length<=sizeLine:=by rw[sizeLine_eq];omega
 refine Calls.call_function_entry kind_sorted plain_sorted entry_sorted (args_sorted1 _) ?_
 unfold Builtin.«sorted»
 refine wpAny_bind (m:=checkCount "sorted" 1 1 _) (wpAny_pure (wpAny_bind (collect_list hl (wpAny_bind (wpAny_newList ?_ line)) line)))
 generalize hg:((s.heap.push (seqObj "list" #[] 0)).update s.heap.objs.size (Obj.mapSeq (·++us.toArray)))=h1
 have wC:h1.objs.size=s.heap.objs.size+1:=by rw[<- hg,Heap.size_update,size_push']
 have zJ:∀c o,s.heap.get? c=some o->h1.get? c=some o:=λc o e=>by
  have aU:c<s.heap.objs.size:=Heap.lt_size e
  rw[<- hg,Heap.get?_update_ne _ _ _ _ (Nat.ne_of_lt aU)]
  exact Heap.get?_push_of_some _ e
 show wpAny _ _ _ _ _ { s with heap:=h1.push (seqObj "list" us.toArray 0) }
 have hb:(h1.push (seqObj "list" us.toArray 0)).get? h1.objs.size=some (seqObj "list" us.toArray 0):=Heap.get?_push_size _ rfl
 refine wpAny_bind (wpAny_holding (wpAny_call_entry slot_list_sort ⟨_,hb,rfl⟩ entry_list_sort (list_sort_tree hb hI hz λout ms a1 a2 a3=>⟨_,rfl,?_⟩) (args_list_sort _)))
 obtain⟨e,he⟩:=sortedHeap_at (out:=out) hb
 refine wpAny_pure ⟨_,rfl,hQ _ h1.objs.size out.toList ms e (λc o hc=>?_) (by rw[wC];exact Nat.le_succ _) (by simpa [seqObj] using he) a1 a2 a3⟩
 have dC:=zJ c o hc
 have aU:=Heap.lt_size dC
 rw[sortedHeap_old (Nat.ne_of_lt aU) (by rw[size_push'];exact Nat.lt_succ_of_lt aU)]
 exact Heap.get?_push_of_some _ dC
end
end ST
namespace DI
open PySem L2
noncomputable def qF (ds:List D) (s:aa):Res D:=match ds with
 | [d]=>match res d s with
  | .lst xs=>if xs.length<64 then bE ((jb xs).map λns=>.lst ((ST.jP ST.lX ns).map D.int)) s else none
  |_=>none
 |_=>none
section
variable {X:Cx} {Ξ:Wd->bD->Prop}
theorem Ed {k:Nat} (hr:bV k X.A):bP X (.builtin "sorted") (rC X.K Ξ qF):=by
 rintro pins s σ H xs us Q I r ⟨w,ds,rfl,S,aq,h⟩
 unfold qF at h
 split at h
 ·obtain⟨v,rfl,dv⟩:=lI aq
  split at h
  ·rename_i es e1
   obtain⟨a,xs,rfl,ha,aq⟩:=gf S dv e1
   split at h
   ·rename_i hz
    obtain⟨d',e2,h⟩:=dH h
    obtain⟨u,rfl,ru⟩:=vals1 r
    cases ru
    obtain⟨its,r1,pl,hx⟩:=I.list (bx.of ha)
    have hl:its.length=es.length:=r1.length.symm.trans aq.length.symm
    cases hn:jb es with
    |none=>rw[hn] at e2;cases e2
    |some ns =>
     rw[hn] at e2
     cases e2
     have en:=xD hn
     refine ST.sorted_ints pl.isList (LA (en ▸ aq) r1) (by omega) λh' b out ms e ho hb hg hI hp hu=>?_
     have em:ms=ST.jP ST.lX ns:=ST.Ka (O:=ST.lX) (hp.trans (ST.Jq ns).symm) (hu.imp λ{x y} z=>(decide_eq_false (by omega):decide (y<x)=false)) (ST.Ly ns)
     subst em
     have k9:=I.au.fresh hb
     refine⟨.ref b,_,I.laid (o:=.lst ((ST.jP ST.lX ns).map V.int)) (t':=s.toks) ho hb ⟨?_,out,e,w9 hI,hg⟩,rfl,?_⟩
     ·rw[List.length_map,hp.length_eq,sizeLine_eq]
      have:ns.length=es.length:=by rw[en,List.length_map]
      omega
     ·exact oY S (ao.ints _) h b k9
   ·exact h.elim
  ·exact h.elim
 ·exact h.elim
end
end DI
namespace DI
open PySem L2
noncomputable def keyOf:D->Option Key
 | .int i=>some (.inl i)
 | .str x=>some (.inr x)
 |_=>none
noncomputable def fO (ai:List (Key×D)) (k:Key):Option D:=match ai with
 | []=>none
 |p::r=>if p.1=k then some p.2 else fO r k
noncomputable def eV (ai:List (Key×D)) (k:Key) (v:D):List (Key×D) :=
 if (ai.any λp=>decide (p.1=k))=true then ai.map (λp=>if p.1=k then (p.1,v) else p) else ai++[(k,v)]
noncomputable def jY (d:D) (s:aa):Option (List (Key×D)):=match d with
 | .ar k=>match s[k]? with
  |some (.dK ai)=>some ai
  |_=>none
 |_=>none
def gG (K:Frag) (w:Wd) (ai:List (Key×D)) (es:List (Key×V)):Prop:=es.map (·.1)=ai.map (·.1)/\ao K w (ai.map (·.2)) (es.map (·.2))
theorem xH {K:Frag} {w:Wd} {p:Key×D} {ai:List (Key×D)} {es:List (Key×V)} (h:gG K w (p::ai) es):∃v r,es=(p.1,v)::r/\DV K w p.2 v/\gG K w ai r:=by
 obtain⟨h1,h2⟩:=h
 cases es with
 |nil=>cases h1
 |cons e r =>
  obtain⟨v,r',e1,dv,dr⟩:=h2
  rw[List.map_cons] at e1
  injection e1 with a b
  rw[List.map_cons,List.map_cons] at h1
  injection h1 with c d
  exact⟨v,r,by rw[<- c,<- a],dv,d,b ▸ dr⟩
theorem ye {K:Frag} {w:Wd} {k:Key} {ai:List (Key×D)}:∀{es:List (Key×V)},gG K w ai es->(∀d,fO ai k=some d->∃v,gX es k=some v/\DV K w d v)/\(gX es k).isSome=(fO ai k).isSome:=by
 induction ai with
 |nil =>
  intro es h
  have e:es=[]:=by have:=h.1;simpa using this
  subst e
  exact⟨λd z=>(by cases z),rfl⟩
 |cons p r ih =>
  intro es h
  obtain⟨v,t,rfl,dv,hr⟩:=xH h
  unfold fO
  by_cases e:p.1=k
  ·rw[if_pos e,uA e]
   exact⟨λd z=>⟨v,rfl,by cases z;exact dv⟩,rfl⟩
  ·rw[if_neg e,uB e]
   exact ih hr
theorem MY {K:Frag} {w:Wd} {k:Key} {ai:List (Key×D)} {es:List (Key×V)} (h:gG K w ai es):(es.any λp=>decide (p.1=k))=ai.any λp=>decide (p.1=k):=by
 have e:∀{α:Type} (l:List (Key×α)),(l.any λp=>decide (p.1=k))=(l.map (·.1)).any λx=>decide (x=k):=λl=>by rw[List.any_map];rfl
 rw[e es,e ai,h.1]
theorem MZ {K:Frag} {w:Wd} {k:Key} {v:D} {u:V} (du:DV K w v u) {ai:List (Key×D)}:∀{es:List (Key×V)},gG K w ai es->gG K w (ai.map λp=>if p.1=k then (p.1,v) else p) (es.map λp=>if p.1=k then (p.1,u) else p):=by
 induction ai with
 |nil =>
  intro es h
  have e:es=[]:=by have:=h.1;simpa using this
  subst e
  exact⟨rfl,rfl⟩
 |cons p r ih =>
  intro es h
  obtain⟨x,t,rfl,dv,hr⟩:=xH h
  obtain⟨i1,i2⟩:=ih hr
  rw[List.map_cons,List.map_cons]
  by_cases e:p.1=k
  ·rw[if_pos e,if_pos e]
   exact⟨by rw[List.map_cons,List.map_cons,i1],⟨u,_,rfl,du,i2⟩⟩
  ·rw[if_neg e,if_neg e]
   exact⟨by rw[List.map_cons,List.map_cons,i1],⟨x,_,rfl,dv,i2⟩⟩
theorem Ee {K:Frag} {w:Wd} {k:Key} {v:D} {u:V} (du:DV K w v u) {ai:List (Key×D)} {es:List (Key×V)} (h:gG K w ai es):gG K w (eV ai k v) (putK es k u):=by
 unfold eV putK
 rw[MY h]
 split
 ·exact MZ du h
 ·refine⟨by rw[List.map_append,List.map_append,h.1];rfl,?_⟩
  rw[List.map_append,List.map_append]
  exact ao.append h.2 ⟨u,[],rfl,du,rfl⟩
theorem E3 {K:Frag} {w w':Wd} (l:Le K w w') {ai:List (Key×D)} {es:List (Key×V)} (h:gG K w ai es):gG K w' ai es:=⟨h.1,l.all h.2⟩
theorem jK {K:Frag} {w:Wd} {d:D} {v:V} {k:Key} (h:DV K w d v) (e:keyOf d=some k):v=kV k:=by
 cases d<;>first | (cases e;done) | (cases e;exact h)
theorem qG {K:Frag} {w:Wd} {d:D} {v:V} {ai:List (Key×D)} (S:aH K w) (h:DV K w d v) (e:jY d w.aC=some ai):∃k a es,d=.ar k/\v=.ref a/\w.ρ[k]?=some a/\w.aC[k]?=some (.dK ai)/\w.H a=some (.dK es)/\gG K w ai es:=by
 unfold jY at e
 split at e
 ·rename_i k
  split at e
  ·rename_i Vg hk
   cases e
   obtain⟨a,e1,rfl⟩:=h
   obtain⟨es,q1,q2,q3⟩:=S.cell k a _ e1 hk
   exact⟨k,a,es,rfl,rfl,e1,hk,q1,q2,q3⟩
  ·cases e
 ·cases e
noncomputable def m6 (d i:D) (s:aa):Res D:=match jY d s,keyOf i with
 |some ai,some k=>bE (fO ai k) s
 |_,_=>none
noncomputable def oU (i d:D) (s:aa):Res D:=match jY d s,keyOf i with
 |some ai,some k=>ok (.bl (fO ai k).isSome) s
 |_,_=>none
noncomputable def kr (i d:D) (s:aa):Res D:=match jY d s,keyOf i with
 |some ai,some k=>ok (.bl (!(fO ai k).isSome)) s
 |_,_=>none
noncomputable def putD (d i x:D) (s:aa):Option aa:=match d with
 | .ar h=>match jY d s,keyOf i with
  |some ai,some k=>if ai.length<sizeLine then some (s.set h (.dK (eV ai k x))) else none
  |_,_=>none
 |_=>none
noncomputable def qX:Env->aa->Res D:=λ_ s=>ok (.ar s.length) (s++[.dK []])
noncomputable def rM (f o i:Env->aa->Res D):Env->aa->Res Fl:=λenv s=>ak (f env s) λx s=>ak (o env s) λd s=>ak (i env s) λn s=>match putD d n x s with
 |some s'=>ok (.nx env) s'
 |none=>none
section
variable {X:Cx} {Ξ:Wd->bD->Prop} {e o i:Expr} {pos jX:Pos} {f fo fi:Env->aa->Res D}
theorem qH {k:Nat} (hr:bV k X.A):X.A.units+1<cLine:=by have:=hr.un;have:cLine=9900:=rfl;omega
theorem E4:PE X (.Dict [] [] pos) (tE X.K Ξ qX):=b9 Dk fun σ H Q aw=>by
 obtain⟨w,env,eH,S,eo,h⟩:=aw
 subst eH
 intro p hp
 have le:=(Fw.cell (K:=X.K) (o:=.dK []) (c:=.dK []) S hp).le
 refine h (w.cell p (.dK []) (.dK [])) le (S.vh hp ⟨[],ck,rfl,rfl⟩) rfl (.ref p) ⟨p,?_,rfl⟩
 show (w.ρ++[p])[w.aC.length]?=some p
 rw[<- S.len]
 simp
theorem FH {k:Nat} (hr:bV k X.A) (ho:PE X o (tE X.K Ξ fo)) (hi:PE X i (tE X.K Ξ fi)) (hs:zF i:=by intro _ _;rfl):PE X (.Subscript o i pos) (tE X.K Ξ (e2 m6 fo fi)) :=
 b9 (MB (qH hr) ho hi hs) fun σ H Q aw=>by
  obtain⟨w,env,eH,S,eo,h⟩:=aw
  subst eH
  refine⟨w,env,rfl,S,eo,(Out.ak h).mono λw1 d l1 S1 h1 v dv=>⟨w1,env,rfl,S1,eo.le l1,(Out.ak h1).mono λw2 n l2 S2 h2 u du=>?_⟩⟩
  unfold m6 at h2
  split at h2
  ·rename_i ai k e1 e2
   obtain⟨hk,a,es,rfl,rfl,_,_,q1,q2⟩:=qG S2 (l2 _ _ dv) e1
   have eu:=jK du e2
   subst eu
   obtain⟨x,ex,h3⟩:=dH h2
   obtain⟨v,ev,dx⟩:=(ye q2).1 x ex
   exact⟨a,v,rfl,ev ▸ jS.k q1,aF S2 h3 _ dx⟩
  ·exact h2.elim
theorem Qx {k:Nat} (hr:bV k X.A):aW X (compareOp .In) (rO X.K Ξ oU):=by
 rintro pins s σ H x y v u Q I rx ry ⟨w,dx,dy,rfl,S,hx,hy,h⟩
 unfold oU at h
 split at h
 ·rename_i ai k e1 e2
  obtain⟨hk,a,es,rfl,rfl,_,_,q1,q2⟩:=qG S hy e1
  have eu:=jK hx e2
  subst eu
  cases ry
  exact RJ (qH hr) I (jS.k q1) rx λs' I'=>⟨.bl _,w.H,I',rfl,by rw[(ye q2).2];exact aF S h _ rfl⟩
 ·exact h.elim
theorem xI {k:Nat} (hr:bV k X.A):aW X (compareOp .NotIn) (rO X.K Ξ kr):=by
 rintro pins s σ H x y v u Q I rx ry ⟨w,dx,dy,rfl,S,hx,hy,h⟩
 unfold kr at h
 split at h
 ·rename_i ai k e1 e2
  obtain⟨hk,a,es,rfl,rfl,_,_,q1,q2⟩:=qG S hy e1
  have eu:=jK hx e2
  subst eu
  cases ry
  exact MA (qH hr) I (jS.k q1) rx λs' I'=>⟨.bl _,w.H,I',rfl,by rw[(ye q2).2];exact aF S h _ rfl⟩
 ·exact h.elim
theorem FI {k:Nat} (hr:bV k X.A) (he:PE X e (tE X.K Ξ f)) (ho:PE X o (tE X.K Ξ fo)) (hi:PE X i (tE X.K Ξ fi)) (hs:swapsWith e (some (.Subscript o i jX)) pos.line X.env=pure false:=by rfl) :
  PS X (.Assign [.Subscript o i jX] e pos) (tS X.K Ξ (rM f fo fi)) :=
 jL (MC (qH hr) ho hi he hs) λD0 σ H aw=>by
  obtain⟨w,env,eH,S,eo,h⟩:=aw
  subst eH
  refine⟨w,env,rfl,S,eo,(Out.ak h).mono λw1 x l1 S1 h1 u du=>?_⟩
  refine⟨w1,env,rfl,S1,eo.le l1,(Out.ak h1).mono λw2 d l2 S2 h2 v dv=>?_⟩
  refine⟨w2,env,rfl,S2,eo.le (l1.trans l2),(Out.ak h2).mono λw3 n l3 S3 h3 m dm=>?_⟩
  cases hd:putD d n x w3.aC with
  |none=>rw[hd] at h3;exact h3.elim
  |some s' =>
   rw[hd] at h3
   unfold putD at hd
   split at hd
   ·rename_i hk
    split at hd
    ·rename_i ai k e1 e2
     split at hd
     ·rename_i hl
      cases hd
      obtain⟨dD,a,es,eh,rfl,r1,r2,q1,q2⟩:=qG S3 (l3 _ _ dv) e1
      cases eh
      have eu:=jK dm e2
      subst eu
      have nd:(Cell.dK ai)≠.dead:=by intro z;cases z
      have le:=(Fw.put (K:=X.K) (o:=.dK (putK es k u)) (c:=.dK (eV ai k x)) S3 r1 r2 nd).le
      have hle:es.length<sizeLine:=by
       have:=congrArg List.length q2.1
       rw[List.length_map,List.length_map] at this
       omega
      refine⟨a,_,rfl,rn.k q1 hle,?_⟩
      have S4:=S3.zM (o:=.dK (putK es k u)) (c:=.dK (eV ai k x)) r1 r2 nd ⟨_,ck,Ee (le _ _ ((l2.trans l3) _ _ du)) (E3 le q2)⟩
      exact h3 (w3.put hk a (.dK (putK es k u)) (.dK (eV ai k x))) le S4 rfl σ (eo.le (l1.trans (l2.trans (l3.trans le))))
     ·cases hd
    ·cases hd
   ·cases hd
end
end DI
namespace L2
open PySem PySem.Spec PyProof.Rows
noncomputable def nr (acc:List (Key×V)) (p:Key×V):List (Key×V):=match p.2 with
 | .int n=>putK acc (.inl n) (kV p.1)
 |_=>acc
noncomputable def kS (es:List (Key×V)):List (Key×V):=es.foldl nr []
theorem LB (es:List (Key×V)):∀acc:List (Key×V),(es.foldl nr acc).length<=acc.length+es.length:=by
 induction es with
 |nil=>intro acc;exact Nat.le_refl _
 |cons p r ih =>
  intro acc
  rw[List.foldl_cons,List.length_cons]
  have h1:=ih (nr acc p)
  have h2:(nr acc p).length<=acc.length+1:=by
   unfold nr
   split
   ·exact tW _ _ _
   ·exact Nat.le_succ _
  omega
theorem Jt {vs:List (Key×Value)} (nd:(vs.map (·.1)).Nodup) {i:Nat} {k:Key} {x:Value} (h:vs[i]?=some (k,x)):valueAt vs k=some x:=by
 unfold valueAt
 induction vs generalizing i with
 |nil=>simp at h
 |cons p r ih =>
  rw[List.map_cons,List.nodup_cons] at nd
  cases i with
  |zero =>
   have e:p=(k,x):=by simpa using h
   subst e
   simp
  |succ i =>
   have h':r[i]?=some (k,x):=by simpa using h
   have hm:k∈r.map (·.1):=List.mem_map.mpr ⟨(k,x),List.mem_of_getElem? h',rfl⟩
   have bz:¬ p.1=k:=λe=>nd.1 (e ▸ hm)
   rw[List.find?_cons,decide_eq_false bz]
   exact ih nd.2 h'
theorem FJ {es:List (Key×V)} {vs:List (Key×Value)} (r:KV es vs):∀{i:Nat} {k:Key} {x:Value},vs[i]?=some (k,x)->∃v,es[i]?=some (k,v)/\RelV v x:=by
 induction r with
 |nil=>intro i k x h;simp at h
 |cons a _ ih =>
  intro i k x h
  cases i with
  |zero =>
   cases h
   rename_i p _ _ _
   refine⟨p.2,?_,a.2⟩
   have e:p.1=k:=a.1
   rw[<- e]
   rfl
  |succ i=>exact ih (by simpa using h)
section
variable {X:Cx}
noncomputable def Qy (i:Nat):TE:=fun σ H Q=>∃a es,σ[i]?=some (some (.ref a))/\H a=some (.dK es)/\(∀p∈es,∃n,p.2=.int n)/\∀p,H p=none->Q (.ref p) (upd H p (.dK (kS es)))
theorem M0 {dn x:Str} {i:Nat} {sc:Scope} {ps p1 p2 p3 p4 p5 p6:Pos} {N:List Str} {cap:List Nat} (hc:X.calm=true) (hu:X.A.units+1<cLine) (hN:X.N[i]?=some dn) (hv:nA X.env.scope dn) (S:oz X sc N 1 cap)
  (A0:X.env.kindOf dn=some .cell) (hx:sc.names.lookup x=some .local) (hf:(dn,NameKind.free)∈sc.names)
  (A1:∀cl C,(compEnvC sc cl C X.env).kindOf dn=some .cell) (ef:∀cl C,(compEnvC sc cl C X.env).kindOf x=some .local)
  (hd:(dn==("__debug__":Str))=false) (fP:(dn==("__classdict__":Str))=false) (wO:(x==("__debug__":Str))=false)
  (hs:∀y,foldedSetIterable (.Name dn p6) X.env y=pure y) (nZ:∀cl C,(compEnvC sc cl C X.env).scope.kind=.function) (bX:∀{cl C},((compEnvC sc cl C X.env).scope.kind==.class||((compEnvC sc cl C X.env).scope.kind==.module&&(compEnvC sc cl C X.env).locals != (compEnvC sc cl C X.env).globals))=false) :
  PE X (.DictComp (.Subscript (.Name dn p1) (.Name x p2) p3) (.Name x p4) [⟨.Name x p5,.Name dn p6,[],0⟩] sc ps) (Qy i):=by
 intro pins s σ H Q I h
 obtain⟨a,es,wQ,ha,hints,hq⟩:=h
 obtain⟨cl,qU,cD⟩:=yr (env:=X.env) (sc:=sc) λn hn=>I.ok.has n (S.frees _ hn rfl).2
 have TN:=Es (pos:=p6) hN hv hd fP pins s σ H (λv H1=>v=.ref a/\H1=H) I ⟨_,wQ,rfl,rfl⟩
 rw[arm_eval_DictComp]
 refine wpAny_comprehension_free (use:=none) rfl hs qU S.kind S.names (aA TN λxv s1 h1=>?_)
 obtain⟨v,H1,I1,rv,e1,e2⟩:=h1
 subst e1 e2
 cases rv
 obtain⟨m,hn,hl⟩:=id I1.loc
 obtain⟨u,r,l⟩:=hl i dn (.ref a) hN wQ hv
 cases r
 rcases l with ⟨hk,_⟩ | ⟨_,c,wb,lK⟩
 ·rw[A0] at hk;cases hk
 have RZ:cl.lookup dn=some c:=(cD dn c).mpr ⟨hf,wb⟩
 obtain⟨z,rm,vs,rel,dd⟩:=yV I1.au ha
 obtain⟨ep,dat⟩:=dd.dictAt
 have aU:a<s1.heap.objs.size:=dat.lt_size
 have nd:=dat.nodup
 have FK:∀s:Shared,Keeps s s:=λs=>⟨s.heap,s.toks,rfl,λ_ _ e=>e⟩
 refine wpAny_pyIter_dict rm dat ?_
 generalize pV:s1.heap.objs.size=It at aU |-
 generalize jx:s1.heap.push { cls:=.type "dict_keyiterator",data:=.fields #[.ref a,.int 0 0,.int vs.length 0,.int ep 0] }=h2
 have z2:h2.objs.size=It+1:=by rw[<- jx,Heap.size_push,pV]
 have Gi:∀b o,s1.heap.get? b=some o->h2.get? b=some o:=λb o e=>by rw[<- jx];exact Heap.get?_push_of_some _ e
 have mf:h2.IsKeyIter It a 0 vs.length ep:=⟨_,by rw[<- jx,<- pV];exact Heap.get?_push_size _ rfl,rfl,rfl⟩
 have W:=Walks.dictKeys (knd:=cK X.prog X.w) (prog:=X.prog) (w:=X.w) (A:=X.A) (I1.ok.hd hc) It a (Nat.ne_of_lt aU) vs ep
 refine wpAny_newObj_type (wpAny_newFunctionEnv S.yt (by intro y hy;simp at hy) (λh3 fq jn=>?_) S.kind)
 dsimp only at fq jn |-
 have A2:(h2.push { cls:=.type "dict",dict:=none,data:=.dict #[] }).DictOf (cK X.prog X.w) h2.objs.size []:=Heap.DictOf.new h2
 generalize hG:h2.push { cls:=.type "dict",dict:=none,data:=.dict #[] }=G at fq jn A2 |-
 have zG:G.objs.size=It+2:=by rw[<- hG,Heap.size_push,z2]
 rw[z2] at A2 |-
 rw[zG] at fq jn |-
 have G1:∀b o,s1.heap.get? b=some o->b<It:=λb o e=>by rw[<- pV];exact Heap.lt_size e
 have G2:∀b o,b<It+2->G.get? b=some o->h3.get? b=some o:=λb o hb e=>jn.extBut b o (Nat.ne_of_lt hb) (Heap.get?_push_of_some _ e)
 have R0:∀b o,h2.get? b=some o->G.get? b=some o:=λb o e=>by rw[<- hG];exact Heap.get?_push_of_some _ e
 have zY:∀b o,b<It+1->h2.get? b=some o->h3.get? b=some o:=λb o hb e=>G2 b o (Nat.lt_succ_of_lt hb) (R0 b o e)
 have R1:h3.DictOf (cK X.prog X.w) (It+1) []:=A2.at λo e=>G2 _ o (Nat.lt_succ_self _) e
 have jq:h3.IsKeyIter It a 0 vs.length ep/\h3.DictAt (cK X.prog X.w) a vs ep:=⟨mf.at λo e=>zY _ o (Nat.lt_succ_self _) e,(dat.keep Gi).at' λo e=>zY _ o (Nat.lt_succ_of_lt aU) e⟩
 have Gj:∀{b},It<b->b∉[It,a]:=λ{b} hb w=>by
  rcases List.mem_cons.mp w with e|e
  ·rw[e] at hb;exact absurd hb (Nat.lt_irrefl _)
  ·rw[List.mem_singleton.mp e] at hb;exact absurd hb (Nat.not_lt.mpr (Nat.le_of_lt aU))
 have loop:codeAny (model X.prog X.w) X.A (.compLoop (.DictComp (.Subscript (.Name dn p1) (.Name x p2) p3) (.Name x p4) [⟨.Name x p5,.Name dn p6,[],0⟩] sc ps) 0 (.ref It) (.ref (It+1)) (compEnvC sc cl (It+2) X.env)) (compPost (model X.prog X.w) X.A X.xe none (EP X pins σ Q) (.ref (It+1)) (It+2)) { s1 with heap:=h3,toks:=s1.toks+([]:List (Str×Value)).length }:=by
  have upTo:∀{s3:Shared},(∀b o,b≠It+2->b∉[It]->b≠It+1->h3.get? b=some o->s3.heap.get? b=some o)->∀b o,s1.heap.get? b=some o->s3.heap.get? b=some o:=λ{s3} hk b o e=>by
   have hb:=G1 b o e
   exact hk b o (Nat.ne_of_lt (Nat.lt_succ_of_lt (Nat.lt_succ_of_lt hb))) (λw=>by rw[List.mem_singleton.mp w] at hb;exact absurd hb (Nat.lt_irrefl _)) (Nat.ne_of_lt (Nat.lt_succ_of_lt hb)) (zY b o (Nat.lt_succ_of_lt hb) (Gi b o e))
  refine codeAny_compLoop_walkD (knd:=cK X.prog X.w) (cenv:=compEnvC sc cl (It+2) X.env) W (λ_=>true) (λv k=>∃(k0:Key) (n:Int),(k0,V.int n)∈es/\(cK X.prog X.w).is k0 v=true/\k=Sum.inl n) (λv y=>y=v)
   (ef cl _) bX (Nat.ne_of_lt (Nat.lt_succ_self _)) (Gj (Nat.lt_succ_self _)) (Gj (Nat.lt_succ_of_lt (Nat.lt_succ_self _))) jq R1 fq (λj v s3 m3 hP wR wU hk=>wpAny_tests_nil ⟨rfl,FK _⟩) (λj v s3 m3 hP _ wR wU hk=>?_) (λj v s3 m3 hP _ wR wU hk=>ldVarK wR wU ⟨rfl,FK _⟩ (nZ cl _) (ef cl _) wO) (λh' tk m' ai wV Ac Qz hlen hP hF QA=>?_) (by rw[<- rel.length];exact z)
  ·obtain⟨k0,x0,wW,sW⟩:=hP
   obtain⟨v0,G3,r0⟩:=FJ rel wW
   obtain⟨n,en⟩:=hints _ (List.mem_of_getElem? G3)
   cases en
   obtain⟨t,rfl⟩:=r0
   have up:=upTo hk
   have Gk:=dat.keep up
   refine DY PySem.F.slot_dict_getitem.lookup (by intro _ _;rfl) (ldCellK RZ (lK.keeps up) (ldVarK wR wU ⟨Gk.dictOf.typeIs,?_⟩ (nZ cl _) (ef cl _) wO) (nZ cl _) (A1 cl _) hd)
   exact wpAny_getItem_of sW Gk.dictOf.mapOf (Jt nd wW) ⟨⟨.inl n,Cf _ _ n t,k0,n,List.mem_of_getElem? G3,sW,rfl⟩,s3.heap,_,rfl,λ_ _ e=>e⟩
  ·refine⟨m',Ac,λh5 G4=>?_⟩
   have up:∀b o,s1.heap.get? b=some o->h5.get? b=some o:=λb o e=>G4.extBut b o (Nat.ne_of_lt (Nat.lt_succ_of_lt (Nat.lt_succ_of_lt (G1 b o e)))) (upTo (s3:={ s1 with heap:=h' }) QA b o e)
   have R4:KV (kS es) ai:=by
    have key:∀(l:List Value) (ai:List (Key×Value)),StoredAll (λv k=>∃(k0:Key) (n:Int),(k0,V.int n)∈es/\(cK X.prog X.w).is k0 v=true/\k=Sum.inl n) (λv y=>y=v) l ai->(∀(j:Nat) v,l[j]?=some v->wV[j]?=some v)->l.length<=es.length->KV (kS (es.take l.length)) ai:=by
     intro l ai hS
     induction hS with
     |nil=>intro _ _;exact .nil
     | @snoc l ai v k y hS TQ TR ih =>
      intro hl QC
      obtain⟨k0,n,zK,sW,rfl⟩:=TQ
      subst TR
      rw[List.length_append,List.length_singleton] at QC |-
      have hj:=hl l.length y (by simp)
      obtain⟨k1,x1,sF,R5⟩:=hP l.length y hj
      have ek:k0=k1:=(cK X.prog X.w).inj y k0 k1 sW R5
      subst ek
      obtain⟨v1,sX,r1⟩:=FJ rel sF
      have ev:v1=.int n:=by
       have TU:(es.map (·.1)).Nodup:=by rw[rel.keys];exact nd
       obtain⟨j2,G5⟩:=List.getElem?_of_mem zK
       have:l.length=j2:=(List.getElem?_inj (by simpa using (List.getElem?_eq_some_iff.mp sX).1) TU).mp (by rw[List.getElem?_map,List.getElem?_map,sX,G5];rfl)
       rw[this,G5] at sX
       cases sX
       rfl
      subst ev
      have ry:RelV (kV k0) y:=by
       rcases iT sW with ⟨i,t,rfl,rfl⟩ | ⟨q,t,rfl,rfl⟩
       ·exact⟨t,rfl⟩
       ·exact⟨t,rfl⟩
      have e:kS (es.take (l.length+1))=putK (kS (es.take l.length)) (.inl n) (kV k0):=by
       unfold kS
       rw[List.take_succ,sX,Option.toList,List.foldl_append]
       rfl
      rw[e]
      exact(ih (λj v h=>hl j v (by rw[List.getElem?_append_left (List.getElem?_eq_some_iff.mp h).1];exact h)) (by omega)).put _ ry
    have TV:wV.filter (λ_=>true)=wV:=by simp
    rw[TV] at hF
    have e:=rel.length
    have:=key wV ai hF (λ_ _ h=>h) (by omega)
    rw[hlen,<- e,List.take_length] at this
    exact this
   refine⟨.ref (It+1),_,I1.laid (a:=It+1) (o:=.dK (kS es)) (t':=tk) up (by rw[pV];exact Nat.le_succ _) ⟨?_,?_,ai,R4,Qz.at λo e=>G4.extBut _ o (Nat.ne_of_lt (Nat.lt_succ_self _)) e⟩,rfl,hq _ (I1.au.fresh (by rw[pV];exact Nat.le_succ _))⟩
   ·have:=LB es []
    have e:=rel.length
    show (es.foldl nr []).length<=sizeLine
    rw[List.length_nil] at this
    omega
   ·have:=I1.big
    exact beq_eq_false_iff_ne.mpr (by rw[pV] at this;exact Nat.ne_of_gt (Nat.lt_succ_of_lt this))
 exact codeAny_compStart_dict loop (W.self 0 _ _ _ jq loop)
end
end L2
namespace DI
open PySem L2
noncomputable def sY:D->Bool
 | .int _=>true
 |_=>false
noncomputable def kD:Key->D
 | .inl i=>.int i
 | .inr x=>.str x
noncomputable def kT (acc:List (Key×D)) (p:Key×D):List (Key×D):=match p.2 with
 | .int n=>eV acc (.inl n) (kD p.1)
 |_=>acc
noncomputable def y9 (f:Env->aa->Res D):Env->aa->Res D:=λenv s=>ak (f env s) λd s=>match jY d s with
 |some ai=>if (ai.all λp=>sY p.2)=true then ok (.ar s.length) (s++[.dK (ai.foldl kT [])]) else none
 |none=>none
theorem QD {K:Frag} {w:Wd} (k:Key):DV K w (kD k) (kV k):=by
 cases k with
 |inl i=>exact rfl
 |inr x=>exact rfl
theorem M3 {K:Frag} {w:Wd} {ai:List (Key×D)}:∀{es:List (Key×V)} {acc:List (Key×D)} {bcc:List (Key×V)},(ai.all λp=>sY p.2)=true->gG K w ai es->gG K w acc bcc->gG K w (ai.foldl kT acc) (es.foldl nr bcc)/\∀p∈es,∃n,p.2=V.int n:=by
 induction ai with
 |nil =>
  intro es acc bcc _ h g
  have e:es=[]:=by have:=h.1;simpa using this
  subst e
  exact⟨g,λp hp=>absurd hp List.not_mem_nil⟩
 |cons p r ih =>
  intro es acc bcc ha h g
  obtain⟨v,t,rfl,dv,hr⟩:=xH h
  rw[List.all_cons,Bool.and_eq_true] at ha
  obtain⟨k,d⟩:=p
  cases d with
  |int n =>
   have ev:v=.int n:=dv
   subst ev
   obtain⟨i1,i2⟩:=ih (acc:=eV acc (.inl n) (kD k)) (bcc:=putK bcc (.inl n) (kV k)) ha.2 hr (Ee (QD k) g)
   refine⟨i1,λp hp=>?_⟩
   rcases List.mem_cons.mp hp with e|e
   ·exact⟨n,by rw[e]⟩
   ·exact i2 p e
  |_=>exact absurd ha.1 Bool.false_ne_true
section
variable {X:Cx} {Ξ:Wd->bD->Prop}
theorem ON (i:Nat) {dn x:Str} {sc:Scope} {ps p1 p2 p3 p4 p5 p6:Pos} {N:List Str} {cap:List Nat} {k:Nat} (hr:bV k X.A) (hc:X.calm=true) (S:oz X sc N 1 cap) (hN:X.N[i]?=some dn:=by rfl) (hv:nA X.env.scope dn:=by first|exact Or.inl rfl|exact Or.inr (Or.inl rfl)|exact Or.inr (Or.inr rfl))
  (A0:X.env.kindOf dn=some .cell:=by rfl) (hx:sc.names.lookup x=some .local:=by rfl) (hf:(dn,NameKind.free)∈sc.names:=by decide)
  (A1:∀cl C,(compEnvC sc cl C X.env).kindOf dn=some .cell:=by intro _ _;rfl) (ef:∀cl C,(compEnvC sc cl C X.env).kindOf x=some .local:=by intro _ _;rfl)
  (hd:(dn==("__debug__":Str))=false:=by decide) (fP:(dn==("__classdict__":Str))=false:=by decide) (wO:(x==("__debug__":Str))=false:=by decide)
  (hs:∀y,foldedSetIterable (.Name dn p6) X.env y=pure y:=by intro _;rfl) (nZ:∀cl C,(compEnvC sc cl C X.env).scope.kind=.function:=by intro _ _;rfl)
  (bX:∀{cl C},((compEnvC sc cl C X.env).scope.kind==.class||((compEnvC sc cl C X.env).scope.kind==.module&&(compEnvC sc cl C X.env).locals != (compEnvC sc cl C X.env).globals))=false:=by intro _ _;rfl) :
  PE X (.DictComp (.Subscript (.Name dn p1) (.Name x p2) p3) (.Name x p4) [⟨.Name x p5,.Name dn p6,[],0⟩] sc ps) (tE X.K Ξ (y9 (ab i))) :=
 b9 (M0 hc (qH hr) hN hv S A0 hx hf A1 ef hd fP wO hs nZ bX) fun σ H Q aw=>by
  obtain⟨w,env,eH,SS,eo,h⟩:=aw
  subst eH
  have h:=Out.ak h
  unfold ab at h
  split at h
  ·rename_i d A3
   have h2:=aF SS h
   clear h
   split at h2
   ·rename_i ai hk
    split at h2
    ·rename_i m9
     obtain⟨v,wQ,dv⟩:=eo.val i d A3
     obtain⟨dD,a,es,rfl,rfl,r1,r2,q1,q2⟩:=qG SS dv hk
     obtain⟨g1,g2⟩:=M3 (acc:=[]) (bcc:=[]) m9 q2 ⟨rfl,rfl⟩
     refine⟨a,es,wQ,q1,g2,λp hp=>?_⟩
     have le:=(Fw.cell (K:=X.K) (o:=.dK (kS es)) (c:=.dK (ai.foldl kT [])) SS hp).le
     refine h2 (w.cell p (.dK (kS es)) (.dK (ai.foldl kT []))) le (SS.vh hp ⟨_,ck,E3 le g1⟩) rfl (.ref p) ⟨p,?_,rfl⟩
     show (w.ρ++[p])[w.aC.length]?=some p
     rw[<- SS.len]
     simp
    ·exact h2.elim
   ·exact h2.elim
  ·exact h.elim
end
end DI
namespace L2
open PySem PySem.Spec PyProof.Rows
section
variable {X:Cx}
end
end L2
namespace DI
open PySem L2
section
variable {X:Cx} {Ξ:Wd->bD->Prop} {a:Expr} {pos:Pos} {f:Env->aa->Res D}
end
end DI
namespace L2
open PySem PySem.Spec PyProof.Rows
section
variable {X:Cx}
theorem Ie:bP X (.builtin "isinstance") (λxs H Q=>∃(b:Bool) (p:Addr),xs=[.bl b,.ref p]/\H p=some (.ext (oJ p ["list","tuple"]))/\Q (.bl false) H):=by
 intro pins s σ H xs us Q I r h
 obtain⟨b,p,rfl,hp,q⟩:=h
 obtain⟨u,c,rfl,ru,rc⟩:=vals2 r
 cases rc
 cases ru
 have ha:AnswersAll (λs=>s.TypeIs (.bool b) "bool") (.bool b) [.type "list",.type "tuple"] [false,false]:=.cons (.of_false_bool (by decide +kernel) F.isi_meta_list F.sub_bool_list) (.cons (.of_false_bool (by decide +kernel) F.isi_meta_tuple F.sub_bool_tuple) .nil)
 have ho:cb X.prog X.w H s.heap p (.ext (oJ p ["list","tuple"])):=I.au p _ hp
 exact IsiPair.tupleOfB ha rfl ho.1 rfl λtk=>⟨.bl _,H,I.tok _,rfl,q⟩
end
end L2
namespace DI
open PySem L2
section
variable {X:Cx} {Ξ:Wd->bD->Prop} {pos:Pos}
noncomputable def vt (d:D) (s:aa):Res D:=match d with
 | .bl _=>ok (.bl false) s
 |_=>none
theorem LC {a:Expr} {f:Env->aa->Res D} {p p1 p2 p3:Pos} {x1} (ha:PE X a (tE X.K Ξ f)) (hg:Gl X "isinstance") (hm:X.mg "isinstance"=none) (hv:bootBuiltins "isinstance"=some (.builtin "isinstance")) (h1:PE X (.Name "tuple" p1) (tC (.ty "tuple"))) (h2:PE X (.Name "list" p2) (tC (.ty "list")))
  (he:starEach (a::[.Tuple [.Name "list" p2,.Name "tuple" p1] x1 p3]) X.env=(false,eval a X.env)::starEach [.Tuple [.Name "list" p2,.Name "tuple" p1] x1 p3] X.env:=by rfl) :
  PE X (.Call (.Name "isinstance" p) [a,.Tuple [.Name "list" p2,.Name "tuple" p1] x1 p3] [] pos) (tE X.K Ξ (e1 vt f)) :=
 b9 (xx Ie hg hm hv (iU ha (iU (KW (iU h2 (iU h1 kC))) kC) he) (by decide) (by decide) he) fun σ H Q aw=>by
  obtain⟨w,env,eH,S,eo,h⟩:=aw
  subst eH
  refine⟨w,env,rfl,S,eo,(Out.ak h).mono λw1 d l1 S1 h1 v dv=>?_⟩
  refine⟨["list","tuple"],rfl,(by show 2<=sizeLine;decide),λp hp=>?_⟩
  unfold vt at h1
  split at h1
  ·rename_i i
   have e:v=.bl i:=dv
   subst e
   have S2:=S1.grow (o:=.ext (oJ p ["list","tuple"])) hp
   have l2:=(Fw.grow (K:=X.K) (o:=.ext (oJ p ["list","tuple"])) hp).le
   exact⟨i,p,rfl,ck,h1 _ l2 S2 rfl _ rfl⟩
  ·exact h1.elim
noncomputable def mR (x y:D) (s:aa):Res D:=match res x s,res y s with
 | .lst xs,.lst ys=>if fK xs ys=true then ok (.ar s.length) (s++[.lst (xs++ys)]) else none
 |_,_=>none
theorem R6 {K:Frag} {w:Wd} {ds:List D} {vs:List V} {Q:VK} (S:aH K w) (aq:ao K w ds vs) (h:Out K Ξ w (ok (D.ar w.aC.length) (w.aC++[.lst ds])) λw' d=>∀v,DV K w' d v->Q v w'.H):∀p,w.H p=none->Q (.ref p) (upd w.H p (.lst vs)):=λp hp=>by
 have le:=(Fw.cell (K:=K) (o:=.lst vs) (c:=.lst ds) S hp).le
 refine h (w.cell p (.lst vs) (.lst ds)) le (S.vh hp ⟨_,ck,le.all aq⟩) rfl (.ref p) ⟨p,?_,rfl⟩
 show (w.ρ++[p])[w.aC.length]?=some p
 rw[<- S.len]
 simp
theorem OO:aW X (binaryOp .Add) (rO X.K Ξ mR):=by
 rintro pins s σ H x y v u Q I rx ry ⟨w,dx,dy,rfl,S,hx,hy,h⟩
 unfold mR at h
 split at h
 ·rename_i xs ys e1 e2
  split at h
  ·rename_i hl
   obtain⟨a,as,rfl,ha,fz⟩:=gf S hx e1
   obtain⟨b,bs,rfl,hb,mq⟩:=gf S hy e2
   exact EA pins s σ w.H _ _ v u Q I rx ry ⟨a,b,as,bs,rfl,rfl,ha,hb,by rw[<- fz.length,<- mq.length];exact of_decide_eq_true hl,R6 S (fz.append mq) h⟩
  ·exact h.elim
 ·exact h.elim
theorem OP:PE X (.Dict [] [] pos) (tE X.K Ξ (eC (.aY []))):=b9 Dk fun σ H Q aw=>by
 obtain⟨w,env,eH,S,eo,h⟩:=aw
 subst eH
 intro p hp
 exact h (w.grow p (.dK [])) (Fw.grow hp).le (S.grow hp) rfl (.ref p) ⟨p,rfl,(show ¬ w.Z p from lH S hp),ck⟩
theorem OQ {i v:Int} {j1 j2} {p1 p2:Pos}:PE X (.Dict [some (.Constant (.int i) j1 p1)] [.Constant (.int v) j2 p2] pos) (tE X.K Ξ (eC (.aY [(Sum.inl i,v)]))) :=
 b9 (ME (K6 uU uU MD) rfl rfl (by simp) (by simp)) fun σ H Q aw=>by
  obtain⟨w,env,eH,S,eo,h⟩:=aw
  subst eH
  intro p hp
  refine⟨ck,[(Sum.inl i,.int v)],rfl,by simp,?_⟩
  have e:upd (upd w.H p (.dK [])) p (.dK (oB [] [(Sum.inl i,.int v)]))=upd w.H p (.dK [(Sum.inl i,.int v)]):=by
   funext b
   by_cases hb:b=p
   ·subst hb;rw[ck,ck];rfl
   ·rw[bc hb,bc hb,bc hb]
  rw[e]
  exact h (w.grow p (.dK [(Sum.inl i,.int v)])) (Fw.grow hp).le (S.grow hp) rfl (.ref p) ⟨p,rfl,(show ¬ w.Z p from lH S hp),ck⟩
end
end DI
namespace L2
open PySem PySem.Spec PyProof.Rows
noncomputable def vV (K:Frag) (l:Addr) (all:List V) (ra:R2):List V->V->Hp->VK->Prop
 | [],vb,H,Q=>bx K H l all/\Q vb H
 |x::xs,vb,H,Q=>bx K H l all/\ra vb x H λz H2=>(∃a,z=.ref a)/\vV K l all ra xs z H2 Q
theorem LD {X:Cx} {l I S:Addr} {all:List V} {pins:List (Addr×Obj)} {σ:St} {ra:R2} {Q:VK} (hc:X.calm=true) (kg:l≠I) (ie:S≠I) (sQ:S≠l) (hA:aW X.cA (binaryOp .Add) ra) :
  ∀(rest:List V) (j:Nat) (s:Shared) (H:Hp) (vb:V) (ub:Value) (c:Nat),all.drop j=rest->j<=all.length->Inv X.cA pins σ H s->cj X pins H S->cj X pins H I->s.heap.get? S=some { cls:=.type "list",dict:=none,data:=.seq #[ub] c,slots:=#[] }->s.heap.IsListIter I l j->RelV vb ub->(∃a,vb=.ref a) ->
   vV X.K l all ra rest vb H Q->codeAny (model X.prog X.w) X.A (.builtin "sum.loop" ⟨[.ref I,.ref S,rawInt 2,rawInt 0],[]⟩) (yB X pins σ Q) s:=by
 intro rest
 induction rest with
 |nil =>
  intro j s H vb ub c hd sR I0 fS fI gS hit rb ⟨a,ea⟩ h
  subst ea
  cases rb
  obtain⟨hq,h⟩:=h
  have hj:j=all.length:=Nat.le_antisymm sR (by simpa using hd)
  subst hj
  obtain⟨its,rv,pl,hz⟩:=I0.list hq
  have hh:X.A.in1.handled=none:=I0.ok.hd hc
  have W:=Walks.list (prog:=X.prog) (w:=X.w) (A:=X.A.in1) hh I l kg its.toArray
  have hsz:its.toArray.size=all.length:=by rw[List.size_toArray];exact rv.length.symm
  refine codeAny_builtin PySem.F.entry_sum_loop ?_
  rw[Around.under_plainId PySem.F.plain_sum_loop _]
  show wpAny _ X.A.in1 (seqItems? (.ref S) >>= _) _ _ _
  refine wpAny_bind (wpAny_seqItems gS rfl ?_)
  show wpAny _ X.A.in1 (tryCatch (pyNext (.ref I)) _ >>= _) _ _ _
  refine wpAny_bind (wpAny_tryCatch (W.done _ _ _ ⟨by rw[hsz];exact hit,pl.isList⟩ λh' jz dD=>?_))
  have I1:Inv X.cA pins σ H { s with heap:=h',toks:=jz }:=I0.turned (it:=I) (λb o hb e=>dD b o (by simpa using hb) e) fI.1 fI.2.1 fI.2.2.2.1 fI.2.2.2.2.1 fI.2.2.2.2.2
  exact wpAny_pure ⟨.ref a,H,I1.Gf,rfl,h⟩
 |cons x rest ih =>
  intro j s H vb ub c hd sR I0 fS fI gS hit rb ⟨a,ea⟩ h
  subst ea
  cases rb
  obtain⟨hq,h⟩:=h
  have hx:all[j]?=some x:=by
   have:=congrArg (λl=>l[0]?) hd
   simpa using this
  have cH:all.drop (j+1)=rest:=by
   have:=congrArg (List.drop 1) hd
   simpa [List.drop_drop] using this
  obtain⟨its,rv,pl,hz⟩:=I0.list hq
  have hh:X.A.in1.handled=none:=I0.ok.hd hc
  have W:=Walks.list (prog:=X.prog) (w:=X.w) (A:=X.A.in1) hh I l kg its.toArray
  have hsz:its.toArray.size=all.length:=by rw[List.size_toArray];exact rv.length.symm
  refine codeAny_builtin PySem.F.entry_sum_loop ?_
  rw[Around.under_plainId PySem.F.plain_sum_loop _]
  show wpAny _ X.A.in1 (seqItems? (.ref S) >>= _) _ _ _
  refine wpAny_bind (wpAny_seqItems gS rfl ?_)
  show wpAny _ X.A.in1 (tryCatch (pyNext (.ref I)) _ >>= _) _ _ _
  refine wpAny_bind (wpAny_tryCatch (W.item j _ _ _ (by rw[hsz];exact(List.getElem?_eq_some_iff.mp hx).1) ⟨hit,pl.isList⟩ λv h' jz hP rL dD=>?_))
  obtain⟨v',me,rx⟩:=rv.get hx
  have ev:v'=v:=by
   have:its.toArray[j]?=some v:=hP
   rw[List.getElem?_toArray,me] at this
   exact Option.some.inj this
  subst ev
  have nW:=dD S _ (by simpa using ie) gS
  have I1:Inv X.cA pins σ H { s with heap:=h',toks:=jz }:=I0.turned (it:=I) (λb o hb e=>dD b o (by simpa using hb) e) fI.1 fI.2.1 fI.2.2.2.1 fI.2.2.2.2.1 fI.2.2.2.2.2
  obtain⟨oI,sS,kU,lh⟩:=id rL.1
  have nS:∀v,({ cls:=.type "list",dict:=none,data:=.seq #[.ref a] c,slots:=#[] }:Obj).data≠.cell v:=λv z=>by cases z
  have nI:∀v,oI.data≠.cell v:=λv z=>by rw[lh] at z;cases z
  have I2:=I1.jG (pins':=pins++[(S,{ cls:=.type "list",dict:=none,data:=.seq #[.ref a] c,slots:=#[] }),(I,oI)]) λp hp=>by
   rcases List.mem_append.mp hp with z|z
   ·exact I1.pin p (List.mem_append_right _ z)
   ·rcases List.mem_cons.mp z with rfl|z
    ·exact⟨nW,fS.1,fS.2.1,fS.2.2.1,nS⟩
    ·rw[List.mem_singleton.mp z]
     exact⟨sS,fI.1,fI.2.1,fI.2.2.1,nI⟩
  obtain⟨s2,kX⟩:∃s2:Shared,s2={ s with heap:=h',toks:=jz }:=⟨_,rfl⟩
  rw[<- kX] at I2
  rw[<- kX]
  show wpAny _ X.A.in1 ((holding [v'] (binaryOp .Add (.ref a) v')).attempt >>= _) _ _ _
  refine wpAny_bind (wpAny_attempt (wpAny_holding (wpAny_mono (hA _ s2 σ H (.ref a) x (.ref a) v' _ I2 rfl rx h) (λz s3 AX=>?_) λ_ _ z=>z.elim)))
  obtain⟨zv,H3,I4,rz,⟨a2,eb⟩,h⟩:=AX
  subst eb
  cases rz
  have pS:=I4.pin (S,{ cls:=.type "list",dict:=none,data:=.seq #[.ref a] c,slots:=#[] }) (List.mem_append_right _ (List.mem_append_right _ (by simp)))
  have pI:=I4.pin (I,oI) (List.mem_append_right _ (List.mem_append_right _ (by simp)))
  have I5:Inv X.cA pins σ H3 s3:=I4.ij
  have dE:cj X pins H3 S:=⟨pS.2.1,fS.2⟩
  have pU:cj X pins H3 I:=⟨pI.2.1,fI.2⟩
  show wpAny _ X.A.in1 (updateSeq S (λ_=>#[.ref a2]) >>= _) _ _ _
  refine wpAny_bind (wpAny_updateSeq pS.1 rfl ?_)
  have g2:=Heap.get?_update_self (Obj.mapSeq λ_=>#[Value.ref a2]) pS.1 rfl
  refine wpAny_bind (wpAny_letGo ?_)
  refine wpAny_bind (wpAny_updateSeq g2 rfl ?_)
  have g3:=Heap.get?_update_self (Obj.mapSeq λ_=>#[Value.ref a2]) g2 rfl
  have I6:=I5.turned (h':=(s3.heap.update S (Obj.mapSeq λ_=>#[Value.ref a2])).update S (Obj.mapSeq λ_=>#[Value.ref a2])) (t':=s3.toks) (it:=S) (λb o hb e=>(Heap.get?_update_other _ _ (Ne.symm hb)).trans ((Heap.get?_update_other _ _ (Ne.symm hb)).trans e)) dE.1 dE.2.1 dE.2.2.2.1 dE.2.2.2.2.1 dE.2.2.2.2.2
  exact wpAny_pure ⟨plainId_quiet PySem.F.plain_sum_loop _,ih (j+1) _ H3 (.ref a2) (.ref a2) _ cH (List.getElem?_eq_some_iff.mp hx).1 I6 dE pU g3 ⟨oI,(Heap.get?_update_other _ _ ie).trans ((Heap.get?_update_other _ _ ie).trans pI.1),kU,lh⟩ rfl ⟨a2,rfl⟩ h⟩
theorem QE:bootBuiltins "sum"=some (.builtin "sum"):=by decide +kernel
theorem Kb (a b:Value):argsOk "sum" ⟨[a,b],[]⟩:=by unfold argsOk;kernel_rfl
theorem Kc {X:Cx} {ra:R2} (hc:X.calm=true) (hA:aW X.cA (binaryOp .Add) ra):bP X (.builtin "sum") (λxs H Q=>∃(l q:Addr) (all ys:List V),xs=[.ref l,.ref q]/\bx X.K H l all/\aP X.K H q ys/\vV X.K l all ra all (.ref q) H Q):=by
 intro pins s σ H xs us Q I0 r h
 obtain⟨l,q,all,ys,rfl,hq,ht,h⟩:=h
 obtain⟨u,v,rfl,ru,TX⟩:=vals2 r
 cases ru
 cases TX
 obtain⟨its,rv,pl,hz⟩:=I0.list hq
 have sT:l<s.heap.objs.size:=by obtain⟨o,n,ho,_⟩:=pl;exact Heap.lt_size ho
 refine call_function_tree PySem.F.kind_sum PySem.F.plain_sum PySem.F.entry_sum (Kb _ _) ?_
 unfold Builtin.«sum»
 simp only[List.length_cons,List.length_nil]
 rw[if_neg (by decide)]
 refine wpAny_bind (wpAny_of_eq (show Builtin.Builtins.bindParams "sum" ["start"] 0 ⟨[.ref q],[]⟩=pure [some (.ref q)] from rfl) ?_)
 refine wpAny_bind (wpAny_pyIter_list pl.isList ?_)
 refine wpAny_bind (wpAny_pure ?_)
 generalize hI:s.heap.objs.size=I at *
 have TY:∀b o,s.heap.get? b=some o->(s.heap.push { cls:=.type "list_iterator",data:=.fields #[.ref l,.int 0 0] }).get? b=some o:=λb o e=>Heap.get?_push_of_some _ e
 have TZ:=I0.cA.kept (t':=s.toks) TY
 have so:=TZ.oA ht
 simp only[List.forIn_cons,List.forIn_nil]
 refine wpAny_bind (wpAny_bind (wpAny_bind (wpAny_isInstance (T:="tuple") (b:=false) so PySem.F.sub_tuple_str ?_)))
 simp only[Bool.false_eq_true,if_false]
 refine wpAny_pure (wpAny_bind (wpAny_bind (wpAny_isInstance (T:="tuple") (b:=false) so PySem.F.sub_tuple_bytes ?_)))
 simp only[Bool.false_eq_true,if_false]
 refine wpAny_pure (wpAny_bind (wpAny_bind (wpAny_isInstance (T:="tuple") (b:=false) so PySem.F.sub_tuple_bytearray ?_)))
 simp only[Bool.false_eq_true,if_false]
 refine wpAny_pure (wpAny_pure ?_)
 refine wpAny_bind (wpAny_newList ?_ (by simp[sizeLine_eq]))
 have hS:(s.heap.push { cls:=.type "list_iterator",data:=.fields #[.ref l,.int 0 0] }).objs.size=I+1:=by rw[<- hI];exact Heap.size_push ..
 generalize AY:(s.heap.push { cls:=.type "list_iterator",data:=.fields #[.ref l,.int 0 0] }).objs.size=S at *
 have kg:l≠I:=Nat.ne_of_lt sT
 have ie:S≠I:=by rw[hS];exact Nat.succ_ne_self _
 have sQ:S≠l:=by rw[hS];exact Nat.ne_of_gt (Nat.lt_succ_of_lt sT)
 have kk:∀b o,s.heap.get? b=some o->((s.heap.push { cls:=.type "list_iterator",data:=.fields #[.ref l,.int 0 0] }).push { cls:=.type "list",dict:=none,data:=.seq #[.ref q] 0,slots:=#[] }).get? b=some o:=λb o e=>Heap.get?_push_of_some _ (Heap.get?_push_of_some _ e)
 have gI:((s.heap.push { cls:=.type "list_iterator",data:=.fields #[.ref l,.int 0 0] }).push { cls:=.type "list",dict:=none,data:=.seq #[.ref q] 0,slots:=#[] }).get? I=some { cls:=.type "list_iterator",data:=.fields #[.ref l,.int 0 0] }:=Heap.get?_push_of_some _ (hI ▸ Heap.get?_push_size _ rfl)
 have gS:((s.heap.push { cls:=.type "list_iterator",data:=.fields #[.ref l,.int 0 0] }).push { cls:=.type "list",dict:=none,data:=.seq #[.ref q] 0,slots:=#[] }).get? S=some { cls:=.type "list",dict:=none,data:=.seq #[.ref q] 0,slots:=#[] }:=AY ▸ Heap.get?_push_size _ rfl
 have nI:H I=none:=I0.au.fresh (Nat.le_of_eq hI)
 have nS:H S=none:=I0.au.fresh (by rw[hS];exact Nat.le_trans (Nat.le_of_eq hI) (Nat.le_succ _))
 have fI:cj X pins H I:=I0.kM (Nat.le_of_eq hI) nI
 have fS:cj X pins H S:=I0.kM (by rw[hS];exact Nat.le_trans (Nat.le_of_eq hI) (Nat.le_succ _)) nS
 have I1:=I0.cA.kept (t':=s.toks) kk
 exact wpAny_pure ⟨plainId_quiet PySem.F.plain_sum_loop _,LD hc kg ie sQ hA all 0 _ H (.ref q) (.ref q) 0 rfl (Nat.zero_le _) I1 fS fI gS ⟨_,gI,rfl,rfl⟩ rfl ⟨q,rfl⟩ h⟩
end L2
namespace DI
open PySem L2
noncomputable def vv:D->List D->aa->Res D
 |b,[],s=>ok b s
 |b,d::ds,s=>ak (ne (aS b d s)) λc s=>match c with
  | .tup ys=>vv (.tup ys) ds s
  |_=>none
noncomputable def vw (ds:List D) (s:aa):Res D:=match ds with
 | [.lst xs,.tup ys]=>vv (.tup ys) xs s
 |_=>none
section
variable {X:Cx} {Ξ:Wd->bD->Prop}
theorem M4 {K:Frag} {l:Addr} {all:List V} {Q:VK} {ds:List D}:∀{vs:List V} {w:Wd} {b:D} {vb:V},aH K w->LstAt w l all->ao K w ds vs->DV K w b vb ->
  Out K Ξ w (vv b ds w.aC) (λw' d=>∀v,DV K w' d v->Q v w'.H)->vV K l all (rO K dw aS) vs vb w.H Q:=by
 induction ds with
 |nil =>
  intro vs w b vb S hl hd hb h
  have e:vs=[]:=hd
  subst e
  exact⟨hl.sq,aF S h _ hb⟩
 |cons d ds ih =>
  intro vs w b vb S hl hd hb h
  obtain⟨v,r,rfl,dv,dr⟩:=hd
  refine⟨hl.sq,w,b,d,rfl,S,hb,dv,(Out.ak h).ne.mono λw1 c l1 S1 h1 vc dc=>?_⟩
  cases c with
  |tup ys =>
   have G6:=dc
   simp only[DV] at G6
   obtain⟨a,xs,rfl,_⟩:=G6
   exact⟨⟨a,rfl⟩,ih S1 (l1.lst _ _ hl) (l1.all dr) dc h1⟩
  |_=>exact h1.elim
theorem OR (hc:X.calm=true):bP X (.builtin "sum") (rC X.K Ξ vw):=by
 rintro pins s σ H xs us Q I r ⟨w,ds,rfl,S,aq,h⟩
 unfold vw at h
 split at h
 ·rename_i es ys
  obtain⟨v,u,rfl,dv,du⟩:=oF aq
  have j9:=dv
  simp only[DV] at j9
  obtain⟨l,all,rfl,ha,da⟩:=j9
  have G7:=du
  simp only[DV] at G7
  obtain⟨q,zs,rfl,hz,dz⟩:=G7
  exact Kc hc (cE (X:=X.cA)) pins s σ w.H _ us Q I r ⟨l,q,all,zs,rfl,ha.sq,hz,M4 (Ξ:=Ξ) S ha da du h⟩
 ·exact h.elim
end
end DI
namespace L2
open PySem PySem.Spec PyProof.Rows
open AutoSeq1 (wpAny_loadPart')
section
variable {prog:Program} {w:World} {A:Around} {E:Value->Shared->Prop} {s:Shared}
theorem HU {r:Addr} {a b c:Int} {t u v:Tok} {n:Nat} {Q:List Value->Shared->Prop} (hh:A.handled=none) (hr:IsRange s.heap r a b c t u v) (yF:Builtin.Range.small a b c=true)
  (hn:Builtin.Range.rangeSize a b c=n) (hlen:n<=2 ^ 24)
  (hQ:∀(h':Heap) (tk:Nat) (acc:Array Value),(∀b o,s.heap.get? b=some o->h'.get? b=some o)->ItemsOf (λi v=>∃t,v=.int (a+i*c) t) acc n->Q acc.toList { s with heap:=h',toks:=tk }) :
  wpAny (model prog w) A (collect (.ref r)) Q E s:=by
 unfold collect
 refine wpAny_bind (wpAny_runValue (codeAny_builtin PySem.F.entry_proto_collect ?_))
 rw[Around.under_plainId PySem.F.plain_proto_collect _]
 show wpAny _ A.in1 (newList [] >>= λl=>again (.builtin "list.__iadd__" ⟨[l,.ref r],[]⟩)) _ _ s
 refine wpAny_bind (wpAny_newObj_type ?_)
 refine wpAny_pure ⟨plainId_quiet PySem.F.plain_list_iadd _,codeAny_builtin PySem.F.entry_list_iadd ?_⟩
 rw[Around.under_plainId PySem.F.plain_list_iadd _]
 show wpAny _ A.in1 (Builtin.List.listExtendWith (.ref s.heap.objs.size) (.ref r) (.ref s.heap.objs.size)) _ _ _
 have hS:(s.heap.push { cls:=.type "list",data:=.seq ([]:List Value).toArray }).get? s.heap.objs.size=some { cls:=.type "list",data:=.seq #[] 0 }:=Heap.get?_push_size _ rfl
 have Gm:∀(s':Shared),(∃acc c',s'.heap.get? s.heap.objs.size=some { cls:=.type "list",dict:=none,data:=.seq acc c',slots:=#[] }/\Q acc.toList s')->wpAny (model prog w) A (match Value.ref s.heap.objs.size with
   |Value.ref a=>do
    match (<- load a).data with
     |Data.seq xs _=>pure xs.toList
     |_=>unsupported "internal:collect"
   |_=>unsupported "internal:collect") Q E s':=λs' ⟨acc,c',hg,hq⟩=>by
  show wpAny _ A (load s.heap.objs.size >>= _) _ _ _
  exact wpAny_bind (wpAny_load hg (wpAny_pure hq))
 refine wpAny_mono (wpAny_extend_range (A:=A) (R:=λr s'=>r=.ok (.ret (.ref s.heap.objs.size))/\∃acc c',s'.heap.get? s.heap.objs.size=some { cls:=.type "list",dict:=none,data:=.seq acc c',slots:=#[] }/\Q acc.toList s') (s:={ s with heap:=s.heap.push { cls:=.type "list",data:=.seq ([]:List Value).toArray } }) hh (Heap.get?_push_of_some _ hr) yF hn hlen _ _ 0 hS λh' tk dN c' hk wD jk=>⟨rfl,dN,c',wD,hQ h' tk dN (λb o e=>hk b o (Nat.ne_of_lt (Heap.lt_size e)) (Heap.get?_push_of_some _ e)) jk⟩) (λfin s' h=>?_) (λe s' h=>?_)
 ·cases fin with
  |done f =>
   obtain⟨e,h⟩:=h
   cases e
   exact Gm _ h
  |again c'=>exact⟨h.1,codeAny_mono h.2 λr pB hr=>by obtain⟨rfl,hr⟩:=hr;exact Gm _ hr⟩
 ·exact absurd h.1 (by simp)
theorem Hw {r:Addr} {a b c:Int} {t u v:Tok} {n:Nat} {Q:Value->Shared->Prop} (hh:A.handled=none) (hr:IsRange s.heap r a b c t u v) (yF:Builtin.Range.small a b c=true)
  (hn:Builtin.Range.rangeSize a b c=n) (hlen:n<=2 ^ 24)
  (hQ:∀(h':Heap) (tk:Nat) (acc:Array Value),(∀b o,s.heap.get? b=some o->h'.get? b=some o)->ItemsOf (λi v=>∃t,v=.int (a+i*c) t) acc n->Q (.ref h'.objs.size) { s with heap:=h'.push { cls:=.type "tuple",data:=.seq acc },toks:=tk }) :
  wpAny (model prog w) A (call (.type "tuple") [.ref r]) Q E s:=by
 have hsz:n<=sizeLine:=by rw[sizeLine_eq];omega
 refine callType_codes (Q₁:=λobj aZ=>aZ.TypeIs obj "tuple"/\Q obj aZ) PySem.F.called_tuple (PySem.F.typeCall_tuple_1 _) PySem.F.entry_object_init ?_ λobj aZ rp=>?_
 ·refine codeAny_of_tree ?_
  show wpAny _ A.in1.in1 (do checkBuiltinCall "tuple.__new__" ⟨[.type "tuple",.ref r],[]⟩;again (.builtin "tuple.__new__" ⟨[.type "tuple",.ref r],[]⟩)) _ _ s
  refine wpAny_bind (wpAny_of_eq (PySem.F.newCall_tuple_1 _) (wpAny_pure ⟨plainId_quiet PySem.F.plain_tuple_new _,codeAny_builtin PySem.F.entry_tuple_new ?_⟩))
  rw[Around.under_plainId PySem.F.plain_tuple_new _]
  have RH:=sub_tuple_self
  have Va:=init_tuple_lookup
  have VL:=madeHere_tuple
  have T4:s.TypeIs (.ref r) "range":=⟨_,hr,rfl⟩
  wp_walk using wpAny_typeOf T4,HU (A:=A.in1.in1) hh hr yF hn hlen
  intro h' tk acc hk jk
  show wpAny _ _ (Builtin.Tuple.tupleExact acc.toList.toArray >>= λv=>ret v) _ _ _
  unfold Builtin.Tuple.tupleExact
  refine wpAny_bind (wpAny_newObj_type ?_ (by show acc.toList.toArray.size<=sizeLine;simp only[Array.toArray_toList];rw[jk.1];exact hsz))
  refine wpAny_pure ?_
  have e:acc.toList.toArray=acc:=by simp
  rw[e]
  exact⟨⟨_,Heap.get?_push_size _ rfl,rfl⟩,hQ h' tk acc hk jk⟩
 ·exact⟨rp.1,PySem.F.args_object_init_2 obj _,object_init_meets PySem.F.called_tuple.init.lookup PySem.F.called_tuple.made (by decide) prog w A.in1 _ aZ ⟨rp.1,rfl,rp.2⟩⟩
end
end L2
namespace L2
open PySem PySem.Spec PyProof.Rows
section
variable {X:Cx}
theorem Kd (hc:X.calm=true):bP X (.type "tuple") (λxs H Q=>∃(p:Addr) (n:Nat),xs=[.ref p]/\H p=some (.bF 0 n)/\n<=1000000/\∀q,H q=none->Q (.ref q) (upd H q (.tup ((List.range n).map λi:Nat=>V.int (0+(i:Int)))))):=by
 intro pins s σ H xs us Q I r h
 obtain⟨p,n,rfl,hp,hn,q⟩:=h
 obtain⟨u,rfl,ru⟩:=vals1 r
 cases ru
 obtain⟨t1,t2,t3,hr⟩:=I.au p _ hp
 refine Hw (I.ok.hd hc) hr (small_one (by omega) (by omega) (by omega) (by omega)) (n:=n) ?_ (by omega) λh' tk acc hk hit=>?_
 ·rw[rangeSize_one]
  split<;>omega
 ·obtain⟨hsz,hit⟩:=hit
  have rv:=xh acc.toList 0 λi v e=>by
   obtain⟨t,e⟩:=hit i v (by simpa using e)
   exact⟨t,by rw[e,Nat.zero_add]⟩
  rw[Array.length_toList,hsz,<- List.range_eq_range'] at rv
  have I1:Inv X pins σ H { s with heap:=h',toks:=tk }:=I.kept (t':=tk) hk
  have I2:Inv X pins σ (upd H h'.objs.size (.tup ((List.range n).map λi:Nat=>V.int (0+(i:Int))))) { s with heap:=h'.push { cls:=.type "tuple",data:=.seq acc },toks:=tk } :=
   I1.laid (t':=tk) (λb o e=>Heap.get?_push_of_some _ e) (Nat.le_refl _) (show cb X.prog X.w _ _ _ (.tup _) from ⟨?_,acc.toList,rv,by simpa using IsTup.new h' acc⟩)
  ·exact⟨.ref h'.objs.size,_,I2,rfl,q _ (I1.au.fresh (Nat.le_refl _))⟩
  ·rw[List.length_map,List.length_range]
   exact Nat.le_trans hn (by decide)
end
end L2
namespace DI
open PySem L2
section
variable {X:Cx} {Ξ:Wd->bD->Prop} {a:Expr} {p pos:Pos} {fa:Env->aa->Res (List D)}
noncomputable def qY (ds:List D) (s:aa):Res D:=match ds with
 | [.int j]=>if (decide (0<=j)&&decide (j<=1000000))=true then ok (.tup (bF 0 j.toNat)) s else none
 |_=>none
theorem OS {p2 gA:Pos} (ha:PA X [a] (tA X.K Ξ fa)) (hc:X.calm=true) (hg:Gl X "tuple") (hm:X.mg "tuple"=none) (jx:Gl X "range") (nP:X.mg "range"=none)
  (he:starEach [a] X.env=(false,eval a X.env)::starEach [] X.env:=by rfl) (bX:(backTo gA (starEach [] X.env)).any (·.1)=false:=by rfl)
  (mr:starEach [.Call (.Name "range" p2) [a] [] gA] X.env=(false,eval (.Call (.Name "range" p2) [a] [] gA) X.env)::starEach [] X.env:=by rfl) (rG:(backTo pos (starEach [] X.env)).any (·.1)=false:=by rfl) :
  PE X (.Call (.Name "tuple" p) [.Call (.Name "range" p2) [a] [] gA] [] pos) (tE X.K Ξ (eB qY fa)) :=
 b9 (oh (Kd hc) hg hm (by decide +kernel) (iU (oh Cj jx nP (by decide +kernel) ha (by decide) (by decide) he bX) kC mr) (by decide) (by decide) mr rG) fun σ H Q aw=>by
  obtain⟨w,env,eH,S,eo,h⟩:=aw
  subst eH
  refine⟨w,env,rfl,S,eo,(Out.ak h).mono λw1 ds l1 S1 h1 vs aq=>?_⟩
  unfold qY at h1
  split at h1
  ·rename_i j
   split at h1
   ·rename_i hj
    simp only[Bool.and_eq_true,decide_eq_true_eq] at hj
    obtain⟨v,r,rfl,dv,dr⟩:=aq
    have e1:v=.int j:=dv
    have e2:r=[]:=dr
    subst e1 e2
    refine⟨j,rfl,λq hq=>⟨q,j.toNat,rfl,by rw[ck,Int.toNat_of_nonneg hj.1],by omega,λl hl=>?_⟩⟩
    have kW:(w1.grow q (.bF 0 j)).H l=none:=hl
    have S2:=S1.grow (o:=.bF 0 j) hq
    exact h1 ((w1.grow q (.bF 0 j)).grow l (.tup ((List.range j.toNat).map λi:Nat=>V.int (0+(i:Int))))) ((Fw.grow hq).le.trans (Fw.grow kW).le) (S2.grow kW) rfl (.ref l) ⟨l,_,rfl,aP.of ck,Eb _⟩
   ·exact h1.elim
  ·exact h1.elim
end
end DI
namespace L2
open PySem PySem.Spec PyProof.Rows
section
variable {X:Cx} {pos:Pos}
noncomputable def QG (i j k:Nat) (ta:TA):TS:=λD σ H=>ta σ H λvs H1=>∃v w u,vs=[v,w,u]/\D.nx (((σ.set i (some v)).set j (some w)).set k (some u)) H1
theorem vals3 {v w u:V} {us:List Value} (r:Vals [v,w,u] us):∃a b c,us=[a,b,c]/\RelV v a/\RelV w b/\RelV u c:=by
 cases r with
 |cons p q =>
  obtain⟨b,c,rfl,h1,h2⟩:=vals2 q
  exact⟨_,b,c,rfl,p,h1,h2⟩
theorem M5 {i j k:Nat} {x y z:Str} {a b c:Expr} {ta:TA} {px py pz pt:Pos} {kt k2 fR} (hc:X.calm=true) (hN:X.N.Nodup) (hi:X.N[i]?=some x) (hj:X.N[j]?=some y) (hk:X.N[k]?=some z) (ia:i≠j) (sG:i≠k) (pW:j≠k)
  (hx:X.env.scope.names.lookup x=some .local) (hy:X.env.scope.names.lookup y=some .local) (hz:X.env.scope.names.lookup z=some .local) (ha:PA X [a,b,c] ta)
  (hw:swappedStores [.Tuple [.Name x px,.Name y py,.Name z pz] kt pt] (.Tuple [a,b,c] k2 fR) X.env=pure (some [x,y,z]))
  (hs:swapsWithSole [.Tuple [.Name x px,.Name y py,.Name z pz] kt pt] (.Tuple [a,b,c] k2 fR) pos.line X.env=pure false) :
  PS X (.Assign [.Tuple [.Name x px,.Name y py,.Name z pz] kt pt] (.Tuple [a,b,c] k2 fR) pos) (QG i j k ta):=by
 intro pins s σ H D I h
 rw[exec_Assign_arm]
 refine wpAny_bind (wpAny_standAt ?_)
 rw[hs]
 refine wpAny_bind (wpAny_pure ?_)
 rw[if_neg (by decide)]
 refine wpAny_bind (Tuple_ (aA (ha _ pins s σ H _ I h) λus s1 aw=>?_))
 obtain⟨vs,H1,I1,r1,v,w,u,e1,q1⟩:=aw
 subst e1
 obtain⟨u1,u2,u3,rfl,rv,ib,ru⟩:=vals3 r1
 refine wpAny_newObj_type ?_ (by show 3<=sizeLine;decide)
 have I2:Inv X pins σ H1 { s1 with heap:=s1.heap.push { cls:=.type "tuple",data:=.seq [u1,u2,u3].toArray } }:=I1.kept (t':=s1.toks) λb o e=>Heap.get?_push_of_some _ e
 rw[hw]
 refine wpAny_bind (wpAny_pure ?_)
 show wpAny (model X.prog X.w) X.A (do rule "assign.swapped-stores";let items <- unpackItems (.ref s1.heap.objs.size) 3 none;assignInOrder [λv=>bindName X.env z v,λv=>bindName X.env y v,λv=>bindName X.env x v] items.reverse;pure Flow.next) _ _ _
 refine wpAny_bind (wpAny_rule (wpAny_bind (unpackItems_tuple (items:=#[u1,u2,u3]) (I.ok.hd hc) (IsTup.new s1.heap _) λh' rY=>?_)))
 have I3:=I2.kept (h':=h') (t':=s1.toks) λb o e=>rY b o (Nat.ne_of_lt (Heap.lt_size e)) e
 show wpAny _ _ (assignInOrder [λv=>bindName X.env z v,λv=>bindName X.env y v,λv=>bindName X.env x v] [u3,u2,u1] >>= λ_=>pure Flow.next) _ _ _
 refine wpAny_bind (assignInOrder_cons (wpAny_bindName (mK I3 hN hk (.inl hz) ru (λs2 I4=>?_) (.inr hz))))
 refine assignInOrder_cons (wpAny_bindName (mK I4 hN hj (.inl hy) ib (λs3 I5=>?_) (.inr hy)))
 refine assignInOrder_cons (wpAny_bindName (mK I5 hN hi (.inl hx) rv (λs4 I6=>assignInOrder_nil (wpAny_pure ?_)) (.inr hx)))
 rw[List.set_comm _ _ (Ne.symm pW),List.set_comm _ _ (Ne.symm sG),List.set_comm _ _ (Ne.symm ia)] at I6
 exact⟨_,H1,I6,q1⟩
end
end L2
namespace DI
open PySem L2
section
variable {X:Cx} {Ξ:Wd->bD->Prop} {a b c:Expr} {pos:Pos} {fa:Env->aa->Res (List D)}
noncomputable def ph (i j k:Nat) (fa:Env->aa->Res (List D)):Env->aa->Res Fl:=λenv s=>ak (fa env s) λds s=>match ds with
 | [x,y,z]=>ok (.nx (((env.set i (some x)).set j (some y)).set k (some z))) s
 |_=>none
theorem OT (i j k:Nat) {x y z:Str} {px py pz pt:Pos} {kt k2 fR} (hc:X.calm=true) (hN:X.N.Nodup) (ha:PA X [a,b,c] (tA X.K Ξ fa)) (hi:X.N[i]?=some x:=by rfl) (hj:X.N[j]?=some y:=by rfl) (hk:X.N[k]?=some z:=by rfl) (ia:i≠j:=by decide) (sG:i≠k:=by decide) (pW:j≠k:=by decide)
  (hx:X.env.scope.names.lookup x=some .local:=by rfl) (hy:X.env.scope.names.lookup y=some .local:=by rfl) (hz:X.env.scope.names.lookup z=some .local:=by rfl)
  (hw:swappedStores [.Tuple [.Name x px,.Name y py,.Name z pz] kt pt] (.Tuple [a,b,c] k2 fR) X.env=pure (some [x,y,z]):=by rfl)
  (hs:swapsWithSole [.Tuple [.Name x px,.Name y py,.Name z pz] kt pt] (.Tuple [a,b,c] k2 fR) pos.line X.env=pure false:=by rfl) :
  PS X (.Assign [.Tuple [.Name x px,.Name y py,.Name z pz] kt pt] (.Tuple [a,b,c] k2 fR) pos) (tS X.K Ξ (ph i j k fa)):=jL (M5 hc hN hi hj hk ia sG pW hx hy hz ha hw hs) λD0 σ H aw=>by
 obtain⟨w,env,eH,S,eo,h⟩:=aw
 subst eH
 refine⟨w,env,rfl,S,eo,(Out.ak h).mono λw1 ds l1 S1 h1 vs aq=>?_⟩
 split at h1
 ·obtain⟨v,r,rfl,dv,dr⟩:=aq
  obtain⟨u,t,rfl,du,dt⟩:=oF dr
  exact⟨v,u,t,rfl,aF S1 h1 _ ((((eo.le l1).set dv i).set du j).set dt k)⟩
 ·exact h1.elim
end
end DI
namespace DI
open PySem L2
noncomputable def notStar:Expr->Bool
 | .Starred ..=>false
 |_=>true
theorem M6 {e:Expr} {es:List Expr} {env:PySem.Env} (h:notStar e=true):starEach (e::es) env=(false,eval e env)::starEach es env:=by
 cases e<;>first|rfl|cases h
section
variable {X:Cx} {Ξ:Wd->bD->Prop} {e:Expr} {es:List Expr} {f:Env->aa->Res D} {fa:Env->aa->Res (List D)} {pos:Pos}
theorem bR (ha:PE X e (tE X.K Ξ f)) (hr:PA X es (tA X.K Ξ fa)) (h:notStar e=true):PA X (e::es) (tA X.K Ξ (ae f fa)):=ah ha hr (M6 h)
theorem OU {e1 e2 e3 e4 e5 e6 e7 e8:Expr} {f1 f2 f3 f4 f5 f6 f7 f8:Env->aa->Res D} (h1:PE X e1 (tE X.K Ξ f1)) (h2:PE X e2 (tE X.K Ξ f2)) (h3:PE X e3 (tE X.K Ξ f3)) (h4:PE X e4 (tE X.K Ξ f4)) (h5:PE X e5 (tE X.K Ξ f5)) (h6:PE X e6 (tE X.K Ξ f6)) (h7:PE X e7 (tE X.K Ξ f7)) (h8:PE X e8 (tE X.K Ξ f8)) (s1:notStar e1=true:=by rfl) (s2:notStar e2=true:=by rfl) (s3:notStar e3=true:=by rfl) (s4:notStar e4=true:=by rfl) (s5:notStar e5=true:=by rfl) (s6:notStar e6=true:=by rfl) (s7:notStar e7=true:=by rfl) (s8:notStar e8=true:=by rfl):PE X (.List [e1,e2,e3,e4,e5,e6,e7,e8] pos) (tE X.K Ξ (cM (ae f1 (ae f2 (ae f3 (ae f4 (ae f5 (ae f6 (ae f7 (ae f8 ag)))))))))):=fF (bR h1 (bR h2 (bR h3 (bR h4 (bR h5 (bR h6 (bR h7 (bR h8 aj s8) s7) s6) s5) s4) s3) s2) s1)
theorem OV {e1 e2 e3 e4 e5 e6 e7 e8 e9:Expr} {f1 f2 f3 f4 f5 f6 f7 f8 f9:Env->aa->Res D} (h1:PE X e1 (tE X.K Ξ f1)) (h2:PE X e2 (tE X.K Ξ f2)) (h3:PE X e3 (tE X.K Ξ f3)) (h4:PE X e4 (tE X.K Ξ f4)) (h5:PE X e5 (tE X.K Ξ f5)) (h6:PE X e6 (tE X.K Ξ f6)) (h7:PE X e7 (tE X.K Ξ f7)) (h8:PE X e8 (tE X.K Ξ f8)) (h9:PE X e9 (tE X.K Ξ f9)) (s1:notStar e1=true:=by rfl) (s2:notStar e2=true:=by rfl) (s3:notStar e3=true:=by rfl) (s4:notStar e4=true:=by rfl) (s5:notStar e5=true:=by rfl) (s6:notStar e6=true:=by rfl) (s7:notStar e7=true:=by rfl) (s8:notStar e8=true:=by rfl) (s9:notStar e9=true:=by rfl):PE X (.List [e1,e2,e3,e4,e5,e6,e7,e8,e9] pos) (tE X.K Ξ (cM (ae f1 (ae f2 (ae f3 (ae f4 (ae f5 (ae f6 (ae f7 (ae f8 (ae f9 ag))))))))))):=fF (bR h1 (bR h2 (bR h3 (bR h4 (bR h5 (bR h6 (bR h7 (bR h8 (bR h9 aj s9) s8) s7) s6) s5) s4) s3) s2) s1)
theorem M7 {e1 e2 e3 e4 e5 e6 e7 e8 e9 fB et A4 A5 A6 A7 A8 A9 Ba:Expr} {f1 f2 f3 f4 f5 f6 f7 f8 f9 G8 G9 Ha Hb Hc Hd He Hf Hg:Env->aa->Res D} (h1:PE X e1 (tE X.K Ξ f1)) (h2:PE X e2 (tE X.K Ξ f2)) (h3:PE X e3 (tE X.K Ξ f3)) (h4:PE X e4 (tE X.K Ξ f4)) (h5:PE X e5 (tE X.K Ξ f5)) (h6:PE X e6 (tE X.K Ξ f6)) (h7:PE X e7 (tE X.K Ξ f7)) (h8:PE X e8 (tE X.K Ξ f8)) (h9:PE X e9 (tE X.K Ξ f9)) (T5:PE X fB (tE X.K Ξ G8)) (pJ:PE X et (tE X.K Ξ G9)) (pH:PE X A4 (tE X.K Ξ Ha)) (T6:PE X A5 (tE X.K Ξ Hb)) (T7:PE X A6 (tE X.K Ξ Hc)) (sC:PE X A7 (tE X.K Ξ Hd)) (T8:PE X A8 (tE X.K Ξ He)) (T9:PE X A9 (tE X.K Ξ Hf)) (Ua:PE X Ba (tE X.K Ξ Hg)) (s1:notStar e1=true:=by rfl) (s2:notStar e2=true:=by rfl) (s3:notStar e3=true:=by rfl) (s4:notStar e4=true:=by rfl) (s5:notStar e5=true:=by rfl) (s6:notStar e6=true:=by rfl) (s7:notStar e7=true:=by rfl) (s8:notStar e8=true:=by rfl) (s9:notStar e9=true:=by rfl) (Ub:notStar fB=true:=by rfl) (Uc:notStar et=true:=by rfl) (Ud:notStar A4=true:=by rfl) (Ue:notStar A5=true:=by rfl) (Ug:notStar A6=true:=by rfl) (Uh:notStar A7=true:=by rfl) (Ui:notStar A8=true:=by rfl) (Uj:notStar A9=true:=by rfl) (Uk:notStar Ba=true:=by rfl):PE X (.List [e1,e2,e3,e4,e5,e6,e7,e8,e9,fB,et,A4,A5,A6,A7,A8,A9,Ba] pos) (tE X.K Ξ (cM (ae f1 (ae f2 (ae f3 (ae f4 (ae f5 (ae f6 (ae f7 (ae f8 (ae f9 (ae G8 (ae G9 (ae Ha (ae Hb (ae Hc (ae Hd (ae He (ae Hf (ae Hg ag)))))))))))))))))))):=fF (bR h1 (bR h2 (bR h3 (bR h4 (bR h5 (bR h6 (bR h7 (bR h8 (bR h9 (bR T5 (bR pJ (bR pH (bR T6 (bR T7 (bR sC (bR T8 (bR T9 (bR Ua aj Uk) Uj) Ui) Uh) Ug) Ue) Ud) Uc) Ub) s9) s8) s7) s6) s5) s4) s3) s2) s1)
end
end DI
namespace DI.aI
open PySem L2 DI
noncomputable def qo:List D->aa->Res D:=bw 2 3 (ax (bq (aB og (ae (ab 0) (ae (ab 1) ag))) (gN 2)) (ax (bt (ba (e2 o7 (ab 2) (e2 kJ (eC (.int 10)) (eC (.int 18))))) (aG (eNew (ae (e2 lO (ab 2) (e2 kJ (eC (.int 10)) (eC (.int 18)))) (ae (eC (.bl true)) ag)))) bA) (aG (eNew (ae (e2 eJ (ab 2) (eC (.int 2147483647))) (ae (eC (.bl false)) ag))))))
noncomputable def dA:List D->aa->Res D:=bw 2 4 (ax (bt (bH (e2 aD (ab 0) (eC (.int 1)))) (ax (bq (e2 eJ (e2 aD (ab 0) (eC (.int 0))) (ab 1)) (gN 2)) (ax (kQ (e2 mW (e2 aD (ab 0) (eC (.int 0))) (ab 1)) (ab 0) (eC (.int 0))) (aG (ab 2)))) bA) (ax (kQ (e2 eJ (e2 aS (e2 dY (e2 aD (ab 0) (eC (.int 0))) (eC (.int 48271))) (eC (.int 29))) (eC (.int 2147483647))) (ab 0) (eC (.int 0))) (ax (bq (e2 eJ (e2 aS (e2 aS (e2 dY (e2 aD (ab 0) (eC (.int 0))) (e2 aD (ab 0) (eC (.int 0)))) (e2 dY (eC (.int 39373)) (e2 aD (ab 0) (eC (.int 0))))) (eC (.int 7))) (eC (.int 2147483629))) (gN 3)) (ax (bq (e2 eJ (e2 aS (e2 dY (ab 3) (ab 3)) (e2 dY (eC (.int 16807)) (ab 3))) (eC (.int 2147483587))) (gN 3)) (aG (e2 eJ (e2 mW (ab 3) (eC (.int 8))) (ab 1)))))))
noncomputable def qp:List D->aa->Res D:=bw 2 2 (aG (eB fg (ae (cL 1 [0] (dS (ae (ab 1) ag)) (gN 0) (ba (e2 cg (aB dA (ae (ab 1) (ae (eC (.int 2)) ag))) (eC (.int 1)))) (ab 0)) ag)))
noncomputable def qr:List D->aa->Res D:=bw 2 8 (ax (pb 2 3 (ae (e2 aS (eC (.int 1)) (aB dA (ae (ab 0) (ae (ab 1) ag)))) (ae (aB dA (ae (ab 0) (ae (eC (.int 4)) ag))) ag))) (ax (bq (eNew ag) (gN 4)) (ax (eT (dS (ae (ab 2) ag)) (gN 5) (ax (bq (aB qp (ae (ab 0) (ae (e2 aD (cM (ae (eC (.int 2)) (ae (eC (.int 3)) (ae (eC (.int 4)) (ae (eC (.int 8)) ag))))) (ab 3)) ag))) (gN 6)) (ax (bt (gw (ba (e2 cC (ab 4) (cM ag))) (ba (e2 cg (aB dA (ae (ab 0) (ae (eC (.int 4)) ag))) (eC (.int 0))))) (ax (bq (e2 aD (ab 4) (aB dA (ae (ab 0) (ae (eB bb (ae (ab 4) ag)) ag)))) (gN 7)) (bq (wF (ba (e2 cg (aB dA (ae (ab 0) (ae (eC (.int 2)) ag))) (eC (.int 0)))) (eB fg (ae (e1 qm (e2 aS (ab 7) (ab 6))) ag)) (ab 7)) (gN 6))) bA) (fj (jl (ab 4) (ab 6)))))) (aG (eB fg (ae (ab 4) ag))))))
noncomputable def mG:List D->aa->Res D:=bw 1 1 (bt (cG (bH (aB tu (ae (ab 0) (ae (eC (.int (9))) ag))))) GR bA)
noncomputable def tO:List D->aa->Res D:=bw 3 3 (aG (dO (aB mI (ae (e2 aD (ab 0) (ab 2)) (ae (e2 aD (ab 0) (ab 1)) ag))) (pO (e2 cC (e2 aD (ab 0) (ab 2)) (e2 aD (ab 0) (ab 1))) (e2 fN (ab 1) (ab 2)))))
noncomputable def qc:Nat->List D->aa->Res D
 |0=>λ_ _=>none
 |n+1=>bw 4 5 (ax (eT (dS (ae (eB bb (ae (ab 0) ag)) ag)) (gN 4) (bt (gw (ba (e2 kr (ab 4) (ab 3))) (bH (aB tO (ae (ab 0) (ae (ab 1) (ae (ab 4) ag)))))) (ax (rM (eC (.bl true)) (ab 3) (ab 4)) (bt (dZ (ba (e2 kr (ab 4) (ab 2))) (bH (aB (qc n) (ae (ab 0) (ae (e2 m6 (ab 2) (ab 4)) (ae (ab 2) (ae (ab 3) ag))))))) (ax (rM (ab 1) (ab 2) (ab 4)) (aG (eC (.bl true)))) bA)) bA)) (aG (eC (.bl false))))
noncomputable def tH:List D->aa->Res D:=bw 1 3 (ax (bq qX (gN 1)) (ax (eT (dS (ae (eB bb (ae (ab 0) ag)) ag)) (gN 2) (fj (aB (qc 12) (ae (ab 0) (ae (ab 2) (ae (ab 1) (ae qX ag))))))) (aG (ab 1))))
noncomputable def t6:List D->aa->Res D:=bw 2 3 (ax (bq (eNew (ae (ab 0) ag)) (gN 2)) (ax (vH 20 (ba (e2 oU (e2 aD (ab 2) (e1 i9 (eC (.int 1)))) (ab 1))) (fj (jl (ab 2) (e2 m6 (ab 1) (e2 aD (ab 2) (e1 i9 (eC (.int 1)))))))) (aG (eB fg (ae (ab 2) ag)))))
noncomputable def qh:List D->aa->Res D:=bw 1 3 (ax (fj (aB mG (ae (ab 0) ag))) (ax (bq (aB tH (ae (ab 0) ag)) (gN 1)) (ax (bq (y9 (ab 1)) (gN 2)) (aG (eB fg (ae (cL 1 [2,1] (dS (ae (eB bb (ae (ab 0) ag)) ag)) (gN 0) (ba (e2 kr (ab 0) (ab 2))) (aB t6 (ae (ab 0) (ae (ab 1) ag)))) ag))))))
noncomputable def qd:List D->aa->Res D:=bw 3 4 (ax (bq (e2 aD (ab 0) (ab 2)) (gN 3)) (aG (rA (eB vN (ae (cL 1 [3,0] (c9 (ab 1)) (gN 0) dI (pO (aB mI (ae (ab 1) (ae (e2 aD (ab 2) (ab 0)) ag))) (aB mI (ae (e2 aD (ab 2) (ab 0)) (ae (ab 1) ag))))) ag)))))
noncomputable def tw:List D->aa->Res D:=bw 1 3 (ax (bq (cM (ae (bp ag) ag)) (gN 1)) (ax (eT (dS (ae (eB bb (ae (ab 0) ag)) ag)) (gN 2) (bq (e2 aS (ab 1) (cL 1 [2,0] (c9 (ab 1)) (gN 0) (bH (aB qd (ae (ab 2) (ae (ab 0) (ae (ab 1) ag))))) (e2 aS (ab 0) (bp (ae (ab 1) ag))))) (gN 1))) (aG (e1 yE (ab 1)))))
noncomputable def qb:List D->aa->Res D:=bw 1 1 (ax (fj (aB mG (ae (ab 0) ag))) (aG (aB tw (ae (ab 0) ag))))
noncomputable def oi:List D->aa->Res D:=bw 1 2 (ax (bq (cM (ae (eC .ay) (ae (eC (.bl true)) (ae (eC (.bl false)) (ae (eC (.int 0)) (ae (eC (.int 1)) (ae (e1 i9 (eC (.int 1))) (ae (eC (.int 8)) (ae (eC (.int 31)) (ae (e2 lO (e2 kJ (eC (.int 10)) (eC (.int 30))) (eC (.int 1))) (ae (eC (.str "")) (ae (eC (.str "-")) (ae (eC (.str "0/1")) (ae (eC (.str "mended 0 0 1")) (ae (bp ag) (ae (bp (ae (eC (.int 0)) ag)) (ae (cM (ae (eC (.int 0)) ag)) (ae (cM ag) (ae (eC (.aY [])) ag))))))))))))))))))) (gN 1)) (ax (bq (e2 aS (ab 1) (cM (ae (eC (.aY [(Sum.inl 0,1)])) (ae (bp (ae (eC (.int 0)) (ae (eC (.int 1)) ag))) (ae (bp (ae (eC (.int 1)) (ae (eC (.int 0)) ag))) (ae (bp (ae (bp ag) (ae (bp ag) ag))) (ae (bp (ae (bp (ae (eC (.int 0)) ag)) (ae (bp (ae (eC (.int 0)) ag)) ag))) (ae (bp (ae (eC (.str "mended")) (ae (eC (.int 0)) (ae (eC (.int 0)) ag)))) (ae (bp (ae (bp (ae (eC (.int 0)) ag)) ag)) (ae (eC (.str "a\tb")) (ae (bp (ae (cM (ae (eC (.int 1)) ag)) (ae (eC (.str "x")) ag))) ag))))))))))) (gN 1)) (aG (e2 aD (ab 1) (aB dA (ae (ab 0) (ae (eB bb (ae (ab 1) ag)) ag)))))))
noncomputable def iu:List D->aa->Res D:=bw 3 9 (ax (bt (ba (e2 cg (ab 2) (bp ag))) (aG (aB oi (ae (ab 0) ag))) bA) (ax (ph 3 4 5 (ae (aB dA (ae (ab 0) (ae (eB bb (ae (ab 2) ag)) ag))) (ae (aB dA (ae (ab 0) (ae (eC (.int 9)) ag))) (ae (aB dA (ae (ab 0) (ae (e2 aS (eB bb (ae (ab 1) ag)) (eC (.int 1))) ag))) ag)))) (ax (bq (e2 aD (cM (ae (ab 5) (ae (eC (.bl true)) (ae (eC .ay) (ae (e1 i9 (eC (.int 1))) (ae (bp (ae (ab 5) ag)) (ae (bp ag) (ae (cM (ae (eC (.int 0)) ag)) (ae (eC (.str "0")) ag))))))))) (aB dA (ae (ab 0) (ae (eC (.int 8)) ag)))) (gN 6)) (ax (bt (ba (e2 cg (ab 4) (eC (.int 0)))) (aG (e2 aS (bQ (ab 2) bT (bI (ab 3))) (bQ (ab 2) (bI (e2 aS (ab 3) (eC (.int 1)))) bT))) bA) (ax (bt (ba (e2 cg (ab 4) (eC (.int 1)))) (aG (e2 aS (e2 aS (bQ (ab 2) bT (bI (ab 3))) (bQ (ab 2) (bI (ab 3)) (bI (e2 aS (ab 3) (eC (.int 1)))))) (bQ (ab 2) (bI (ab 3)) bT))) bA) (ax (bt (ba (e2 cg (ab 4) (eC (.int 2)))) (aG (e1 ni (ab 2))) bA) (ax (bt (ba (e2 cg (ab 4) (eC (.int 3)))) (aG (e2 aD (cM (ae (eB vm (ae (ab 2) ag)) (ae (e2 aD (ab 2) (ab 3)) (ae (e2 aS (ab 2) (bp (ae (ab 6) ag))) ag)))) (aB dA (ae (ab 0) (ae (eC (.int 3)) ag))))) bA) (ax (bt (gw (ba (e2 cg (ab 4) (eC (.int 4)))) (bH (eB bh (ae (e2 aD (ab 2) (ab 3)) (ae (eC (.ty "tuple")) ag))))) (aG (bp (ae (eB vw (ae (cL 1 [] (c9 (ab 2)) (gN 0) (bH (eB bh (ae (ab 0) (ae (eC (.ty "tuple")) ag)))) (ab 0)) (ae (bp ag) ag))) ag))) bA) (ax (bt (gw (ba (e2 fN (ab 4) (eC (.int 7)))) (gw (bH (eB bh (ae (e2 aD (ab 2) (ab 3)) (ae (eC (.ty "tuple")) ag)))) (ba (e2 cC (e2 aD (ab 2) (ab 3)) (bp ag))))) (ax (bq (aB dA (ae (ab 0) (ae (eB bb (ae (e2 aD (ab 2) (ab 3)) ag)) ag))) (gN 7)) (ax (bq (e2 aD (cM (ae (e2 aS (e2 aS (bQ (e2 aD (ab 2) (ab 3)) bT (bI (ab 7))) (bp (ae (ab 6) ag))) (bQ (e2 aD (ab 2) (ab 3)) (bI (e2 aS (ab 7) (eC (.int 1)))) bT)) (ae (e1 ni (e2 aD (ab 2) (ab 3))) (ae (bQ (e2 aD (ab 2) (ab 3)) bT (bI (ab 7))) ag)))) (e2 eJ (ab 4) (eC (.int 3)))) (gN 8)) (aG (e2 aS (e2 aS (bQ (ab 2) bT (bI (ab 3))) (bp (ae (ab 8) ag))) (bQ (ab 2) (bI (e2 aS (ab 3) (eC (.int 1)))) bT))))) bA) (aG (e2 aS (e2 aS (bQ (ab 2) bT (bI (ab 3))) (bp (ae (ab 6) ag))) (bQ (ab 2) (bI (e2 aS (ab 3) (eC (.int 1)))) bT))))))))))))
noncomputable def iq:Nat->List D->aa->Res D
 |0=>λ_ _=>none
 |n+1=>bw 2 2 (ax (bt (bH (e1 vt (ab 1))) (ax (bt (dZ (ba (e2 cC (eB bh (ae (ab 0) (ae (eC (.ty "list")) ag))) (eB bh (ae (ab 1) (ae (eC (.ty "list")) ag))))) (ba (e2 cC (eB bh (ae (ab 0) (ae (eC (.ty "tuple")) ag))) (eB bh (ae (ab 1) (ae (eC (.ty "tuple")) ag)))))) (aG (eC (.bl false))) bA) (ax (bt (ba (e2 cC (eB bb (ae (ab 0) ag)) (eB bb (ae (ab 1) ag)))) (aG (eC (.bl false))) bA) (aG (e2 ow (eC (.bl false)) (cL 2 [] (lU (ae (ab 0) (ae (ab 1) ag))) (gT [gN 0,gN 1]) dI (aB (iq n) (ae (ab 0) (ae (ab 1) ag)))))))) bA) (aG (dO (e2 cg (eB bh (ae (ab 0) (ae (eC (.ty "bool")) ag))) (eB bh (ae (ab 1) (ae (eC (.ty "bool")) ag)))) (e2 cg (ab 0) (ab 1)))))
noncomputable def mE:List D->aa->Res D:=bw 2 2 (aG (dO (eB bh (ae (ab 1) (ae (eC (.ty "tuple")) ag))) (eB iG (ae (cL 1 [0] (c9 (ab 1)) (gN 0) dI (aB jE (ae (ab 0) (ae (eB bb (ae (ab 1) ag)) ag)))) ag))))
noncomputable def oq:List D->aa->Res D:=bw 2 2 (aG (dO (aB mE (ae (ab 0) (ae (ab 1) ag))) (dO (e2 jV (eB bb (ae (ab 1) ag)) (eC (.int 0))) (eB iG (ae (cL 2 [0] (lU (ae (ab 1) (ae (bQ (ab 1) (bI (eC (.int 1))) bT) ag))) (gT [gN 0,gN 1]) dI (aB mI (ae (e2 aD (ab 2) (ab 1)) (ae (e2 aD (ab 2) (ab 0)) ag)))) ag)))))
noncomputable def lu:List D->aa->Res D:=bw 2 2 (ax (fj (aB mG (ae (ab 0) ag))) (ax (bt (dZ (cG (bH (eB bh (ae (ab 1) (ae (eC (.ty "tuple")) ag))))) (cG (bH (eB iG (ae (cL 1 [0] (c9 (ab 1)) (gN 0) dI (aB oq (ae (ab 1) (ae (ab 0) ag)))) ag))))) (aG (eC (.bl false))) bA) (aG (e2 cg (eB qF (ae (yA 2 [] (c9 (ab 1)) (gN 0) dI (c9 (ab 0)) (gN 1) dI (ab 1)) ag)) (eB qE (ae (eB bb (ae (ab 0) ag)) ag))))))
noncomputable def oj:List D->aa->Res D:=bw 2 2 (aG (e2 cg (cL 1 [1] (c9 (ab 0)) (gN 0) (ba (e2 ow (ab 0) (ab 1))) (ab 0)) (cM ag)))
noncomputable def lr:List D->aa->Res D:=bw 2 6 (ax (bt (cG (bH (eB bh (ae (ab 1) (ae (eC (.ty "tuple")) ag))))) (aG (eC (.bl false))) bA) (ax (bq (eNew ag) (gN 2)) (ax (eT (c9 (ab 1)) (gN 3) (ax (bt (dZ (cG (bH (eB bh (ae (ab 3) (ae (eC (.ty "tuple")) ag))))) (ba (e2 cg (ab 3) (bp ag)))) (aG (eC (.bl false))) bA) (eT (qQ (ae (ab 3) ag)) (gT [(gN 4),(gN 5)]) (ax (bt (dZ (cG (bH (eB bh (ae (ab 5) (ae (eC (.ty "int")) ag))))) (dZ (bH (eB bh (ae (ab 5) (ae (eC (.ty "bool")) ag)))) (cG (ba (j7 kP fN (eC (.int 0)) (ab 5) (eB bb (ae (ab 0) ag))))))) (aG (eC (.bl false))) bA) (ax (bt (gw (ba (e2 jV (ab 4) (eC (.int 0)))) (cG (bH (aB oj (ae (e2 aD (ab 0) (e2 aD (ab 3) (e2 lO (ab 4) (eC (.int 1))))) (ae (e2 aD (ab 0) (ab 5)) ag)))))) (aG (eC (.bl false))) bA) (fj (jl (ab 2) (ab 5)))))))) (aG (e2 cg (eB qF (ae (ab 2) ag)) (eB qE (ae (eB bb (ae (ab 0) ag)) ag)))))))
noncomputable def mC:List D->aa->Res D:=bw 2 2 (ax (fj (aB mG (ae (ab 0) ag))) (aG (dO (aB mE (ae (ab 0) (ae (ab 1) ag))) (dO (aB n6 (ae (ab 1) ag)) (eB iG (ae (cL 1 [0,1] (dS (ae (eB bb (ae (ab 1) ag)) ag)) (gN 0) dI (aB qd (ae (ab 1) (ae (bQ (ab 2) bT (bI (ab 0))) (ae (e2 aD (ab 2) (ab 0)) ag))))) ag))))))
noncomputable def qt:List D->aa->Res D:=bw 3 3 (aG (pO (aB oj (ae (e2 aD (ab 0) (ab 1)) (ae (e2 aD (ab 0) (ab 2)) ag))) (aB oj (ae (e2 aD (ab 0) (ab 2)) (ae (e2 aD (ab 0) (ab 1)) ag)))))
noncomputable def mB:List D->aa->Res D:=bw 2 4 (ax (bt (cG (bH (eB bh (ae (ab 1) (ae (eC (.ty "tuple")) ag))))) (aG (eC (.bl false))) bA) (ax (eT (qQ (ae (ab 1) ag)) (gT [(gN 2),(gN 3)]) (ax (bt (dZ (cG (bH (eB bh (ae (ab 3) (ae (eC (.ty "int")) ag))))) (dZ (bH (eB bh (ae (ab 3) (ae (eC (.ty "bool")) ag)))) (cG (ba (j7 kP fN (eC (.int 0)) (ab 3) (eB bb (ae (ab 0) ag))))))) (aG (eC (.bl false))) bA) (ax (bt (gw (ba (e2 jV (ab 2) (eC (.int 0)))) (ba (e2 o7 (e2 aD (ab 1) (e2 lO (ab 2) (eC (.int 1)))) (ab 3)))) (aG (eC (.bl false))) bA) (bt (ba (e2 cC (cL 1 [0,3] (c9 (bQ (ab 1) bT (bI (ab 2)))) (gN 0) (bH (aB qt (ae (ab 1) (ae (ab 0) (ae (ab 2) ag))))) (ab 0)) (cM ag))) (aG (eC (.bl false))) bA)))) (aG (eC (.bl true)))))
noncomputable def vz:List D->aa->Res D:=bw 1 12 (ax (eT (dS (ae (eB oR (ae (eC (.int 1)) (ae (eB qT (ae (eB bb (ae (ab 0) ag)) (ae (eC (.int 2)) ag))) ag))) ag)) (gN 1) (ax (bq (aB qo (ae (ab 0) (ae (ab 1) ag))) (gN 2)) (eT (dS (ae (eC (.int 2)) ag)) (gN 3) (ax (bq (aB qr (ae (ab 2) (ae (eC (.int 9)) ag))) (gN 4)) (ax (pb 5 6 (ae (aB qh (ae (ab 4) ag)) (ae (aB qb (ae (ab 4) ag)) ag))) (ax (bq (eB fg (ae (cL 1 [] (dS (ae (eB bb (ae (ab 4) ag)) ag)) (gN 0) dI (bp (ae (ab 0) ag))) ag)) (gN 7)) (ax (bq (eNew (ae (ab 5) (ae (ab 6) (ae (ab 7) (ae (eB qY (ae (eB bb (ae (ab 4) ag)) ag)) (ae (bp ag) (ae (bp (ae (e2 aD (ab 7) (eC (.int 0))) ag)) (ae (aB oi (ae (ab 2) ag)) ag)))))))) (gN 8)) (ax (eT (dS (ae (eC (.int 5)) ag)) (gN 9) (ax (bq (e2 mR (ab 8) (cM (ae (aB iu (ae (ab 2) (ae (ab 4) (ae (ab 5) ag)))) (ae (aB iu (ae (ab 2) (ae (ab 4) (ae (ab 6) ag)))) ag)))) (gN 8)) (fj (jl (ab 8) (aB iu (ae (ab 2) (ae (ab 4) (ae (ab 7) ag)))))))) (eT (c9 (rq (ab 8))) (gN 10) (ax (bq (eB ja (ae (bp (ae (ab 4) (ae (ab 10) ag))) ag)) (gN 11)) (ax (bt (cG (bH (aB (iq 8) (ae (aB lu (ae (ab 4) (ae (ab 10) ag))) (ae (aB lr (ae (ab 4) (ae (ab 10) ag))) ag))))) (aG (eC (.bl false))) bA) (ax (bt (cG (bH (aB (iq 8) (ae (aB mC (ae (ab 4) (ae (ab 10) ag))) (ae (aB mB (ae (ab 4) (ae (ab 10) ag))) ag))))) (aG (eC (.bl false))) bA) (bt (ba (e2 cC (eB ja (ae (bp (ae (ab 4) (ae (ab 10) ag))) ag)) (ab 11))) (aG (eC (.bl false))) bA))))))))))))) (aG (eC (.bl true))))
end DI.aI
namespace DI.aI
open PySem L2 DI
noncomputable def top (i:Nat):Stmt:=PySem.Challenge.pw_twinmoulds_k41_rows_and_strangers_looked.main.body.getD i (.Pass ⟨0,0,0,0⟩)
structure bZ (K:Frag) (mg:Str->Option Value):Prop where
 lJ:mg "all"=none
 OW:mg "any"=none
 qu:mg "bool"=none
 B6:mg "enumerate"=none
 yG:mg "int"=none
 cY:mg "isinstance"=none
 cP:mg "len"=none
 ox:mg "list"=none
 E5:mg "max"=none
 OX:mg "min"=none
 gb:mg "range"=none
 Ef:mg "repr"=none
 OY:mg "set"=none
 xq:mg "sorted"=none
 OZ:mg "sum"=none
 dG:mg "tuple"=none
 yH:mg "zip"=none
 xJ:∃t,mg "MARKS"=some (.int (8) t)
 yf:∃t,mg "HEAP"=some (.int (9) t)
 IE:∃f fd,Gd K mg "_law_cell_at" (top 29) ["_law_script","_law_k"] f fd
 Ke:∃f fd,Gd K mg "_law_state" (top 30) ["_law_script","_law_k"] f fd
 uC:∃f fd,Gd K mg "_law_take" (top 31) ["_law_state_here","_law_many"] f fd
 Kf:∃f fd,Gd K mg "_law_marks" (top 32) ["_law_state_here","_law_many"] f fd
 LF:∃f fd,Gd K mg "_law_heap" (top 37) ["_law_state_here","_law_most"] f fd
 B7:∃f fd,Gd K mg "is_rising" (top 8) ["things"] f fd
 Ig:∃f fd,Gd K mg "is_number" (top 5) ["thing"] f fd
 Cm:∃f fd,Gd K mg "is_below" (top 6) ["thing","many"] f fd
 Ju:∃f fd,Gd K mg "is_mark" (top 7) ["thing"] f fd
 Ih:∃f fd,Gd K mg "are_marks" (top 10) ["thing"] f fd
 Ho:∃f fd,Gd K mg "are_laid_marks" (top 12) ["thing","most"] f fd
 tQ:∃f fd,Gd K mg "need_heap" (top 19) ["thing"] f fd
 xi:∃f fd,Gd K mg "has_all" (top 11) ["marks","others"] f fd
 HV:∃f fd,Gd K mg "may_follow" (top 26) ["heap","place","other"] f fd
 HK:∃f fd,Gd K mg "find_behind" (top 25) ["heap","place","ahead","tried"] f fd
 HB:∃f fd,Gd K mg "places_ahead" (top 24) ["heap"] f fd
 IF:∃f fd,Gd K mg "row_from" (top 27) ["place","behind"] f fd
 Jv:∃f fd,Gd K mg "rows_of" (top 17) ["heap"] f fd
 BS:∃f fd,Gd K mg "is_strange" (top 22) ["heap","places","place"] f fd
 Hq:∃f fd,Gd K mg "most_strangers" (top 23) ["heap"] f fd
 HC:∃f fd,Gd K mg "strangers_of" (top 18) ["heap"] f fd
 CB:∃f fd,Gd K mg "_law_anyhow" (top 34) ["_law_state_here"] f fd
 LG:∃f fd,Gd K mg "_law_bent" (top 40) ["_law_state_here","_law_heap_here","_law_thing"] f fd
 LH:∃f fd,Gd K mg "_law_same" (top 33) ["_law_told","_law_due"] f fd
 BU:∃f fd,Gd K mg "are_places" (top 20) ["heap","thing"] f fd
 Kg:∃f fd,Gd K mg "is_row" (top 21) ["heap","thing"] f fd
 IG:∃f fd,Gd K mg "are_rows" (top 15) ["heap","thing"] f fd
 CC:∃f fd,Gd K mg "_law_within" (top 35) ["_law_one","_law_other"] f fd
 Ii:∃f fd,Gd K mg "_law_are_rows" (top 38) ["_law_heap_here","_law_thing"] f fd
 Hx:∃f fd,Gd K mg "are_strangers" (top 16) ["heap","thing"] f fd
 LJ:∃f fd,Gd K mg "_law_akin" (top 36) ["_law_heap_here","_law_one","_law_other"] f fd
 Hr:∃f fd,Gd K mg "_law_are_strangers" (top 39) ["_law_heap_here","_law_thing"] f fd
section
variable {P:Program} {w:World} {K:Frag} {mg:Str->Option Value} {base:Heap}
theorem Cn:bO ["_law_script","_law_k"] ["_law_script","_law_k"] (bu (top 29)):=⟨rfl,rfl,rfl,by decide +kernel,rfl,by decide +kernel,by decide +kernel⟩
theorem IH (F:bZ K mg) {f:Addr} {fd:FuncData} (G:Gd K mg "_law_cell_at" (top 29) ["_law_script","_law_k"] f fd):bg P w K mg base bB 1 f fd ["_law_script","_law_k"] (bL K og):=by
 have aJ:=Cn.nd
 exact bY (k:=0) G.fn Cn λbr A outer s H E hr=>(aL (cv (cx (nj hr) (af 1) (aR cR rfl F.cP cT (ah (af 0) aj)) (bU _)) (aK (aV (bC (af 0) (af 1)))) cu) (aK (aV aE)))
theorem C5:bO ["_law_script","_law_k","_law_cell"] ["_law_script","_law_k"] (bu (top 30)):=⟨rfl,rfl,rfl,by decide +kernel,rfl,by decide +kernel,by decide +kernel⟩
theorem Kh (F:bZ K mg) {f:Addr} {fd:FuncData} (G:Gd K mg "_law_state" (top 30) ["_law_script","_law_k"] f fd):bg P w K mg base bB 2 f fd ["_law_script","_law_k"] (bL K qo):=by
 obtain⟨_,_,t9⟩:=F.IE
 have aJ:=C5.nd
 exact bY (k:=1) G.fn C5 λbr A outer s H E hr=>(aL (cB 2 aJ (aQ (IH F t9) (hr.mono (by decide)) rfl t9.mg t9.fn.kp t9.b (ah (af 0) (ah (af 1) aj)))) (aL (cv (cx zS (af 2) (bo yY aE aE) (bU _)) (aK (aV (oO (ah (bo vi (af 2) (bo yY aE aE)) (ah cN aj))))) cu) (aK (aV (oO (ah (bo mY (af 2) aE) (ah cN aj)))))))
theorem Dt:bO ["_law_state_here","_law_many","_law_found","_law_mixed"] ["_law_state_here","_law_many"] (bu (top 31)):=⟨rfl,rfl,rfl,by decide +kernel,rfl,by decide +kernel,by decide +kernel⟩
theorem gJ (F:bZ K mg) {f:Addr} {fd:FuncData} (G:Gd K mg "_law_take" (top 31) ["_law_state_here","_law_many"] f fd):bg P w K mg base bB 1 f fd ["_law_state_here","_law_many"] (bL K dA):=by
 have aJ:=Dt.nd
 exact bY (k:=0) G.fn Dt λbr A outer s H E hr=>(aL (cv (di (bC (af 0) aE)) (aL (cB 2 aJ (bo mY (bC (af 0) aE) (af 1))) (aL (Fu (bo Fq (bC (af 0) aE) (af 1)) (af 0) aE) (aK (aV (af 2))))) cu) (aL (Fu (bo mY (bo cE (bo qS (bC (af 0) aE) aE) aE) aE) (af 0) aE) (aL (cB 3 aJ (bo mY (bo cE (bo cE (bo qS (bC (af 0) aE) (bC (af 0) aE)) (bo qS aE (bC (af 0) aE))) aE) aE)) (aL (cB 3 aJ (bo mY (bo cE (bo qS (af 3) (af 3)) (bo qS aE (af 3))) aE)) (aK (aV (bo mY (bo Fq (af 3) aE) (af 1))))))))
theorem C6:bO ["_law_state_here","_law_many"] ["_law_state_here","_law_many"] (bu (top 32)):=⟨rfl,rfl,rfl,by decide +kernel,rfl,by decide +kernel,by decide +kernel⟩
theorem Ki (F:bZ K mg) {f:Addr} {fd:FuncData} (G:Gd K mg "_law_marks" (top 32) ["_law_state_here","_law_many"] f fd):bg P w K mg base bB 2 f fd ["_law_state_here","_law_many"] (bL K qp):=by
 obtain⟨_,_,aX⟩:=F.uC
 have bN:(["_law_mark","_law_state_here"]:List Str).Nodup:=by decide +kernel
 have aJ:=C6.nd
 exact bY (k:=1) G.fn C6 λbr A outer s H E hr=>(aK (aV (mM ou rfl F.dG dM (ah (eD (N:=["_law_mark","_law_state_here"]) (nt:=1) (cap:=[0]) rfl (eO (by kernel_rfl)) (ff 0) (iW rfl F.gb (ah (af 1) aj)) (λcl C s H ex pn=>⟨(c8 (i:=0) bN rfl (Or.inl rfl)),(oQ (cx (fJ hr) (aQ (gJ F aX) (hr.mono (by decide)) rfl aX.mg aX.fn.kp aX.b (ah (af 1) (ah aE aj))) aE (bU _))),(af 0)⟩)) aj))))
theorem Du:bO ["_law_state_here","_law_most","_law_many","_law_way","_law_found","_law_turn","_law_marks_here","_law_other"] ["_law_state_here","_law_most"] (bu (top 37)):=⟨rfl,rfl,rfl,by decide +kernel,rfl,by decide +kernel,by decide +kernel⟩
theorem LK (F:bZ K mg) {f:Addr} {fd:FuncData} (G:Gd K mg "_law_heap" (top 37) ["_law_state_here","_law_most"] f fd):bg P w K mg base bB 3 f fd ["_law_state_here","_law_most"] (bL K qr):=by
 obtain⟨_,_,aX⟩:=F.uC
 obtain⟨_,_,uD⟩:=F.Kf
 have aJ:=Du.nd
 exact bY (k:=2) G.fn Du λbr A outer s H E hr=>(aL (EU 2 3 rfl aJ (ah (bo cE aE (aQ (gJ F aX) (hr.mono (by decide)) rfl aX.mg aX.fn.kp aX.b (ah (af 0) (ah (af 1) aj)))) (ah (aQ (gJ F aX) (hr.mono (by decide)) rfl aX.mg aX.fn.kp aX.b (ah (af 0) (ah aE aj))) aj))) (aL (cB 4 aJ (oO aj)) (aL (iZ PassesOwn.never rfl (iW rfl F.gb (ah (af 2) aj)) (gK 5 aJ) (aL (cB 6 aJ (aQ (Ki F uD) (hr.mono (by decide)) rfl uD.mg uD.fn.kp uD.b (ah (af 0) (ah (bC (fF (ah aE (ah aE (ah aE (ah aE aj))))) (af 3)) aj)))) (aL (cv (PW.pt (w_and (cx (lV hr) (af 4) (fF aj) (bU _)) (oE (cx (fJ hr) (aQ (gJ F aX) (hr.mono (by decide)) rfl aX.mg aX.fn.kp aX.b (ah (af 0) (ah aE aj))) aE (bU _))))) (aL (cB 7 aJ (bC (af 4) (aQ (gJ F aX) (hr.mono (by decide)) rfl aX.mg aX.fn.kp aX.b (ah (af 0) (ah (aR cR rfl F.cP cT (ah (af 4) aj)) aj))))) (aK (cB 6 aJ (RQ (cx (fJ hr) (aQ (gJ F aX) (hr.mono (by decide)) rfl aX.mg aX.fn.kp aX.b (ah (af 0) (ah aE aj))) aE (bU _)) (mM ou rfl F.dG dM (ah (Jn (bo cE (af 7) (af 6)) rfl rfl F.xq xF rfl F.OY Qr) aj)) (af 7))))) cu) (aK (kE (vo (af 4) (af 6))))))) (aK (aV (mM ou rfl F.dG dM (ah (af 4) aj)))))))
theorem B9:bO ["things"] ["things"] (bu (top 8)):=⟨rfl,rfl,rfl,by decide +kernel,rfl,by decide +kernel,by decide +kernel⟩
theorem Ca (F:bZ K mg) {f:Addr} {fd:FuncData} (G:Gd K mg "is_rising" (top 8) ["things"] f fd):bg P w K mg base bB 1 f fd ["things"] (bL K n6):=by
 have bN:(["ahead","behind"]:List Str).Nodup:=by decide +kernel
 have aJ:=B9.nd
 exact bY (k:=0) G.fn B9 λbr A outer s H E hr=>(aK (aV (aR (lP rfl) rfl F.lJ lQ (ah (eD (N:=["ahead","behind"]) (nt:=2) (cap:=[]) rfl (eO (by kernel_rfl)) (yw (om 0 (om 1 yc))) (yX rfl F.yH (ah (af 0) (ah (fm (af 0) (eM aE) fL) aj))) (λcl C s H ex pn=>⟨(uV rfl (mL (c8 (i:=0) bN rfl (Or.inl rfl)) (mL (c8 (i:=1) bN rfl (Or.inl rfl)) uG))),gQ,(gO (nj hr) (af 0) (af 1) (bU _))⟩)) aj))))
theorem Cb:bO ["thing"] ["thing"] (bu (top 5)):=⟨rfl,rfl,rfl,by decide +kernel,rfl,by decide +kernel,by decide +kernel⟩
theorem Ij (F:bZ K mg) {f:Addr} {fd:FuncData} (G:Gd K mg "is_number" (top 5) ["thing"] f fd):bg P w K mg base bB 1 f fd ["thing"] (bL K qe):=by
 have aJ:=Cb.nd
 exact bY (k:=0) G.fn Cb λbr A outer s H E hr=>(aK (aV (gk (aR dj rfl F.cY cZ (ah (af 0) (ah (dq y7 rfl F.yG) aj))) (gk (Fn (aR dj rfl F.cY cZ (ah (af 0) (ah (dq qC rfl F.qu) aj)))) (iz (gO zS (af 0) aE (bU _)))))))
theorem Co:bO ["thing","many"] ["thing","many"] (bu (top 6)):=⟨rfl,rfl,rfl,by decide +kernel,rfl,by decide +kernel,by decide +kernel⟩
theorem Cp (F:bZ K mg) {f:Addr} {fd:FuncData} (G:Gd K mg "is_below" (top 6) ["thing","many"] f fd):bg P w K mg base bB 2 f fd ["thing","many"] (bL K jE):=by
 obtain⟨_,_,tZ⟩:=F.Ig
 have aJ:=Co.nd
 exact bY (k:=1) G.fn Co λbr A outer s H E hr=>(aK (aV (gk (aQ (Ij F tZ) (hr.mono (by decide)) rfl tZ.mg tZ.fn.kp tZ.b (ah (af 0) aj)) (iz (gO (nj hr) (af 0) (af 1) (bU _))))))
theorem CD:bO ["thing"] ["thing"] (bu (top 7)):=⟨rfl,rfl,rfl,by decide +kernel,rfl,by decide +kernel,by decide +kernel⟩
theorem Jw (F:bZ K mg) {f:Addr} {fd:FuncData} (G:Gd K mg "is_mark" (top 7) ["thing"] f fd):bg P w K mg base bB 3 f fd ["thing"] (bL K uq):=by
 obtain⟨_,_,ko⟩:=F.Cm
 have aJ:=CD.nd
 exact bY (k:=2) G.fn CD λbr A outer s H E hr=>(aK (aV (aQ (Cp F ko) (hr.mono (by decide)) rfl ko.mg ko.fn.kp ko.b (ah (af 0) (ah (Gb F.xJ rfl) aj)))))
theorem Cc:bO ["thing"] ["thing"] (bu (top 10)):=⟨rfl,rfl,rfl,by decide +kernel,rfl,by decide +kernel,by decide +kernel⟩
theorem Ik (F:bZ K mg) {f:Addr} {fd:FuncData} (G:Gd K mg "are_marks" (top 10) ["thing"] f fd):bg P w K mg base bB 4 f fd ["thing"] (bL K tY):=by
 obtain⟨_,_,uu⟩:=F.Ju
 obtain⟨_,_,km⟩:=F.B7
 have bN:(["mark"]:List Str).Nodup:=by decide +kernel
 have aJ:=Cc.nd
 exact bY (k:=3) G.fn Cc λbr A outer s H E hr=>(aK (aV (gk (aR dj rfl F.cY cZ (ah (af 0) (ah (dq dM rfl F.dG) aj))) (gk (aR (lP rfl) rfl F.lJ lQ (ah (eD (N:=["mark"]) (nt:=1) (cap:=[]) rfl (eO (by kernel_rfl)) (ff 0) (gp (af 0)) (λcl C s H ex pn=>⟨(c8 (i:=0) bN rfl (Or.inl rfl)),gQ,(aQ (Jw F uu) (hr.mono (by decide)) rfl uu.mg uu.fn.kp uu.b (ah (af 0) aj))⟩)) aj)) (iz (aQ (Ca F km) (hr.mono (by decide)) rfl km.mg km.fn.kp km.b (ah (af 0) aj)))))))
theorem BG:bO ["thing","most"] ["thing","most"] (bu (top 12)):=⟨rfl,rfl,rfl,by decide +kernel,rfl,by decide +kernel,by decide +kernel⟩
theorem Hs (F:bZ K mg) {f:Addr} {fd:FuncData} (G:Gd K mg "are_laid_marks" (top 12) ["thing","most"] f fd):bg P w K mg base bB 5 f fd ["thing","most"] (bL K tu):=by
 obtain⟨_,_,t4⟩:=F.Ih
 have bN:(["marks"]:List Str).Nodup:=by decide +kernel
 have aJ:=BG.nd
 exact bY (k:=4) G.fn BG λbr A outer s H E hr=>(aK (aV (gk (aR dj rfl F.cY cZ (ah (af 0) (ah (dq dM rfl F.dG) aj))) (gk (ML vL vL aE (aR cR rfl F.cP cT (ah (af 0) aj)) (af 1)) (iz (aR (lP rfl) rfl F.lJ lQ (ah (eD (N:=["marks"]) (nt:=1) (cap:=[]) rfl (eO (by kernel_rfl)) (ff 0) (gp (af 0)) (λcl C s H ex pn=>⟨(c8 (i:=0) bN rfl (Or.inl rfl)),gQ,(aQ (Ik F t4) (hr.mono (by decide)) rfl t4.mg t4.fn.kp t4.b (ah (af 0) aj))⟩)) aj)))))))
theorem Cd:bO ["thing"] ["thing"] (bu (top 19)):=⟨rfl,rfl,rfl,by decide +kernel,rfl,by decide +kernel,by decide +kernel⟩
theorem tR (F:bZ K mg) {f:Addr} {fd:FuncData} (G:Gd K mg "need_heap" (top 19) ["thing"] f fd):bg P w K mg base bB 6 f fd ["thing"] (bL K mG):=by
 obtain⟨_,_,tB⟩:=F.Ho
 have aJ:=Cd.nd
 exact bY (k:=5) G.fn Cd λbr A outer s H E hr=>(aK (cv (gP (di (aQ (Hs F tB) (hr.mono (by decide)) rfl tB.mg tB.fn.kp tB.b (ah (af 0) (ah (Gb F.yf rfl) aj))))) Lk cu))
theorem CF:bO ["marks","others"] ["marks","others"] (bu (top 11)):=⟨rfl,rfl,rfl,by decide +kernel,rfl,by decide +kernel,by decide +kernel⟩
theorem ua (F:bZ K mg) {f:Addr} {fd:FuncData} (G:Gd K mg "has_all" (top 11) ["marks","others"] f fd):bg P w K mg base bB 1 f fd ["marks","others"] (bL K mI):=by
 have bN:(["mark","marks"]:List Str).Nodup:=by decide +kernel
 have aJ:=CF.nd
 exact bY (k:=0) G.fn CF λbr A outer s H E hr=>(aK (aV (aR (lP rfl) rfl F.lJ lQ (ah (eD (N:=["mark","marks"]) (nt:=1) (cap:=[0]) rfl (eO (by kernel_rfl)) (ff 0) (gp (af 1)) (λcl C s H ex pn=>⟨(c8 (i:=0) bN rfl (Or.inl rfl)),gQ,(gO (RS hr) (af 0) (af 1) rfl)⟩)) aj))))
theorem BV:bO ["heap","place","other"] ["heap","place","other"] (bu (top 26)):=⟨rfl,rfl,rfl,by decide +kernel,rfl,by decide +kernel,by decide +kernel⟩
theorem HW (F:bZ K mg) {f:Addr} {fd:FuncData} (G:Gd K mg "may_follow" (top 26) ["heap","place","other"] f fd):bg P w K mg base bB 2 f fd ["heap","place","other"] (bL K tO):=by
 obtain⟨_,_,dW⟩:=F.xi
 have aJ:=BV.nd
 exact bY (k:=1) G.fn BV λbr A outer s H E hr=>(aK (aV (gk (aQ (ua F dW) (hr.mono (by decide)) rfl dW.mg dW.fn.kp dW.b (ah (bC (af 0) (af 2)) (ah (bC (af 0) (af 1)) aj))) (iz (zN (gO (lV hr) (bC (af 0) (af 2)) (bC (af 0) (af 1)) (bU _)) (iz (gO (nj hr) (af 1) (af 2) (bU _))))))))
theorem BN:bO ["heap","place","ahead","tried","other"] ["heap","place","ahead","tried"] (bu (top 25)):=⟨rfl,rfl,rfl,by decide +kernel,rfl,by decide +kernel,by decide +kernel⟩
theorem BO (F:bZ K mg) {f:Addr} {fd:FuncData} (G:Gd K mg "find_behind" (top 25) ["heap","place","ahead","tried"] f fd):∀n,bg P w K mg base bB (3+n) f fd ["heap","place","ahead","tried"] (bL K (qc n))
 |0=>FC λ_ _=>rfl
 |n+1=>by
  obtain⟨_,_,tU⟩:=F.HV
  have aJ:=BN.nd
  have ih:=BO F G n
  exact bY G.fn BN λbr A outer s H E hr=>(aL (iZ PassesOwn.never rfl (iW rfl F.gb (ah (aR cR rfl F.cP cT (ah (af 0) aj)) aj)) (gK 4 aJ) (aK (cv (PW.pt (w_and (cx (xI hr) (af 4) (af 3) rfl) (oE (di (aQ (HW F tU) (hr.mono (by simp only[Nat.add_eq];omega)) rfl tU.mg tU.fn.kp tU.b (ah (af 0) (ah (af 1) (ah (af 4) aj)))))))) (aL (FI hr cN (af 3) (af 4)) (aK (cv (PW.pt (w_or (cx (xI hr) (af 4) (af 2) rfl) (oP (di (aQ ih hr rfl G.mg G.fn.kp G.b (ah (af 0) (ah (FH hr (af 2) (af 4)) (ah (af 2) (ah (af 3) aj))))))))) (aL (FI hr (af 1) (af 2) (af 4)) (aK (aV cN))) cu))) cu))) (aK (aV cN)))
theorem BL:bO ["heap","ahead","place"] ["heap"] (bu (top 24)):=⟨rfl,rfl,rfl,by decide +kernel,rfl,by decide +kernel,by decide +kernel⟩
theorem HD (F:bZ K mg) {f:Addr} {fd:FuncData} (G:Gd K mg "places_ahead" (top 24) ["heap"] f fd):bg P w K mg base bB 16 f fd ["heap"] (bL K tH):=by
 obtain⟨_,_,tL⟩:=F.HK
 have aJ:=BL.nd
 exact bY (k:=15) G.fn BL λbr A outer s H E hr=>(aL (cB 1 aJ E4) (aL (iZ PassesOwn.never rfl (iW rfl F.gb (ah (aR cR rfl F.cP cT (ah (af 0) aj)) aj)) (gK 2 aJ) (aK (kE (aQ (BO F tL 12) (hr.mono (by decide)) rfl tL.mg tL.fn.kp tL.b (ah (af 0) (ah (af 2) (ah (af 1) (ah E4 aj)))))))) (aK (aV (af 1)))))
theorem Cq:bO ["place","behind","row"] ["place","behind"] (bu (top 27)):=⟨rfl,rfl,rfl,by decide +kernel,rfl,by decide +kernel,by decide +kernel⟩
theorem II (F:bZ K mg) {f:Addr} {fd:FuncData} (G:Gd K mg "row_from" (top 27) ["place","behind"] f fd):bg P w K mg base bB 1 f fd ["place","behind"] (bL K t6):=by
 have aJ:=Cq.nd
 exact bY (k:=0) G.fn Cq λbr A outer s H E hr=>(aL (cB 2 aJ (oO (ah (af 0) aj))) (aL (Qo 20 PassesOwn.never (cx (Qx hr) (bC (af 2) (vG vj aE)) (af 1) rfl) (aK (kE (vo (af 2) (FH hr (af 1) (bC (af 2) (vG vj aE))))))) (aK (aV (mM ou rfl F.dG dM (ah (af 2) aj))))))
theorem CG:bO ["heap","ahead","behind"] ["heap"] (bu (top 17)):=⟨rfl,rfl,rfl,by decide +kernel,rfl,by decide +kernel,by decide +kernel⟩
theorem Jx (F:bZ K mg) {f:Addr} {fd:FuncData} (G:Gd K mg "rows_of" (top 17) ["heap"] f fd):bg P w K mg base bB 17 f fd ["heap"] (bL K qh):=by
 obtain⟨_,_,dJ⟩:=F.tQ
 obtain⟨_,_,tI⟩:=F.HB
 obtain⟨_,_,ue⟩:=F.IF
 have bN:(["place","behind","ahead"]:List Str).Nodup:=by decide +kernel
 have aJ:=CG.nd
 exact bY (k:=16) G.fn CG λbr A outer s H E hr=>(aL (kE (aQ (tR F dJ) (hr.mono (by decide)) rfl dJ.mg dJ.fn.kp dJ.b (ah (af 0) aj))) (aL (cB 1 aJ (aQ (HD F tI) (hr.mono (by decide)) rfl tI.mg tI.fn.kp tI.b (ah (af 0) aj))) (aL (cB 2 aJ (ON 1 (N:=["place","ahead"]) (cap:=[1]) hr rfl (Fh (by kernel_rfl)))) (aK (aV (mM ou rfl F.dG dM (ah (eD (N:=["place","behind","ahead"]) (nt:=1) (cap:=[2,1]) rfl (eO (by kernel_rfl)) (ff 0) (iW rfl F.gb (ah (aR cR rfl F.cP cT (ah (af 0) aj)) aj)) (λcl C s H ex pn=>⟨(c8 (i:=0) bN rfl (Or.inl rfl)),(oQ (cx (xI hr) (af 0) (af 2) rfl)),(aQ (II F ue) (hr.mono (by decide)) rfl ue.mg ue.fn.kp ue.b (ah (af 0) (ah (af 1) aj)))⟩)) aj)))))))
theorem BW:bO ["heap","places","place","marks"] ["heap","places","place"] (bu (top 22)):=⟨rfl,rfl,rfl,by decide +kernel,rfl,by decide +kernel,by decide +kernel⟩
theorem BX (F:bZ K mg) {f:Addr} {fd:FuncData} (G:Gd K mg "is_strange" (top 22) ["heap","places","place"] f fd):bg P w K mg base bB 2 f fd ["heap","places","place"] (bL K qd):=by
 obtain⟨_,_,dW⟩:=F.xi
 have bN:(["other","marks","heap"]:List Str).Nodup:=by decide +kernel
 have aJ:=BW.nd
 exact bY (k:=1) G.fn BW λbr A outer s H E hr=>(aL (cB 3 aJ (bC (af 0) (af 2))) (aK (aV (Fn (aR (Qp rfl) rfl F.OW Qs (ah (eD (N:=["other","marks","heap"]) (nt:=1) (cap:=[3,0]) rfl (eO (by kernel_rfl)) (ff 0) (gp (af 1)) (λcl C s H ex pn=>⟨(c8 (i:=0) bN rfl (Or.inl rfl)),gQ,(zN (aQ (ua F dW) (hr.mono (by decide)) rfl dW.mg dW.fn.kp dW.b (ah (af 1) (ah (bC (af 2) (af 0)) aj))) (iz (aQ (ua F dW) (hr.mono (by decide)) rfl dW.mg dW.fn.kp dW.b (ah (bC (af 2) (af 0)) (ah (af 1) aj)))))⟩)) aj))))))
theorem BH:bO ["heap","told","place"] ["heap"] (bu (top 23)):=⟨rfl,rfl,rfl,by decide +kernel,rfl,by decide +kernel,by decide +kernel⟩
theorem Ht (F:bZ K mg) {f:Addr} {fd:FuncData} (G:Gd K mg "most_strangers" (top 23) ["heap"] f fd):bg P w K mg base bB 4 f fd ["heap"] (bL K tw):=by
 obtain⟨_,_,kj⟩:=F.BS
 have bN:(["places","place","heap"]:List Str).Nodup:=by decide +kernel
 have aJ:=BH.nd
 exact bY (k:=3) G.fn BH λbr A outer s H E hr=>(aL (cB 1 aJ (fF (ah (cc aj) aj))) (aL (iZ PassesOwn.never rfl (iW rfl F.gb (ah (aR cR rfl F.cP cT (ah (af 0) aj)) aj)) (gK 2 aJ) (aK (cB 1 aJ (bo cE (af 1) (eD (N:=["places","place","heap"]) (nt:=1) (cap:=[2,0]) rfl (eO (by kernel_rfl)) (ff 0) (gp (af 1)) (λcl C s H ex pn=>⟨(c8 (i:=0) bN rfl (Or.inl rfl)),(oQ (di (aQ (BX F kj) (hr.mono (by decide)) rfl kj.mg kj.fn.kp kj.b (ah (af 2) (ah (af 0) (ah (af 1) aj)))))),(bo cE (af 0) (cc (ah (af 1) aj)))⟩)))))) (aK (aV (Lx (af 1) rfl rfl F.E5 rfl F.cP)))))
theorem BM:bO ["heap"] ["heap"] (bu (top 18)):=⟨rfl,rfl,rfl,by decide +kernel,rfl,by decide +kernel,by decide +kernel⟩
theorem HE (F:bZ K mg) {f:Addr} {fd:FuncData} (G:Gd K mg "strangers_of" (top 18) ["heap"] f fd):bg P w K mg base bB 7 f fd ["heap"] (bL K qb):=by
 obtain⟨_,_,dJ⟩:=F.tQ
 obtain⟨_,_,tD⟩:=F.Hq
 have aJ:=BM.nd
 exact bY (k:=6) G.fn BM λbr A outer s H E hr=>(aL (kE (aQ (tR F dJ) (hr.mono (by decide)) rfl dJ.mg dJ.fn.kp dJ.b (ah (af 0) aj))) (aK (aV (aQ (Ht F tD) (hr.mono (by decide)) rfl tD.mg tD.fn.kp tD.b (ah (af 0) aj)))))
theorem CH:bO ["_law_state_here","_law_some"] ["_law_state_here"] (bu (top 34)):=⟨rfl,rfl,rfl,by decide +kernel,rfl,by decide +kernel,by decide +kernel⟩
theorem CI (F:bZ K mg) {f:Addr} {fd:FuncData} (G:Gd K mg "_law_anyhow" (top 34) ["_law_state_here"] f fd):bg P w K mg base bB 2 f fd ["_law_state_here"] (bL K oi):=by
 obtain⟨_,_,aX⟩:=F.uC
 have aJ:=CH.nd
 exact bY (k:=1) G.fn CH λbr A outer s H E hr=>(aL (cB 1 aJ (M7 Fm cN cN aE aE (vG vj aE) aE aE (bo vi (bo yY aE aE) aE) lM lM lM lM (cc aj) (cc (ah aE aj)) (fF (ah aE aj)) (fF aj) OP)) (aL (cB 1 aJ (bo cE (af 1) (OV OQ (cc (ah aE (ah aE aj))) (cc (ah aE (ah aE aj))) (cc (ah (cc aj) (ah (cc aj) aj))) (cc (ah (cc (ah aE aj)) (ah (cc (ah aE aj)) aj))) (cc (ah lM (ah aE (ah aE aj)))) (cc (ah (cc (ah aE aj)) aj)) lM (cc (ah (fF (ah aE aj)) (ah lM aj)))))) (aK (aV (bC (af 1) (aQ (gJ F aX) (hr.mono (by decide)) rfl aX.mg aX.fn.kp aX.b (ah (af 0) (ah (aR cR rfl F.cP cT (ah (af 1) aj)) aj))))))))
theorem Dv:bO ["_law_state_here","_law_heap_here","_law_thing","_law_at","_law_way","_law_place","_law_odd","_law_spot","_law_row"] ["_law_state_here","_law_heap_here","_law_thing"] (bu (top 40)):=⟨rfl,rfl,rfl,by decide +kernel,rfl,by decide +kernel,by decide +kernel⟩
theorem xK (F:bZ K mg) {f:Addr} {fd:FuncData} (G:Gd K mg "_law_bent" (top 40) ["_law_state_here","_law_heap_here","_law_thing"] f fd):bg P w K mg base bB 3 f fd ["_law_state_here","_law_heap_here","_law_thing"] (bL K iu):=by
 obtain⟨_,_,kq⟩:=F.CB
 obtain⟨_,_,aX⟩:=F.uC
 have bN:(["_law_row"]:List Str).Nodup:=by decide +kernel
 have aJ:=Dv.nd
 exact bY (k:=2) G.fn Dv λbr A outer s H E hr=>(aL (cv (cx (fJ hr) (af 2) (cc aj) (bU _)) (aK (aV (aQ (CI F kq) (hr.mono (by decide)) rfl kq.mg kq.fn.kp kq.b (ah (af 0) aj)))) cu) (aL (OT 3 4 5 rfl aJ (ah (aQ (gJ F aX) (hr.mono (by decide)) rfl aX.mg aX.fn.kp aX.b (ah (af 0) (ah (aR cR rfl F.cP cT (ah (af 2) aj)) aj))) (ah (aQ (gJ F aX) (hr.mono (by decide)) rfl aX.mg aX.fn.kp aX.b (ah (af 0) (ah aE aj))) (ah (aQ (gJ F aX) (hr.mono (by decide)) rfl aX.mg aX.fn.kp aX.b (ah (af 0) (ah (bo cE (aR cR rfl F.cP cT (ah (af 1) aj)) aE) aj))) aj)))) (aL (cB 6 aJ (bC (OU (af 5) cN Fm (vG vj aE) (cc (ah (af 5) aj)) (cc aj) (fF (ah aE aj)) lM) (aQ (gJ F aX) (hr.mono (by decide)) rfl aX.mg aX.fn.kp aX.b (ah (af 0) (ah aE aj))))) (aL (cv (cx (fJ hr) (af 4) aE (bU _)) (aK (aV (bo cE (fm (af 2) fL (eM (af 3))) (fm (af 2) (eM (bo cE (af 3) aE)) fL)))) cu) (aL (cv (cx (fJ hr) (af 4) aE (bU _)) (aK (aV (bo cE (bo cE (fm (af 2) fL (eM (af 3))) (fm (af 2) (eM (af 3)) (eM (bo cE (af 3) aE)))) (fm (af 2) (eM (af 3)) fL)))) cu) (aL (cv (cx (fJ hr) (af 4) aE (bU _)) (aK (aV (Fs (af 2)))) cu) (aL (cv (cx (fJ hr) (af 4) aE (bU _)) (aK (aV (bC (fF (ah (mM OF rfl F.ox uZ (ah (af 2) aj)) (ah (bC (af 2) (af 3)) (ah (bo cE (af 2) (cc (ah (af 6) aj))) aj)))) (aQ (gJ F aX) (hr.mono (by decide)) rfl aX.mg aX.fn.kp aX.b (ah (af 0) (ah aE aj)))))) cu) (aL (cv (PW.pt (w_and (cx (fJ hr) (af 4) aE (bU _)) (oE (di (aR dj rfl F.cY cZ (ah (bC (af 2) (af 3)) (ah (dq dM rfl F.dG) aj))))))) (aK (aV (cc (ah (aR (OR rfl) rfl F.OZ QE (ah (eD (N:=["_law_row"]) (nt:=1) (cap:=[]) rfl (eO (by kernel_rfl)) (ff 0) (gp (af 2)) (λcl C s H ex pn=>⟨(c8 (i:=0) bN rfl (Or.inl rfl)),(oQ (di (aR dj rfl F.cY cZ (ah (af 0) (ah (dq dM rfl F.dG) aj))))),(af 0)⟩)) (ah (cc aj) aj))) aj)))) cu) (aL (cv (PW.pt (w_and (cx (nj hr) (af 4) aE (bU _)) (w_and (di (aR dj rfl F.cY cZ (ah (bC (af 2) (af 3)) (ah (dq dM rfl F.dG) aj)))) (oE (cx (lV hr) (bC (af 2) (af 3)) (cc aj) (bU _)))))) (aL (cB 7 aJ (aQ (gJ F aX) (hr.mono (by decide)) rfl aX.mg aX.fn.kp aX.b (ah (af 0) (ah (aR cR rfl F.cP cT (ah (bC (af 2) (af 3)) aj)) aj)))) (aL (cB 8 aJ (bC (fF (ah (bo cE (bo cE (fm (bC (af 2) (af 3)) fL (eM (af 7))) (cc (ah (af 6) aj))) (fm (bC (af 2) (af 3)) (eM (bo cE (af 7) aE)) fL)) (ah (Fs (bC (af 2) (af 3))) (ah (fm (bC (af 2) (af 3)) fL (eM (af 7))) aj)))) (bo mY (af 4) aE))) (aK (aV (bo cE (bo cE (fm (af 2) fL (eM (af 3))) (cc (ah (af 8) aj))) (fm (af 2) (eM (bo cE (af 3) aE)) fL)))))) cu) (aK (aV (bo cE (bo cE (fm (af 2) fL (eM (af 3))) (cc (ah (af 6) aj))) (fm (af 2) (eM (bo cE (af 3) aE)) fL)))))))))))))
theorem Dw:bO ["_law_told","_law_due"] ["_law_told","_law_due"] (bu (top 33)):=⟨rfl,rfl,rfl,by decide +kernel,rfl,by decide +kernel,by decide +kernel⟩
theorem xM (F:bZ K mg) {f:Addr} {fd:FuncData} (G:Gd K mg "_law_same" (top 33) ["_law_told","_law_due"] f fd):∀n,bg P w K mg base bB (1+n) f fd ["_law_told","_law_due"] (bL K (iq n))
 |0=>FC λ_ _=>rfl
 |n+1=>by
  have bN:(["_law_one","_law_other"]:List Str).Nodup:=by decide +kernel
  have aJ:=Dw.nd
  have ih:=xM F G n
  exact bY G.fn Dw λbr A outer s H E hr=>(aL (cv (di (LC (af 1) rfl F.cY cZ (xQ rfl F.dG dM rfl) (xQ rfl F.ox uZ rfl))) (aL (cv (PW.pt (w_or (cx (lV hr) (aR dj rfl F.cY cZ (ah (af 0) (ah (dq uZ rfl F.ox) aj))) (aR dj rfl F.cY cZ (ah (af 1) (ah (dq uZ rfl F.ox) aj))) (bU _)) (oP (cx (lV hr) (aR dj rfl F.cY cZ (ah (af 0) (ah (dq dM rfl F.dG) aj))) (aR dj rfl F.cY cZ (ah (af 1) (ah (dq dM rfl F.dG) aj))) (bU _))))) (aK (aV cN)) cu) (aL (cv (cx (lV hr) (aR cR rfl F.cP cT (ah (af 0) aj)) (aR cR rfl F.cP cT (ah (af 1) aj)) (bU _)) (aK (aV cN)) cu) (aK (aV (gO (D8 hr) cN (eD (N:=["_law_one","_law_other"]) (nt:=2) (cap:=[]) rfl (eO (by kernel_rfl)) (yw (om 0 (om 1 yc))) (yX rfl F.yH (ah (af 0) (ah (af 1) aj))) (λcl C s H ex pn=>⟨(uV rfl (mL (c8 (i:=0) bN rfl (Or.inl rfl)) (mL (c8 (i:=1) bN rfl (Or.inl rfl)) uG))),gQ,(aQ ih hr rfl G.mg G.fn.kp G.b (ah (af 0) (ah (af 1) aj)))⟩)) rfl))))) cu) (aK (aV (gk (gO (fJ hr) (aR dj rfl F.cY cZ (ah (af 0) (ah (dq qC rfl F.qu) aj))) (aR dj rfl F.cY cZ (ah (af 1) (ah (dq qC rfl F.qu) aj))) (bU _)) (iz (gO (fJ hr) (af 0) (af 1) (bU _)))))))
theorem BY:bO ["heap","thing"] ["heap","thing"] (bu (top 20)):=⟨rfl,rfl,rfl,by decide +kernel,rfl,by decide +kernel,by decide +kernel⟩
theorem BZ (F:bZ K mg) {f:Addr} {fd:FuncData} (G:Gd K mg "are_places" (top 20) ["heap","thing"] f fd):bg P w K mg base bB 3 f fd ["heap","thing"] (bL K mE):=by
 obtain⟨_,_,ko⟩:=F.Cm
 have bN:(["place","heap"]:List Str).Nodup:=by decide +kernel
 have aJ:=BY.nd
 exact bY (k:=2) G.fn BY λbr A outer s H E hr=>(aK (aV (gk (aR dj rfl F.cY cZ (ah (af 1) (ah (dq dM rfl F.dG) aj))) (iz (aR (lP rfl) rfl F.lJ lQ (ah (eD (N:=["place","heap"]) (nt:=1) (cap:=[0]) rfl (eO (by kernel_rfl)) (ff 0) (gp (af 1)) (λcl C s H ex pn=>⟨(c8 (i:=0) bN rfl (Or.inl rfl)),gQ,(aQ (Cp F ko) (hr.mono (by decide)) rfl ko.mg ko.fn.kp ko.b (ah (af 0) (ah (aR cR rfl F.cP cT (ah (af 1) aj)) aj)))⟩)) aj))))))
theorem C7:bO ["heap","thing"] ["heap","thing"] (bu (top 21)):=⟨rfl,rfl,rfl,by decide +kernel,rfl,by decide +kernel,by decide +kernel⟩
theorem Kj (F:bZ K mg) {f:Addr} {fd:FuncData} (G:Gd K mg "is_row" (top 21) ["heap","thing"] f fd):bg P w K mg base bB 4 f fd ["heap","thing"] (bL K oq):=by
 obtain⟨_,_,kl⟩:=F.BU
 obtain⟨_,_,dW⟩:=F.xi
 have bN:(["ahead","behind","heap"]:List Str).Nodup:=by decide +kernel
 have aJ:=C7.nd
 exact bY (k:=3) G.fn C7 λbr A outer s H E hr=>(aK (aV (gk (aQ (BZ F kl) (hr.mono (by decide)) rfl kl.mg kl.fn.kp kl.b (ah (af 0) (ah (af 1) aj))) (gk (gO vM (aR cR rfl F.cP cT (ah (af 1) aj)) aE (bU _)) (iz (aR (lP rfl) rfl F.lJ lQ (ah (eD (N:=["ahead","behind","heap"]) (nt:=2) (cap:=[0]) rfl (eO (by kernel_rfl)) (yw (om 0 (om 1 yc))) (yX rfl F.yH (ah (af 1) (ah (fm (af 1) (eM aE) fL) aj))) (λcl C s H ex pn=>⟨(uV rfl (mL (c8 (i:=0) bN rfl (Or.inl rfl)) (mL (c8 (i:=1) bN rfl (Or.inl rfl)) uG))),gQ,(aQ (ua F dW) (hr.mono (by decide)) rfl dW.mg dW.fn.kp dW.b (ah (bC (af 2) (af 1)) (ah (bC (af 2) (af 0)) aj)))⟩)) aj)))))))
theorem Cr:bO ["heap","thing"] ["heap","thing"] (bu (top 15)):=⟨rfl,rfl,rfl,by decide +kernel,rfl,by decide +kernel,by decide +kernel⟩
theorem IJ (F:bZ K mg) {f:Addr} {fd:FuncData} (G:Gd K mg "are_rows" (top 15) ["heap","thing"] f fd):bg P w K mg base bB 7 f fd ["heap","thing"] (bL K lu):=by
 obtain⟨_,_,dJ⟩:=F.tQ
 obtain⟨_,_,uE⟩:=F.Kg
 have bN:(["row","heap"]:List Str).Nodup:=by decide +kernel
 have Hh:(["row","place"]:List Str).Nodup:=by decide +kernel
 have aJ:=Cr.nd
 exact bY (k:=6) G.fn Cr λbr A outer s H E hr=>(aL (kE (aQ (tR F dJ) (hr.mono (by decide)) rfl dJ.mg dJ.fn.kp dJ.b (ah (af 0) aj))) (aL (cv (PW.pt (w_or (gP (di (aR dj rfl F.cY cZ (ah (af 1) (ah (dq dM rfl F.dG) aj))))) (oP (gP (di (aR (lP rfl) rfl F.lJ lQ (ah (eD (N:=["row","heap"]) (nt:=1) (cap:=[0]) rfl (eO (by kernel_rfl)) (ff 0) (gp (af 1)) (λcl C s H ex pn=>⟨(c8 (i:=0) bN rfl (Or.inl rfl)),gQ,(aQ (Kj F uE) (hr.mono (by decide)) rfl uE.mg uE.fn.kp uE.b (ah (af 1) (ah (af 0) aj)))⟩)) aj))))))) (aK (aV cN)) cu) (aK (aV (gO (fJ hr) (aR (Ed hr) rfl F.xq xF (ah (MS (N:=["row","place"]) (nt:=2) (cap:=[]) rfl (Fh (by kernel_rfl)) (ff 0) (D9 0) (ff 1) (D9 1) (gp (af 1)) (λcl C s H ex pn=>⟨(c8 (i:=0) Hh rfl (Or.inl rfl)),gQ,(gp (af 0)),(c8 (i:=1) Hh rfl (Or.inl rfl)),gQ,(af 1)⟩)) aj)) (Ec (ah (aR cR rfl F.cP cT (ah (af 0) aj)) aj) rfl rfl F.ox rfl F.gb) (bU _))))))
theorem CJ:bO ["_law_one","_law_other"] ["_law_one","_law_other"] (bu (top 35)):=⟨rfl,rfl,rfl,by decide +kernel,rfl,by decide +kernel,by decide +kernel⟩
theorem xj (F:bZ K mg) {f:Addr} {fd:FuncData} (G:Gd K mg "_law_within" (top 35) ["_law_one","_law_other"] f fd):bg P w K mg base bB 1 f fd ["_law_one","_law_other"] (bL K oj):=by
 have bN:(["_law_mark","_law_other"]:List Str).Nodup:=by decide +kernel
 have aJ:=CJ.nd
 exact bY (k:=0) G.fn CJ λbr A outer s H E hr=>(aK (aV (gO (fJ hr) (eD (N:=["_law_mark","_law_other"]) (nt:=1) (cap:=[1]) rfl (eO (by kernel_rfl)) (ff 0) (gp (af 0)) (λcl C s H ex pn=>⟨(c8 (i:=0) bN rfl (Or.inl rfl)),(oQ (cx (D8 hr) (af 0) (af 1) rfl)),(af 0)⟩)) (fF aj) (bU _))))
theorem Ce:bO ["_law_heap_here","_law_thing","_law_places","_law_row","_law_spot","_law_place"] ["_law_heap_here","_law_thing"] (bu (top 38)):=⟨rfl,rfl,rfl,by decide +kernel,rfl,by decide +kernel,by decide +kernel⟩
theorem Il (F:bZ K mg) {f:Addr} {fd:FuncData} (G:Gd K mg "_law_are_rows" (top 38) ["_law_heap_here","_law_thing"] f fd):bg P w K mg base bB 2 f fd ["_law_heap_here","_law_thing"] (bL K lr):=by
 obtain⟨_,_,gH⟩:=F.CC
 have aJ:=Ce.nd
 exact bY (k:=1) G.fn Ce λbr A outer s H E hr=>(aL (cv (gP (di (aR dj rfl F.cY cZ (ah (af 1) (ah (dq dM rfl F.dG) aj))))) (aK (aV cN)) cu) (aL (cB 2 aJ (oO aj)) (aL (iZ PassesOwn.never rfl (gp (af 1)) (gK 3 aJ) (aL (cv (PW.pt (w_or (gP (di (aR dj rfl F.cY cZ (ah (af 3) (ah (dq dM rfl F.dG) aj))))) (oP (cx (fJ hr) (af 3) (cc aj) (bU _))))) (aK (aV cN)) cu) (aK (iZ PassesOwn.never rfl (EO rfl F.B6 (ah (af 3) aj)) (Fp rfl (uM (gK 4 aJ) (uM (gK 5 aJ) EN))) (aL (cv (PW.pt (w_or (gP (di (aR dj rfl F.cY cZ (ah (af 5) (ah (dq y7 rfl F.yG) aj))))) (w_or (di (aR dj rfl F.cY cZ (ah (af 5) (ah (dq qC rfl F.qu) aj)))) (oP (gP (D3 vL (nj hr) aE (af 5) (aR cR rfl F.cP cT (ah (af 0) aj)))))))) (aK (aV cN)) cu) (aL (cv (PW.pt (w_and (cx vM (af 4) aE (bU _)) (oE (gP (di (aQ (xj F gH) (hr.mono (by decide)) rfl gH.mg gH.fn.kp gH.b (ah (bC (af 0) (bC (af 3) (bo vi (af 4) aE))) (ah (bC (af 0) (af 5)) aj)))))))) (aK (aV cN)) cu) (aK (kE (vo (af 2) (af 5)))))))))) (aK (aV (gO (fJ hr) (aR (Ed hr) rfl F.xq xF (ah (af 2) aj)) (Ec (ah (aR cR rfl F.cP cT (ah (af 0) aj)) aj) rfl rfl F.ox rfl F.gb) (bU _)))))))
theorem BK:bO ["heap","thing"] ["heap","thing"] (bu (top 16)):=⟨rfl,rfl,rfl,by decide +kernel,rfl,by decide +kernel,by decide +kernel⟩
theorem Hy (F:bZ K mg) {f:Addr} {fd:FuncData} (G:Gd K mg "are_strangers" (top 16) ["heap","thing"] f fd):bg P w K mg base bB 7 f fd ["heap","thing"] (bL K mC):=by
 obtain⟨_,_,dJ⟩:=F.tQ
 obtain⟨_,_,kl⟩:=F.BU
 obtain⟨_,_,km⟩:=F.B7
 obtain⟨_,_,kj⟩:=F.BS
 have bN:(["at","heap","thing"]:List Str).Nodup:=by decide +kernel
 have aJ:=BK.nd
 exact bY (k:=6) G.fn BK λbr A outer s H E hr=>(aL (kE (aQ (tR F dJ) (hr.mono (by decide)) rfl dJ.mg dJ.fn.kp dJ.b (ah (af 0) aj))) (aK (aV (gk (aQ (BZ F kl) (hr.mono (by decide)) rfl kl.mg kl.fn.kp kl.b (ah (af 0) (ah (af 1) aj))) (gk (aQ (Ca F km) (hr.mono (by decide)) rfl km.mg km.fn.kp km.b (ah (af 1) aj)) (iz (aR (lP rfl) rfl F.lJ lQ (ah (eD (N:=["at","heap","thing"]) (nt:=1) (cap:=[0,1]) rfl (eO (by kernel_rfl)) (ff 0) (iW rfl F.gb (ah (aR cR rfl F.cP cT (ah (af 1) aj)) aj)) (λcl C s H ex pn=>⟨(c8 (i:=0) bN rfl (Or.inl rfl)),gQ,(aQ (BX F kj) (hr.mono (by decide)) rfl kj.mg kj.fn.kp kj.b (ah (af 1) (ah (fm (af 2) fL (eM (af 0))) (ah (bC (af 2) (af 0)) aj))))⟩)) aj))))))))
theorem Dx:bO ["_law_heap_here","_law_one","_law_other"] ["_law_heap_here","_law_one","_law_other"] (bu (top 36)):=⟨rfl,rfl,rfl,by decide +kernel,rfl,by decide +kernel,by decide +kernel⟩
theorem LL (F:bZ K mg) {f:Addr} {fd:FuncData} (G:Gd K mg "_law_akin" (top 36) ["_law_heap_here","_law_one","_law_other"] f fd):bg P w K mg base bB 2 f fd ["_law_heap_here","_law_one","_law_other"] (bL K qt):=by
 obtain⟨_,_,gH⟩:=F.CC
 have aJ:=Dx.nd
 exact bY (k:=1) G.fn Dx λbr A outer s H E hr=>(aK (aV (zN (aQ (xj F gH) (hr.mono (by decide)) rfl gH.mg gH.fn.kp gH.b (ah (bC (af 0) (af 1)) (ah (bC (af 0) (af 2)) aj))) (iz (aQ (xj F gH) (hr.mono (by decide)) rfl gH.mg gH.fn.kp gH.b (ah (bC (af 0) (af 2)) (ah (bC (af 0) (af 1)) aj)))))))
theorem BI:bO ["_law_heap_here","_law_thing","_law_spot","_law_place"] ["_law_heap_here","_law_thing"] (bu (top 39)):=⟨rfl,rfl,rfl,by decide +kernel,rfl,by decide +kernel,by decide +kernel⟩
theorem Hu (F:bZ K mg) {f:Addr} {fd:FuncData} (G:Gd K mg "_law_are_strangers" (top 39) ["_law_heap_here","_law_thing"] f fd):bg P w K mg base bB 3 f fd ["_law_heap_here","_law_thing"] (bL K mB):=by
 obtain⟨_,_,uN⟩:=F.LJ
 have bN:(["_law_one","_law_heap_here","_law_place"]:List Str).Nodup:=by decide +kernel
 have aJ:=BI.nd
 exact bY (k:=2) G.fn BI λbr A outer s H E hr=>(aL (cv (gP (di (aR dj rfl F.cY cZ (ah (af 1) (ah (dq dM rfl F.dG) aj))))) (aK (aV cN)) cu) (aL (iZ PassesOwn.never rfl (EO rfl F.B6 (ah (af 1) aj)) (Fp rfl (uM (gK 2 aJ) (uM (gK 3 aJ) EN))) (aL (cv (PW.pt (w_or (gP (di (aR dj rfl F.cY cZ (ah (af 3) (ah (dq y7 rfl F.yG) aj))))) (w_or (di (aR dj rfl F.cY cZ (ah (af 3) (ah (dq qC rfl F.qu) aj)))) (oP (gP (D3 vL (nj hr) aE (af 3) (aR cR rfl F.cP cT (ah (af 0) aj)))))))) (aK (aV cN)) cu) (aL (cv (PW.pt (w_and (cx vM (af 2) aE (bU _)) (oE (cx zS (bC (af 1) (bo vi (af 2) aE)) (af 3) (bU _))))) (aK (aV cN)) cu) (aK (cv (cx (lV hr) (eD (N:=["_law_one","_law_heap_here","_law_place"]) (nt:=1) (cap:=[0,3]) rfl (eO (by kernel_rfl)) (ff 0) (gp (fm (af 1) fL (eM (af 2)))) (λcl C s H ex pn=>⟨(c8 (i:=0) bN rfl (Or.inl rfl)),(oQ (di (aQ (LL F uN) (hr.mono (by decide)) rfl uN.mg uN.fn.kp uN.b (ah (af 1) (ah (af 0) (ah (af 2) aj)))))),(af 0)⟩)) (fF aj) (bU _)) (aK (aV cN)) cu))))) (aK (aV cN))))
theorem E6:bO ["_law_script","_law_k","_law_state_here","_law_turn","_law_heap_here","_law_rows","_law_strangers","_law_own","_law_some","_law_lap","_law_thing","_law_kept"] ["_law_script"] (bu (top 41)):=⟨rfl,rfl,rfl,by decide +kernel,rfl,by decide +kernel,by decide +kernel⟩
theorem O0 (F:bZ K mg) {f:Addr} {fd:FuncData} (G:Gd K mg "law" (top 41) ["_law_script"] f fd):bg P w K mg base bB 18 f fd ["_law_script"] (bL K vz):=by
 obtain⟨_,_,uF⟩:=F.Ke
 obtain⟨_,_,uO⟩:=F.LF
 obtain⟨_,_,uw⟩:=F.Jv
 obtain⟨_,_,tJ⟩:=F.HC
 obtain⟨_,_,kq⟩:=F.CB
 obtain⟨_,_,iw⟩:=F.LG
 obtain⟨_,_,ug⟩:=F.IG
 obtain⟨_,_,t5⟩:=F.Ii
 obtain⟨_,_,lA⟩:=F.LH
 obtain⟨_,_,tG⟩:=F.Hx
 obtain⟨_,_,tF⟩:=F.Hr
 have bN:(["_law_place"]:List Str).Nodup:=by decide +kernel
 have aJ:=E6.nd
 exact bY (k:=17) G.fn E6 λbr A outer s H E hr=>(aL (iZ PassesOwn.never rfl (iW rfl F.gb (ah (aR (OD rfl) rfl F.E5 FA (ah aE (ah (aR (OE rfl) rfl F.OX Qt (ah (aR cR rfl F.cP cT (ah (af 0) aj)) (ah aE aj))) aj))) aj)) (gK 1 aJ) (aL (cB 2 aJ (aQ (Kh F uF) (hr.mono (by decide)) rfl uF.mg uF.fn.kp uF.b (ah (af 0) (ah (af 1) aj)))) (aK (iZ PassesOwn.never rfl (iW rfl F.gb (ah aE aj)) (gK 3 aJ) (aL (cB 4 aJ (aQ (LK F uO) (hr.mono (by decide)) rfl uO.mg uO.fn.kp uO.b (ah (af 2) (ah aE aj)))) (aL (EU 5 6 rfl aJ (ah (aQ (Jx F uw) (hr.mono (by decide)) rfl uw.mg uw.fn.kp uw.b (ah (af 4) aj)) (ah (aQ (HE F tJ) (hr.mono (by decide)) rfl tJ.mg tJ.fn.kp tJ.b (ah (af 4) aj)) aj))) (aL (cB 7 aJ (mM ou rfl F.dG dM (ah (eD (N:=["_law_place"]) (nt:=1) (cap:=[]) rfl (eO (by kernel_rfl)) (ff 0) (iW rfl F.gb (ah (aR cR rfl F.cP cT (ah (af 4) aj)) aj)) (λcl C s H ex pn=>⟨(c8 (i:=0) bN rfl (Or.inl rfl)),gQ,(cc (ah (af 0) aj))⟩)) aj))) (aL (cB 8 aJ (oO (ah (af 5) (ah (af 6) (ah (af 7) (ah (OS (ah (aR cR rfl F.cP cT (ah (af 4) aj)) aj) rfl rfl F.dG rfl F.gb) (ah (cc aj) (ah (cc (ah (bC (af 7) aE) aj)) (ah (aQ (CI F kq) (hr.mono (by decide)) rfl kq.mg kq.fn.kp kq.b (ah (af 2) aj)) aj))))))))) (aL (iZ PassesOwn.never rfl (iW rfl F.gb (ah aE aj)) (gK 9 aJ) (aL (cB 8 aJ (bo OO (af 8) (fF (ah (aQ (xK F iw) (hr.mono (by decide)) rfl iw.mg iw.fn.kp iw.b (ah (af 2) (ah (af 4) (ah (af 5) aj)))) (ah (aQ (xK F iw) (hr.mono (by decide)) rfl iw.mg iw.fn.kp iw.b (ah (af 2) (ah (af 4) (ah (af 6) aj)))) aj))))) (aK (kE (vo (af 8) (aQ (xK F iw) (hr.mono (by decide)) rfl iw.mg iw.fn.kp iw.b (ah (af 2) (ah (af 4) (ah (af 7) aj))))))))) (aK (iZ PassesOwn.never rfl (gp (Qn (af 8))) (gK 10 aJ) (aL (cB 11 aJ (aR (ET hr) rfl F.Ef EX (ah (cc (ah (af 4) (ah (af 10) aj))) aj))) (aL (cv (gP (di (aQ (xM F lA 8) (hr.mono (by decide)) rfl lA.mg lA.fn.kp lA.b (ah (aQ (IJ F ug) (hr.mono (by decide)) rfl ug.mg ug.fn.kp ug.b (ah (af 4) (ah (af 10) aj))) (ah (aQ (Il F t5) (hr.mono (by decide)) rfl t5.mg t5.fn.kp t5.b (ah (af 4) (ah (af 10) aj))) aj))))) (aK (aV cN)) cu) (aL (cv (gP (di (aQ (xM F lA 8) (hr.mono (by decide)) rfl lA.mg lA.fn.kp lA.b (ah (aQ (Hy F tG) (hr.mono (by decide)) rfl tG.mg tG.fn.kp tG.b (ah (af 4) (ah (af 10) aj))) (ah (aQ (Hu F tF) (hr.mono (by decide)) rfl tF.mg tF.fn.kp tF.b (ah (af 4) (ah (af 10) aj))) aj))))) (aK (aV cN)) cu) (aK (cv (cx (lV hr) (aR (ET hr) rfl F.Ef EX (ah (cc (ah (af 4) (ah (af 10) aj))) aj)) (af 11) (bU _)) (aK (aV cN)) cu)))))))))))))))) (aK (aV cN)))
end
end DI.aI
namespace DI
open PySem L2
def Wp {α:Type} (r:Res α) (Q:α->aa->Prop):Prop:=∃a s,r=some (.ok a,s)/\Q a s
section
variable {α β:Type} {r:Res α} {k:α->aa->Res β} {Q Q':α->aa->Prop} {R:β->aa->Prop} {env:Env} {s:aa}
theorem Wp.ok {a:α} (h:Q a s):Wp (DI.ok a s) Q:=⟨a,s,rfl,h⟩
theorem Wp.mono (h:Wp r Q) (i:∀a s,Q a s->Q' a s):Wp r Q':=by
 obtain⟨a,s,e,q⟩:=h
 exact⟨a,s,e,i a s q⟩
theorem Wp.ak (h:Wp r λa s=>Wp (k a s) R):Wp (DI.ak r k) R:=by
 obtain⟨a,s,e,b,s',e',q⟩:=h
 exact⟨b,s',by rw[e];exact e',q⟩
theorem Wp.ne (h:Wp r Q):Wp (DI.ne r) Q:=by
 obtain⟨a,s,e,q⟩:=h
 exact⟨a,s,by rw[e];rfl,q⟩
theorem Wp.of {a:α} (e:r=some (.ok a,s)) (h:Q a s):Wp r Q:=⟨a,s,e,h⟩
theorem Wp.seq {f g:Env->aa->Res Fl} {Q:Fl->aa->Prop} (h:Wp (f env s) λfl s=>match fl with
  | .nx env=>Wp (g env s) Q
  |fl=>Q fl s):Wp (ax f g env s) Q:=by
 obtain⟨fl,s',e,h⟩:=h
 unfold ax
 rw[e]
 cases fl with
 |nx env=>exact h
 |rt d=>exact⟨_,_,rfl,h⟩
 |bk e=>exact⟨_,_,rfl,h⟩
 |ct e=>exact⟨_,_,rfl,h⟩
theorem Wp.jo {g:D->Env->Option Env} {b:Env->aa->Res Fl} {Q:Fl->aa->Prop} (I:Nat->Env->aa->Prop) (all:List D) (h0:I 0 env s)
  (step:∀i d env s,all[i]?=some d->I i env s->∃az,g d env=some az/\Wp (b az s) λfl s=>match fl with
   | .nx e=>I (i+1) e s
   | .ct e=>I (i+1) e s
   | .bk e=>Q (.nx e) s
   | .rt d=>Q (.rt d) s) (fin:∀env s,I all.length env s->Q (.nx env) s):Wp (jO g b all env s) Q:=by
 have key:∀(ds:List D) (i:Nat) (env:Env) (s:aa),all.drop i=ds->i<=all.length->I i env s->Wp (jO g b ds env s) Q:=by
  intro ds
  induction ds with
  |nil =>
   intro i env s hd hi h
   have e:i=all.length:=by
    have:=congrArg List.length hd
    simp at this
    omega
   subst e
   exact Wp.ok (fin _ _ h)
  |cons d ds ih =>
   intro i env s hd hi h
   have hx:all[i]?=some d:=by
    have:=congrArg (λl=>l[0]?) hd
    simpa using this
   have cH:all.drop (i+1)=ds:=by
    have:=congrArg (List.drop 1) hd
    simpa [List.drop_drop] using this
   obtain⟨az,hg,hb⟩:=step i d env s hx h
   have aU:=(List.getElem?_eq_some_iff.mp hx).1
   unfold jO
   rw[hg]
   refine Wp.ak (hb.mono λfl s q=>?_)
   cases fl with
   |nx e=>exact ih (i+1) e s cH aU q
   |ct e=>exact ih (i+1) e s cH aU q
   |bk e=>exact Wp.ok q
   |rt d=>exact Wp.ok q
 exact key all 0 env s rfl (Nat.zero_le _) h0
theorem Eg {nt:Nat} {caps:Env} {g:D->Env->Option Env} {t:Env->aa->Res Bool} {f:Env->aa->Res D} {Q:List D->aa->Prop} (I:Nat->List D->aa->Prop) (all:List D) (h0:I 0 [] s)
  (step:∀i d acc s,all[i]?=some d->I i acc s->∃env,g d (List.replicate nt none++caps)=some env/\Wp (t env s) λb s=>if b=true then Wp (f env s) λx s=>I (i+1) (acc++[x]) s else I (i+1) acc s)
  (fin:∀acc s,I all.length acc s->Q acc s):Wp (gg nt caps g t f all s) Q:=by
 have key:∀(ds:List D) (i:Nat) (acc:List D) (s:aa),all.drop i=ds->i<=all.length->I i acc s->Wp (gg nt caps g t f ds s) λxs s=>Q (acc++xs) s:=by
  intro ds
  induction ds with
  |nil =>
   intro i acc s hd hi h
   have e:i=all.length:=by
    have:=congrArg List.length hd
    simp at this
    omega
   subst e
   exact Wp.ok (by rw[List.append_nil];exact fin _ _ h)
  |cons d ds ih =>
   intro i acc s hd hi h
   have hx:all[i]?=some d:=by
    have:=congrArg (λl=>l[0]?) hd
    simpa using this
   have cH:all.drop (i+1)=ds:=by
    have:=congrArg (List.drop 1) hd
    simpa [List.drop_drop] using this
   obtain⟨az,hg,hb⟩:=step i d acc s hx h
   have aU:=(List.getElem?_eq_some_iff.mp hx).1
   unfold gg
   rw[hg]
   refine Wp.ak (Wp.ne (hb.mono λb s q=>?_))
   cases b with
   |true =>
    rw[if_pos rfl] at q |-
    refine Wp.ak (Wp.ne (q.mono λx s q=>?_))
    refine Wp.ak ((ih (i+1) (acc++[x]) s cH aU q).mono λxs s q=>Wp.ok ?_)
    rw[List.append_assoc] at q
    exact q
   |false =>
    rw[if_neg Bool.false_ne_true] at q |-
    exact ih (i+1) acc s cH aU q
 have:=key all 0 [] s rfl (Nat.zero_le _) h0
 simpa using this
end
section
variable {α β:Type} {Q:D->aa->Prop} {QL:List D->aa->Prop} {QB:Bool->aa->Prop} {QF:Fl->aa->Prop} {QO:Option Int->aa->Prop} {env:Env} {s:aa} {f g h:Env->aa->Res D} {fa:Env->aa->Res (List D)} {c c':Env->aa->Res Bool} {st eY:Env->aa->Res Fl} {o o':D->D->aa->Res D} {u:D->aa->Res D} {bf:List D->aa->Res D}
theorem wp_ok {a:α} {Q:α->aa->Prop}:Wp (ok a s) Q=Q a s:=propext ⟨λ⟨b,s',e,q⟩=>by cases e;exact q,λq=>⟨a,s,rfl,q⟩⟩
theorem wp_ok' {a:α} {Q:α->aa->Prop}:Wp (some (Except.ok a,s)) Q=Q a s:=wp_ok
theorem bG {r:Res α} {k:α->aa->Res β} {R:β->aa->Prop}:Wp (ak r k) R=Wp r λa s=>Wp (k a s) R:=propext ⟨λ⟨b,s',e,q⟩=>by
 obtain⟨a,s,e1,e2⟩:=oo e
 exact⟨a,s,e1,b,s',e2,q⟩,λh=>Wp.ak h⟩
theorem wp_ne {r:Res α} {Q:α->aa->Prop}:Wp (ne r) Q=Wp r Q:=propext ⟨λ⟨b,s',e,q⟩=>⟨b,s',yd e,q⟩,λh=>h.ne⟩
theorem wp_loc0 {a:D} {r:Env}:Wp (ab 0 (some a::r) s) Q=Q a s:=by rw[show ab 0 (some a::r) s=ok a s from rfl,wp_ok]
theorem wp_locS {i:Nat} {a:Option D} {r:Env}:Wp (ab (i+1) (a::r) s) Q=Wp (ab i r s) Q:=by rw[show ab (i+1) (a::r) s=ab i r s from rfl]
theorem wp_C {d:D}:Wp (eC d env s) Q=Q d s:=by rw[show eC d env s=ok d s from rfl,wp_ok]
theorem wp_e1:Wp (e1 u f env s) Q=Wp (f env s) λx s=>Wp (u x s) Q:=by unfold e1;rw[bG]
theorem wp_e2:Wp (e2 o f g env s) Q=Wp (f env s) λx s=>Wp (g env s) λy s=>Wp (o x y s) Q:=by unfold e2;simp only[bG]
theorem wp_aNil:Wp (ag env s) QL=QL [] s:=by unfold ag;rw[wp_ok]
theorem wp_aCons:Wp (ae f fa env s) QL=Wp (f env s) λx s=>Wp (fa env s) λxs s=>QL (x::xs) s:=by unfold ae;simp only[bG,wp_ok]
theorem wp_eB:Wp (eB bf fa env s) Q=Wp (fa env s) λds s=>Wp (bf ds s) Q:=by unfold eB;rw[bG]
theorem wp_call {fn:List D->aa->Res D}:Wp (aB fn fa env s) Q=Wp (fa env s) λds s=>Wp (fn ds s) Q:=by unfold aB;simp only[bG,wp_ne]
theorem qq {ds:List D} {r:Res α} {Q:α->aa->Prop}:Wp (iY ds r) Q=(ds.length<=sizeLine/\Wp r Q):=propext ⟨λ⟨b,s',e,q⟩=>by
 unfold iY at e
 split at e
 ·exact⟨by assumption,b,s',e,q⟩
 ·(cases e),λ⟨hl,b,s',e,q⟩=>⟨b,s',by unfold iY;rw[if_pos hl];exact e,q⟩⟩
theorem wp_tup:Wp (bp fa env s) Q=Wp (fa env s) λds s=>ds.length<=sizeLine/\Q (.tup ds) s:=by unfold bp;simp only[bG,qq,wp_ok]
theorem wp_lst:Wp (cM fa env s) Q=Wp (fa env s) λds s=>ds.length<=sizeLine/\Q (.lst ds) s:=by unfold cM;simp only[bG,qq,wp_ok]
theorem wp_new:Wp (eNew fa env s) Q=Wp (fa env s) λds s=>ds.length<=sizeLine/\Q (.ar s.length) (s++[.lst ds]):=by unfold eNew;simp only[bG,qq,wp_ok]
theorem wp_frz:Wp (rq f env s) Q=Wp (f env s) λd s=>Wp (cW d s) Q:=by unfold rq;rw[bG]
theorem wp_tBl:Wp (ba f env s) QB=Wp (f env s) λd s=>Wp (fH d s) QB:=by unfold ba;rw[bG]
theorem wp_isBl {b:Bool}:Wp (fH (.bl b) s) QB=QB b s:=by rw[show fH (.bl b) s=ok b s from rfl,wp_ok]
theorem wp_tru:Wp (bH f env s) QB=Wp (f env s) λd s=>Wp (truth d s) QB:=by unfold bH;rw[bG]
theorem wp_truB {b:Bool}:Wp (truth (.bl b) s) QB=QB b s:=by rw[show truth (.bl b) s=ok b s from rfl,wp_ok]
theorem wp_tAnd:Wp (gw c c' env s) QB=Wp (c env s) λb s=>if b=true then Wp (c' env s) QB else QB false s:=by
 unfold gw
 rw[bG]
 congr 1
 funext b s
 cases b<;>simp[wp_ok]
theorem wp_tOr:Wp (dZ c c' env s) QB=Wp (c env s) λb s=>if b=true then QB true s else Wp (c' env s) QB:=by
 unfold dZ
 rw[bG]
 congr 1
 funext b s
 cases b<;>simp[wp_ok]
theorem wp_tNot:Wp (cG c env s) QB=Wp (c env s) λb s=>QB (!b) s:=by unfold cG;simp only[bG,wp_ok]
theorem wp_eAnd:Wp (dO f g env s) Q=Wp (f env s) λx s=>Wp (fH x s) λb s=>if b=true then Wp (g env s) Q else Q (.bl false) s:=by
 unfold dO
 rw[bG]
 congr 1
 funext x s
 rw[bG]
 congr 1
 funext b s
 cases b<;>simp[wp_ok]
theorem wp_eOr:Wp (pO f g env s) Q=Wp (f env s) λx s=>Wp (fH x s) λb s=>if b=true then Q (.bl true) s else Wp (g env s) Q:=by
 unfold pO
 rw[bG]
 congr 1
 funext x s
 rw[bG]
 congr 1
 funext b s
 cases b<;>simp[wp_ok]
theorem wp_eNot:Wp (rA f env s) Q=Wp (f env s) λx s=>Wp (fH x s) λb s=>Q (.bl (!b)) s:=by unfold rA;simp only[bG,wp_ok]
theorem wp_eIf:Wp (wF c f g env s) Q=Wp (c env s) λb s=>if b=true then Wp (f env s) Q else Wp (g env s) Q:=by
 unfold wF
 rw[bG]
 congr 1
 funext b s
 cases b<;>simp
theorem wp_eCh:Wp (j7 o o' f g h env s) Q=Wp (f env s) λx s=>Wp (g env s) λy s=>Wp (o x y s) λz s=>Wp (fH z s) λb s=>if b=true then Wp (h env s) λu s=>Wp (o' y u s) Q else Q (.bl false) s:=by
 unfold j7
 simp only[bG]
 congr 1
 funext x s
 congr 1
 funext y s
 congr 1
 funext z s
 congr 1
 funext b s
 cases b<;>simp[wp_ok,bG]
theorem wp_sNil:Wp (bA env s) QF=QF (.nx env) s:=by unfold bA;rw[wp_ok]
theorem wp_sRet:Wp (aG f env s) QF=Wp (f env s) λd s=>QF (.rt d) s:=by unfold aG;simp only[bG,wp_ok]
theorem wp_sExpr:Wp (fj f env s) QF=Wp (f env s) λ_ s=>QF (.nx env) s:=by unfold fj;simp only[bG,wp_ok]
theorem wp_sCont:Wp (Fo env s) QF=QF (.ct env) s:=by unfold Fo;rw[wp_ok]
noncomputable def mw (st:Env->aa->Res Fl) (Q:Fl->aa->Prop):Fl->aa->Prop:=λfl s=>match fl with
 | .nx env=>Wp (st env s) Q
 |fl=>Q fl s
theorem wp_sSeq:Wp (ax st eY env s) QF=Wp (st env s) (mw eY QF):=propext ⟨λh=>by
 unfold ax at h
 rw[bG] at h
 refine h.mono λfl s q=>?_
 cases fl with
 |nx e=>exact q
 |rt d=>have q:Wp (ok (Fl.rt d) s) QF:=q;rw[wp_ok] at q;exact q
 |bk d=>have q:Wp (ok (Fl.bk d) s) QF:=q;rw[wp_ok] at q;exact q
 |ct d=>have q:Wp (ok (Fl.ct d) s) QF:=q;rw[wp_ok] at q;exact q,λh=>Wp.seq (h.mono λfl s q=>by cases fl<;>exact q)⟩
theorem Wp.step (h:∀R,R=eY->Wp (st env s) (mw R QF)):Wp (ax st eY env s) QF:=by rw[wp_sSeq];exact h _ rfl
theorem aft_nx:mw st QF (.nx env) s=Wp (st env s) QF:=rfl
theorem aft_rt {d:D}:mw st QF (.rt d) s=QF (.rt d) s:=rfl
theorem aft_ct:mw st QF (.ct env) s=QF (.ct env) s:=rfl
theorem wp_sIf:Wp (bt c st eY env s) QF=Wp (c env s) λb s=>if b=true then Wp (st env s) QF else Wp (eY env s) QF:=by
 unfold bt
 rw[bG]
 congr 1
 funext b s
 cases b<;>simp
theorem wp_sAsg {gd:D->Env->Option Env}:Wp (bq f gd env s) QF=Wp (f env s) λd s=>∃e,gd d env=some e/\QF (.nx e) s:=by
 unfold bq
 rw[bG]
 congr 1
 funext d s
 cases h:gd d env with
 |none=>exact propext ⟨λ⟨_,_,e,_⟩=>(by cases e),λ⟨_,e,_⟩=>(by cases e)⟩
 |some e=>rw[wp_ok];exact propext ⟨λq=>⟨e,rfl,q⟩,λ⟨e',z,q⟩=>by cases z;exact q⟩
theorem asg_N {i:Nat} {d:D} {P:Env->Prop}:(∃e,gN i d env=some e/\P e)=P (env.set i (some d)):=propext ⟨λ⟨e,z,q⟩=>by cases z;exact q,λq=>⟨_,rfl,q⟩⟩
theorem asg_T {gs:List (D->Env->Option Env)} {ds:List D} {P:Env->Prop}:(∃e,gT gs (.tup ds) env=some e/\P e)=∃e,fk gs ds env=some e/\P e:=rfl
theorem asg_nil {P:Env->Prop}:(∃e,fk [] [] env=some e/\P e)=P env:=propext ⟨λ⟨e,z,q⟩=>by cases z;exact q,λq=>⟨_,rfl,q⟩⟩
theorem asg_cons {i:Nat} {gs:List (D->Env->Option Env)} {d:D} {ds:List D} {P:Env->Prop}:(∃e,fk (gN i::gs) (d::ds) env=some e/\P e)=∃e,fk gs ds (env.set i (some d))=some e/\P e:=rfl
theorem wp_par2 {i j:Nat}:Wp (pb i j fa env s) QF=Wp (fa env s) λds s=>∃x y,ds=[x,y]/\QF (.nx ((env.set i (some x)).set j (some y))) s:=by
 unfold pb
 rw[bG]
 congr 1
 funext ds s
 match ds with
 | [x,y] =>
  show Wp (ok (Fl.nx ((env.set i (some x)).set j (some y))) s) QF=_
  rw[wp_ok]
  exact propext ⟨λq=>⟨x,y,rfl,q⟩,λ⟨x',y',e,q⟩=>by cases e;exact q⟩
 | []=>exact propext ⟨λ⟨_,_,e,_⟩=>(by cases e),λ⟨_,_,e,_⟩=>(by cases e)⟩
 | [_]=>exact propext ⟨λ⟨_,_,e,_⟩=>(by cases e),λ⟨_,_,e,_⟩=>(by cases e)⟩
 |_::_::_::_=>exact propext ⟨λ⟨_,_,e,_⟩=>(by cases e),λ⟨_,_,e,_⟩=>(by cases e)⟩
theorem par_of {x y:D} {P:D->D->Prop}:(∃x' y',[x,y]=[x',y']/\P x' y')=P x y:=propext ⟨λ⟨_,_,e,q⟩=>by cases e;exact q,λq=>⟨x,y,rfl,q⟩⟩
theorem wp_sFor {it:Env->aa->Res (List D)} {gd:D->Env->Option Env}:Wp (eT it gd st env s) QF=Wp (it env s) λds s=>Wp (jO gd st ds env s) QF:=by unfold eT;rw[bG]
theorem wp_sSub {fo fi:Env->aa->Res D}:Wp (kQ f fo fi env s) QF=Wp (f env s) λx s=>Wp (fo env s) λd s=>Wp (fi env s) λn s=>∃s',jm d n x s=some s'/\QF (.nx env) s':=by
 unfold kQ
 simp only[bG]
 congr 1
 funext x s
 congr 1
 funext d s
 congr 1
 funext n s
 cases h:jm d n x s with
 |none=>exact propext ⟨λ⟨_,_,e,_⟩=>(by cases e),λ⟨_,e,_⟩=>(by cases e)⟩
 |some e=>simp only[wp_ok];exact propext ⟨λq=>⟨e,rfl,q⟩,λ⟨e',z,q⟩=>by cases z;exact q⟩
theorem wp_app:Wp (jl f g env s) Q=Wp (f env s) λd s=>jW d s=true/\Wp (g env s) λx s=>Wp (hU d x s) Q:=by
 unfold jl
 rw[bG]
 congr 1
 funext d s
 cases h:jW d s with
 |true=>rw[if_pos rfl,bG];simp
 |false=>rw[if_neg Bool.false_ne_true];exact propext ⟨λ⟨_,_,e,_⟩=>(by cases e),λ⟨e,_⟩=>(by cases e)⟩
noncomputable def lZ (Q:D->aa->Prop):Fl->aa->Prop:=λfl s=>match fl with
 | .rt d=>Q d s
 | .nx _=>Q .ay s
 |_=>False
theorem wp_fn {np ns:Nat} {ds:List D}:Wp (bw np ns st ds s) Q=(ds.length=np/\Wp (st (ds.map some++List.replicate (ns-np) none) s) (lZ Q)):=by
 unfold bw
 by_cases h:ds.length=np
 ·rw[if_pos h,bG]
  refine propext ⟨λq=>⟨h,q.mono λfl s q=>?_⟩,λ⟨_,q⟩=>q.mono λfl s q=>?_⟩
  ·cases fl with
   |rt d=>exact(show Wp (ok d s) Q from q) |> λz=>by rw[wp_ok] at z;exact z
   |nx e=>exact(show Wp (ok D.ay s) Q from q) |> λz=>by rw[wp_ok] at z;exact z
   |bk e=>obtain⟨_,_,e,_⟩:=q;cases e
   |ct e=>obtain⟨_,_,e,_⟩:=q;cases e
  ·cases fl with
   |rt d=>exact Wp.ok q
   |nx e=>exact Wp.ok q
   |bk e=>exact q.elim
   |ct e=>exact q.elim
 ·rw[if_neg h]
  exact propext ⟨λ⟨_,_,e,_⟩=>(by cases e),λ⟨e,_⟩=>absurd e h⟩
theorem fin_rt {d:D}:lZ Q (.rt d) s=Q d s:=rfl
theorem fin_nx:lZ Q (.nx env) s=Q .ay s:=rfl
theorem wp_comp {nt:Nat} {cap:List Nat} {it:Env->aa->Res (List D)} {gd:D->Env->Option Env}:Wp (cL nt cap it gd c f env s) Q=Wp (it env s) λds s=>ds.length<=sizeLine/\Wp (gg nt (iA cap env) gd c f ds s) λxs s=>Q (.lst xs) s:=by
 unfold cL;simp only[bG,qq,wp_ok]
theorem wp_sl {l' h':Env->aa->Res (Option Int)}:Wp (bQ f l' h' env s) Q=Wp (f env s) λd s=>Wp (l' env s) λlo s=>Wp (h' env s) λhi s=>Wp (jM d lo hi s) Q:=by unfold bQ;simp only[bG]
theorem wp_pNo:Wp (bT env s) QO=QO none s:=by unfold bT;rw[wp_ok]
theorem jH {i:Int} (hi:f env s=ok (.int i) s):Wp (bI f env s) QO=QO (some i) s:=by unfold bI;rw[hi,eG,wp_ok]
end
end DI
namespace DI
open PySem L2
def jZ (s:aa) (k:Nat):Prop:=∃a b:Int,s[k]?=some (.lst [.int a,.int b])/\0<=a/\0<=b/\b<2147483647
structure Ex (k:Nat) (s s':aa):Prop where
 len:s.length<=s'.length
 val:∀j,j<s.length->j≠k->s'[j]?=s[j]?
theorem Ex.refl (k:Nat) (s:aa):Ex k s s:=⟨Nat.le_refl _,λ_ _ _=>rfl⟩
theorem Ex.trans {k:Nat} {a b c:aa} (h:Ex k a b) (g:Ex k b c):Ex k a c:=⟨Nat.le_trans h.len g.len,λj hj hk=>(g.val j (Nat.lt_of_lt_of_le hj h.len) hk).trans (h.val j hj hk)⟩
theorem Ex.set (k:Nat) (s:aa) (c:Cell):Ex k s (s.set k c):=⟨by simp,λj _ hj=>List.getElem?_set_ne (Ne.symm hj)⟩
theorem Ex.app (k:Nat) (s:aa) (c:List Cell):Ex k s (s++c):=⟨by simp,λj hj _=>List.getElem?_append_left hj⟩
theorem jZ.lt {s:aa} {k:Nat} (h:jZ s k):k<s.length:=by
 obtain⟨a,b,e,_⟩:=h
 exact(List.getElem?_eq_some_iff.mp e).1
theorem jZ.app {s:aa} {k:Nat} (h:jZ s k) (c:List Cell):jZ (s++c) k:=by
 obtain⟨a,b,e,r⟩:=h
 exact⟨a,b,by rw[List.getElem?_append_left (List.getElem?_eq_some_iff.mp e).1];exact e,r⟩
theorem jZ.set {s:aa} {k j:Nat} (h:jZ s k) (hj:j≠k) (c:Cell):jZ (s.set j c) k:=by
 obtain⟨a,b,e,r⟩:=h
 exact⟨a,b,by rw[List.getElem?_set_ne hj];exact e,r⟩
theorem wX (x y:D) (k:Nat) (s:aa) (h:s[k]?=some (.lst [x,y])):aD (.ar k) (.int 0) s=ok x s:=by
 simp[aD,la,res,h,de,dQ,bE]
theorem Bb (x y:D) (k:Nat) (s:aa) (h:s[k]?=some (.lst [x,y])):aD (.ar k) (.int 1) s=ok y s:=by
 simp[aD,la,res,h,de,dQ,bE]
theorem zZ (x y z:D) (k:Nat) (s:aa) (h:s[k]?=some (.lst [x,y])):jm (.ar k) (.int 0) z s=some (s.set k (.lst [z,y])):=by
 simp[jm,h,dQ]
theorem R7 (x y z:D) (k:Nat) (s:aa) (h:s[k]?=some (.lst [x,y])):jm (.ar k) (.int 1) z s=some (s.set k (.lst [x,z])):=by
 simp[jm,h,dQ]
@[simp] theorem u5 {a:D} {r:Env} {s:aa}:ab 0 (some a::r) s=ok a s:=rfl
@[simp] theorem u6 {i:Nat} {a:Option D} {r:Env} {s:aa}:ab (i+1) (a::r) s=ab i r s:=rfl
theorem ltI (i j:Int) (s:aa):fN (.int i) (.int j) s=ok (.bl (decide (i<j))) s:=rfl
theorem Hi (i j:Int) (s:aa):jV (.int i) (.int j) s=ok (.bl (decide (j<i))) s:=rfl
theorem Ul (i j:Int) (s:aa):o7 (.int i) (.int j) s=ok (.bl (decide (j<=i))) s:=rfl
theorem Um (i j:Int) (s:aa):kP (.int i) (.int j) s=ok (.bl (decide (i<=j))) s:=rfl
theorem Gn (i j:Int) (s:aa):aS (.int i) (.int j) s=ok (.int (i+j)) s:=rfl
theorem R8 (i j:Int) (s:aa):lO (.int i) (.int j) s=ok (.int (i-j)) s:=rfl
theorem Uo (i j:Int) (s:aa):cg (.int i) (.int j) s=ok (.bl (i==j)) s:=rfl
theorem Uq (i j:Int) (s:aa):cC (.int i) (.int j) s=ok (.bl (!(i==j))) s:=rfl
theorem nu {i j:Int} (s:aa) (h:0<j):eJ (.int i) (.int j) s=ok (.int (i % j)) s:=by
 simp[eJ,zQ,h,bE]
theorem Gp {i j:Int} (s:aa) (h:0<j) (h2:j<1073741824):mW (.int i) (.int j) s=ok (.int (i / j)) s:=by
 simp[mW,zR,h,h2,bE]
theorem rN {i j:Int} (s:aa) (h:qR i j=true):dY (.int i) (.int j) s=ok (.int (i*j)) s:=by
 simp[dY,zP,h,bE]
theorem mulOk_of {i j:Int} (h1:-(2 ^ 64)<i) (h2:i<2 ^ 64):qR i j=true:=by
 unfold qR
 rw[decide_eq_true h1,decide_eq_true h2]
 rfl
theorem le_size {n:Nat} (h:n<=1000000):n<=sizeLine:=Nat.le_trans h (by decide)
theorem LM {j:Int} (h1:-1000000<=j) (h2:j<=1000000):qP j=true:=by
 unfold qP
 rw[decide_eq_true (show -(2 ^ 62)<=j by omega),decide_eq_true (show j<2 ^ 62 by omega)]
 rfl
theorem O1 {α:Type} {xs:List α} {i:Int} (h0:0<=i) (h1:i<xs.length):∃x,de xs i=some x/\xs[i.toNat]?=some x:=by
 have hj:i.toNat<xs.length:=by omega
 refine⟨xs[i.toNat],?_,List.getElem?_eq_getElem hj⟩
 unfold de dQ
 rw[if_pos h0,if_pos h1]
 exact List.getElem?_eq_getElem hj
theorem M8 {ns:List Int} {i:Int} {s:aa} (h0:0<=i):∃c:Int,og [.bS ns,.int i] s=ok (.int c) s:=by
 by_cases h:i<(ns.length:Int)
 ·obtain⟨x,h1,_⟩:=O1 h0 h
  refine⟨x,?_⟩
  have hx:aD (.bS ns) (.int i) s=ok (.int x) s:=by simp[aD,la,res,h1,bE]
  simp only[og,bw,ax,bt,ba,e2,eB,ae,ag,bb,rF,res,bE,u5,u6,eC,eG,List.map_cons,List.map_nil,List.cons_append,List.nil_append,List.length_cons,List.length_nil,if_true,ltI,fH,decide_eq_true h,aG,hx,List.replicate]
 ·refine⟨0,?_⟩
  simp only[og,bw,ax,bt,ba,e2,eB,ae,ag,bb,rF,res,bE,u5,u6,eC,eG,List.map_cons,List.map_nil,List.cons_append,List.nil_append,List.length_cons,List.length_nil,if_true,ltI,fH,decide_eq_false h,Bool.false_eq_true,if_false,bA,aG,List.replicate]
structure cJ (m:Nat) (ns:List Int):Prop where
 lo:∀x∈ns,0<=x/\x<m
 up:ns.Pairwise (· < ·)
noncomputable abbrev mD (ns:List Int):D:=.tup (ns.map D.int)
theorem cJ.len {m:Nat} {ns:List Int} (h:cJ m ns):ns.length<=m:=by
 have key:∀(l:List Int) (b:Int),l.Pairwise (· < ·)->(∀x∈l,b<=x/\x<m)->(l.length:Int)<=m-b\/l=[]:=by
  intro l
  induction l with
  |nil=>intro b _ _;exact .inr rfl
  |cons x l ih =>
   intro b hp hb
   obtain⟨h1,h2⟩:=List.pairwise_cons.mp hp
   have hx:=hb x List.mem_cons_self
   left
   rcases ih (x+1) h2 (λy hy=>⟨by have:=h1 y hy;omega,(hb y (List.mem_cons_of_mem _ hy)).2⟩) with h|h
   ·rw[List.length_cons];omega
   ·subst h
    simp
    omega
 rcases key ns 0 h.up h.lo with h'|h'
 ·omega
 ·subst h';simp
theorem iX {fa:Env->aa->Res (List D)} {env:Env} {s s1:aa} {n:Nat} (h:fa env s=ok [.int n] s1) (hn:n<=1000000):dS fa env s=ok (bF 0 n) s1:=by
 unfold dS
 rw[h,eG]
 show (if qP (n:Int)=true then ok (bF 0 (n:Int).toNat) s1 else none)=_
 rw[if_pos (LM (by omega) (by omega)),Int.toNat_natCast]
theorem M9 {fa:Env->aa->Res (List D)} {env:Env} {s s1:aa} {n:Nat} {i:Int} (h:fa env s=ok [.int i] s1) (hi:i=n) (hn:n<=1000000):dS fa env s=ok (bF 0 n) s1:=by
 subst hi
 exact iX h hn
theorem wp_ltI {i j:Int} {s:aa} {Q:D->aa->Prop}:Wp (fN (.int i) (.int j) s) Q=Q (.bl (decide (i<j))) s:=by rw[ltI,wp_ok]
theorem wp_gtI {i j:Int} {s:aa} {Q:D->aa->Prop}:Wp (jV (.int i) (.int j) s) Q=Q (.bl (decide (j<i))) s:=by rw[Hi,wp_ok]
theorem wp_geI {i j:Int} {s:aa} {Q:D->aa->Prop}:Wp (o7 (.int i) (.int j) s) Q=Q (.bl (decide (j<=i))) s:=by rw[Ul,wp_ok]
theorem wp_leI {i j:Int} {s:aa} {Q:D->aa->Prop}:Wp (kP (.int i) (.int j) s) Q=Q (.bl (decide (i<=j))) s:=by rw[Um,wp_ok]
theorem wp_addI {i j:Int} {s:aa} {Q:D->aa->Prop}:Wp (aS (.int i) (.int j) s) Q=Q (.int (i+j)) s:=by rw[Gn,wp_ok]
theorem wp_subI {i j:Int} {s:aa} {Q:D->aa->Prop}:Wp (lO (.int i) (.int j) s) Q=Q (.int (i-j)) s:=by rw[R8,wp_ok]
theorem wp_eqI {i j:Int} {s:aa} {Q:D->aa->Prop}:Wp (cg (.int i) (.int j) s) Q=Q (.bl (i==j)) s:=by rw[Uo,wp_ok]
theorem wp_neI {i j:Int} {s:aa} {Q:D->aa->Prop}:Wp (cC (.int i) (.int j) s) Q=Q (.bl (!(i==j))) s:=by rw[Uq,wp_ok]
end DI
local macro_rules | `(tactic| simp only[VC])=>`(tactic| simp only[DI.wp_ok,DI.wp_ok',DI.wp_ne,DI.wp_loc0,DI.wp_locS,DI.wp_C,DI.wp_e1,DI.wp_e2,DI.wp_aNil,DI.wp_aCons,DI.wp_eB,DI.wp_call,DI.wp_tup,DI.wp_lst,DI.wp_new,DI.wp_frz,DI.wp_tBl,DI.wp_isBl,DI.wp_tru,DI.wp_truB,DI.wp_tAnd,DI.wp_tOr,DI.wp_tNot,DI.wp_eAnd,DI.wp_eOr,DI.wp_eNot,DI.wp_eIf,DI.wp_eCh,DI.wp_sNil,DI.wp_sRet,DI.wp_sExpr,DI.wp_sCont,DI.wp_sSeq,DI.aft_nx,DI.aft_rt,DI.aft_ct,DI.wp_sIf,DI.wp_sAsg,DI.asg_N,DI.asg_T,DI.asg_nil,DI.asg_cons,DI.wp_par2,DI.par_of,DI.wp_sFor,DI.wp_sSub,DI.wp_app,DI.wp_fn,DI.fin_rt,DI.fin_nx,DI.wp_comp,DI.wp_sl,DI.wp_pNo,List.map_cons,List.map_nil,List.cons_append,List.nil_append,List.length_cons,List.length_nil,List.set_cons_succ,List.set_cons_zero,List.replicate,true_and,Nat.reduceSub,Nat.reduceAdd,DI.wp_ltI,DI.wp_gtI,DI.wp_geI,DI.wp_leI,DI.wp_addI,DI.wp_subI,DI.wp_eqI,DI.wp_neI])
local macro_rules | `(tactic| simp only[VC,$xs,*])=>`(tactic| simp only[DI.wp_ok,DI.wp_ok',DI.wp_ne,DI.wp_loc0,DI.wp_locS,DI.wp_C,DI.wp_e1,DI.wp_e2,DI.wp_aNil,DI.wp_aCons,DI.wp_eB,DI.wp_call,DI.wp_tup,DI.wp_lst,DI.wp_new,DI.wp_frz,DI.wp_tBl,DI.wp_isBl,DI.wp_tru,DI.wp_truB,DI.wp_tAnd,DI.wp_tOr,DI.wp_tNot,DI.wp_eAnd,DI.wp_eOr,DI.wp_eNot,DI.wp_eIf,DI.wp_eCh,DI.wp_sNil,DI.wp_sRet,DI.wp_sExpr,DI.wp_sCont,DI.wp_sSeq,DI.aft_nx,DI.aft_rt,DI.aft_ct,DI.wp_sIf,DI.wp_sAsg,DI.asg_N,DI.asg_T,DI.asg_nil,DI.asg_cons,DI.wp_par2,DI.par_of,DI.wp_sFor,DI.wp_sSub,DI.wp_app,DI.wp_fn,DI.fin_rt,DI.fin_nx,DI.wp_comp,DI.wp_sl,DI.wp_pNo,List.map_cons,List.map_nil,List.cons_append,List.nil_append,List.length_cons,List.length_nil,List.set_cons_succ,List.set_cons_zero,List.replicate,true_and,Nat.reduceSub,Nat.reduceAdd,DI.wp_ltI,DI.wp_gtI,DI.wp_geI,DI.wp_leI,DI.wp_addI,DI.wp_subI,DI.wp_eqI,DI.wp_neI,$xs,*])
namespace DI
open PySem L2
theorem Wp.eq {α:Type} {r:Res α} {d:α} {s:aa} (h:Wp r λa s'=>a=d/\s'=s):r=DI.ok d s:=by
 obtain⟨a,s',e,rfl,rfl⟩:=h
 exact e
theorem ik {f:Env->aa->Res D} {env:Env} {s s1:aa} {ds:List D} (h:f env s=ok (.tup ds) s1):c9 f env s=ok ds s1:=by
 unfold c9
 rw[h]
 rfl
theorem Dy {f:Env->aa->Res D} {env:Env} {s s1:aa} {ds:List D} (h:f env s=ok (.lst ds) s1):c9 f env s=ok ds s1:=by
 unfold c9
 rw[h]
 rfl
theorem mJ:∀(ns:List Int),bW (ns.map D.int)=true
 | []=>rfl
 |n::ns=>by simp only[List.map_cons,bW,lay,mJ ns,Bool.and_self]
theorem xr:∀(ns:List Int),iF (ns.map D.int)=0
 | []=>rfl
 |n::ns=>by simp only[List.map_cons,iF,dep,xr ns,Nat.max_self]
theorem Eh (x:Int) (ns:List Int):((ns.map D.int).any λy=>beq y (.int x))=decide (x∈ns):=by
 induction ns with
 |nil=>simp
 |cons n ns ih =>
  simp only[List.map_cons,List.any_cons,ih,beq]
  by_cases h:n=x
  ·subst h;simp
  ·have h':¬ x=n:=λe=>h e.symm
   simp[h,h']
theorem Na {x:Int} {ns:List Int} {s:aa}:o9 (.int x) (mD ns) s=ok (.bl (decide (x∈ns))) s:=by
 have hl:oS 100 (.int x) (ns.map D.int)=true:=by simp only[oS,lay,mJ,dep,Bool.and_self,Nat.zero_le,decide_true]
 have e:inD (.int x) (ns.map D.int)=some (decide (x∈ns)):=by unfold inD;rw[if_pos hl,Eh]
 unfold o9
 rw[show oT (mD ns) s=some (ns.map D.int) from rfl]
 simp only[e]
 rfl
theorem Jy {x:Int} {ns:List Int} {s:aa}:ow (.int x) (mD ns) s=ok (.bl (!decide (x∈ns))) s:=by
 have hl:oS 100 (.int x) (ns.map D.int)=true:=by simp only[oS,lay,mJ,dep,Bool.and_self,Nat.zero_le,decide_true]
 have e:inD (.int x) (ns.map D.int)=some (decide (x∈ns)):=by unfold inD;rw[if_pos hl,Eh]
 unfold ow
 rw[show oT (mD ns) s=some (ns.map D.int) from rfl]
 simp only[e]
 rfl
noncomputable def sub (a b:List Int):Bool:=a.all λx=>decide (x∈b)
theorem lB {a b:List Int}:sub a b=true↔∀x∈a,x∈b:=by simp[sub]
theorem lC {α:Type} (p:α->Bool) (xs:List α) (s:aa):iG [.lst (xs.map λx=>D.bl (p x))] s=ok (.bl (xs.all p)) s:=by
 have e:gE (xs.map λx=>D.bl (p x))=some (xs.map p):=by
  have:=D7 (bs:=xs.map p)
  rw[List.map_map] at this
  exact this
 show bE ((gE (xs.map λx=>D.bl (p x))).map λ(bs:List Bool)=>D.bl (bs.all id)) s=_
 rw[e]
 show ok (D.bl ((xs.map p).all id)) s=_
 rw[List.all_map]
 rfl
theorem filter_tt {α:Type} (xs:List α):xs.filter (λ_=>true)=xs:=by simp
theorem xt {nt:Nat} {caps:Env} {g:D->Env->Option Env} {t:Env->aa->Res Bool} {f:Env->aa->Res D} {s:aa} (p:Int->Bool) (h:Int->D) (ns:List Int) (hh:∀n∈ns,∃env,g (.int n) (List.replicate nt none++caps)=some env/\t env s=ok (p n) s/\(p n=true->f env s=ok (h n) s)) :
  gg nt caps g t f (ns.map D.int) s=ok ((ns.filter p).map h) s:=by
 induction ns with
 |nil=>rfl
 |cons n ns ih =>
  obtain⟨env,h1,h2,h3⟩:=hh n List.mem_cons_self
  have ih:=ih λn' h'=>hh n' (List.mem_cons_of_mem _ h')
  rw[List.map_cons]
  unfold gg
  rw[h1]
  simp only[h2,kI,eG]
  cases hp:p n with
  |true=>simp only[if_true,h3 hp,kI,eG,ih,List.filter_cons,hp,List.map_cons]
  |false=>simp only[Bool.false_eq_true,if_false,ih,List.filter_cons,hp]
theorem comp_map {α:Type} (d:α->D) {nt:Nat} {caps:Env} {g:D->Env->Option Env} {t:Env->aa->Res Bool} {f:Env->aa->Res D} {s:aa} (p:α->Bool) (h:α->D) (xs:List α) (hh:∀x∈xs,∃env,g (d x) (List.replicate nt none++caps)=some env/\t env s=ok (p x) s/\(p x=true->f env s=ok (h x) s)) :
  gg nt caps g t f (xs.map d) s=ok ((xs.filter p).map h) s:=by
 induction xs with
 |nil=>rfl
 |cons n ns ih =>
  obtain⟨env,h1,h2,h3⟩:=hh n List.mem_cons_self
  have ih:=ih λn' h'=>hh n' (List.mem_cons_of_mem _ h')
  rw[List.map_cons]
  unfold gg
  rw[h1]
  simp only[h2,kI,eG]
  cases hp:p n with
  |true=>simp only[if_true,h3 hp,kI,eG,ih,List.filter_cons,hp,List.map_cons]
  |false=>simp only[Bool.false_eq_true,if_false,ih,List.filter_cons,hp]
theorem uh {a b:List Int} {s:aa} (hb:b.length<=1000000):mI [mD a,mD b] s=ok (.bl (sub b a)) s:=by
 refine Wp.eq ?_
 unfold mI
 simp only[VC]
 refine Wp.of (ik rfl) ⟨le_size (by rw[List.length_map];exact hb),?_⟩
 refine Wp.of (xt (λ_=>true) (λx=>.bl (decide (x∈a))) b λn _=>⟨[some (.int n),some (mD a)],rfl,rfl,λ_=>?_⟩) ?_
 ·show e2 o9 (ab 0) (ab 1) _ _=_
  exact Na
 ·rw[filter_tt]
  exact Wp.of (lC _ _ _) ⟨rfl,rfl⟩
end DI
namespace DI
open PySem L2
theorem Kk {i:Int} {s:aa}:qe [.int i] s=ok (.bl (decide (0<=i))) s:=by
 rfl
theorem qi {i m:Int} {s:aa}:jE [.int i,.int m] s=ok (.bl (decide (0<=i)&&decide (i<m))) s:=by
 refine Wp.eq ?_
 unfold jE
 simp only[VC,Kk]
 by_cases h:0<=i
 ·simp[h]
 ·simp[h]
theorem Nb {i:Int} {s:aa}:uq [.int i] s=ok (.bl (decide (0<=i)&&decide (i<8))) s:=by
 refine Wp.eq ?_
 unfold uq
 simp only[VC,qi,true_and]
theorem LN (xs:List D):cutD xs (some 1) none=xs.drop 1:=by
 unfold cutD HT.aM
 cases xs with
 |nil=>simp
 |cons x xs =>
  simp only[List.length_cons]
  have e:(if (1:Int)<0 then (1+((xs.length+1:Nat):Int)).toNat else min (1:Int).toNat (xs.length+1))=1:=by simp
  simp
noncomputable def rise:List Int->Bool
 | []=>true
 | [_]=>true
 |a::b::r=>decide (a<b)&&rise (b::r)
theorem Nc {ns:List Int} (h:ns.Pairwise (· < ·)):rise ns=true:=by
 induction ns with
 |nil=>rfl
 |cons a ns ih =>
  cases ns with
  |nil=>rfl
  |cons b r =>
   obtain⟨h1,h2⟩:=List.pairwise_cons.mp h
   simp only[rise,ih h2,Bool.and_true]
   exact decide_eq_true (h1 b List.mem_cons_self)
theorem xN:∀(ns:List Int),((ns.zip (ns.drop 1)).all λp=>decide (p.1<p.2))=rise ns
 | []=>rfl
 | [_]=>rfl
 |a::b::r=>by
  have ih:=xN (b::r)
  simp only[List.drop_succ_cons,List.drop_zero,List.zip_cons_cons,List.all_cons,rise] at ih |-
  rw[ih]
theorem Kl (xs ys:List Int):iE (xs.map D.int) (ys.map D.int)=(xs.zip ys).map λp=>D.tup [.int p.1,.int p.2]:=by
 unfold iE
 rw[List.zip_map,List.map_map]
 rfl
theorem Dz {fa:Env->aa->Res (List D)} {env:Env} {s s1:aa} {xs ys:List D} (h:fa env s=ok [.tup xs,.tup ys] s1):lU fa env s=ok (iE xs ys) s1:=by
 unfold lU
 rw[h]
 rfl
theorem C8 {ns:List Int} {s:aa} (hl:ns.length<=1000000):n6 [mD ns] s=ok (.bl (rise ns)) s:=by
 refine Wp.eq ?_
 unfold n6
 simp only[VC]
 have hz:lU (ae (ab 0) (ae (bQ (ab 0) (bI (eC (.int 1))) bT) ag)) [some (mD ns)] s=ok (iE (ns.map D.int) ((ns.drop 1).map D.int)) s:=by
  refine Dz (Wp.eq ?_)
  simp only[VC]
  rw[jH (i:=1) rfl]
  try simp only[VC]
  refine Wp.of (show jM (mD ns) (some 1) none s=ok (.tup (cutD (ns.map D.int) (some 1) none)) s from rfl) ⟨?_,rfl⟩
  rw[LN,List.map_drop]
 refine Wp.of hz ⟨le_size (by rw[Dp];simp only[List.length_map];omega),?_⟩
 rw[Kl]
 refine Wp.of (comp_map (λp:Int×Int=>D.tup [.int p.1,.int p.2]) (λ_=>true) (λp=>.bl (decide (p.1<p.2))) _ λp _=>⟨[some (.int p.1),some (.int p.2)],rfl,rfl,λ_=>rfl⟩) ?_
 rw[filter_tt]
 exact Wp.of (lC _ _ _) ⟨by rw[xN],rfl⟩
theorem Jz {ns:List Int} {s:aa} (h:cJ 8 ns):tY [mD ns] s=ok (.bl true) s:=by
 have hl:=h.len
 refine Wp.eq ?_
 unfold tY
 simp only[VC]
 refine Wp.of (show bh [mD ns,.ty "tuple"] s=ok (.bl true) s from rfl) ?_
 simp only[VC,if_true]
 refine Wp.of (ik rfl) ⟨le_size (by rw[List.length_map];omega),?_⟩
 refine Wp.of (xt (λ_=>true) (λx=>.bl (decide (0<=x)&&decide (x<8))) ns λn _=>⟨[some (.int n)],rfl,rfl,λ_=>?_⟩) ?_
 ·refine Wp.eq ?_
  simp only[VC,Nb,true_and]
 ·rw[filter_tt]
  refine Wp.of (lC _ _ _) ?_
  have e:(ns.all λx=>decide (0<=x)&&decide (x<8))=true:=by
   rw[List.all_eq_true]
   intro x hx
   have:=h.lo x hx
   simp only[Bool.and_eq_true,decide_eq_true_eq]
   omega
  rw[e]
  simp only[VC,if_true]
  exact Wp.of (C8 (by omega)) ⟨by rw[Nc h.up],rfl⟩
structure Gq (rs:List (List Int)):Prop where
 lo:1<=rs.length
 hi:rs.length<=10
 fC:∀r∈rs,cJ 8 r
noncomputable abbrev rD (rs:List (List Int)):D:=.tup (rs.map mD)
end DI
namespace DI
open PySem L2
theorem oG {xs:List D} {j:Nat} {d:D} {s:aa} (h:xs[j]?=some d):aD (.tup xs) (.int j) s=ok d s:=by
 unfold aD la
 rw[show res (.tup xs) s=.tup xs from rfl]
 simp only[xU h]
 rfl
theorem getD_some {α:Type} {xs:List α} {i:Nat} {d:α} (h:i<xs.length):xs[i]?=some (xs.getD i d):=by
 rw[List.getD_eq_getElem?_getD,List.getElem?_eq_getElem h]
 rfl
theorem jA {rs:List (List Int)} {i:Nat} {s:aa} (h:i<rs.length):aD (rD rs) (.int i) s=ok (mD (rs.getD i [])) s:=oG (by rw[List.getElem?_map,getD_some (d:=[]) h];rfl)
theorem iI {rs:List (List Int)} {s:aa}:bb [rD rs] s=ok (.int rs.length) s:=by
 show ok (D.int (rs.map mD).length) s=_
 rw[List.length_map]
theorem uP (lo:Int) (n:Nat):bF lo n=(List.range n).map λi:Nat=>D.int (lo+i):=rfl
noncomputable def O2 (rs:List (List Int)) (laid:List Int) (m:Int):Bool:=((List.range laid.length).filter λi=>laid.getD i 0==m).all λi=>sub (rs.getD i []) (rs.getD laid.length [])
theorem E7 {α:Type} (d:α->D) {lR:Env} {g:D->Env->Option Env} {t:Env->aa->Res Bool} {act:Env->aa->Res (List D)} {s:aa} (p:α->Bool) (h:α->List D) (xs:List α) (hh:∀x∈xs,∃env,g (d x) lR=some env/\t env s=ok (p x) s/\(p x=true->act env s=ok (h x) s)) :
  iH g t act lR (xs.map d) s=ok ((xs.filter p).flatMap h) s:=by
 induction xs with
 |nil=>rfl
 |cons n ns ih =>
  obtain⟨env,h1,h2,h3⟩:=hh n List.mem_cons_self
  have ih:=ih λn' h'=>hh n' (List.mem_cons_of_mem _ h')
  rw[List.map_cons]
  unfold iH
  rw[h1]
  simp only[h2,kI,eG]
  cases hp:p n with
  |true=>simp only[if_true,h3 hp,kI,eG,ih,List.filter_cons,hp,List.flatMap_cons]
  |false=>simp only[Bool.false_eq_true,if_false,ih,List.filter_cons,hp]
theorem LO {nt:Nat} {cap:List Nat} {it:Env->aa->Res (List D)} {gd:D->Env->Option Env} {c:Env->aa->Res Bool} {act:Env->aa->Res (List D)} {env:Env} {s:aa} {Q:D->aa->Prop} :
  Wp (u0 nt cap it gd c act env s) Q=Wp (it env s) λds s=>Wp (iH gd c act (List.replicate nt none++iA cap env) ds s) λxs s=>xs.length<=sizeLine/\Q (.lst xs) s:=by
 unfold u0;simp only[bG,wp_ne,qq,wp_ok]
noncomputable def step (rs:List (List Int)) (told:List (List Int)):List (List Int):=told.flatMap λlaid=>([0,1].filter λm=>O2 rs laid m).map λm=>laid++[m]
theorem R9 {a b:List Int} {s:aa} (h:a.length+b.length<=1000000):aS (mD a) (mD b) s=ok (mD (a++b)) s:=by
 have e:jU (mD a) (mD b)=some (mD (a++b)):=by
  show (if fK (a.map D.int) (b.map D.int)=true then some (D.tup (a.map D.int++b.map D.int)) else none)=_
  have hf:fK (a.map D.int) (b.map D.int)=true:=by
   unfold fK
   rw[List.length_map,List.length_map]
   exact decide_eq_true (le_size h)
  rw[if_pos hf]
  show some (D.tup (a.map D.int++b.map D.int))=some (D.tup ((a++b).map D.int))
  rw[List.map_append]
 show bE (jU (mD a) (mD b)) s=_
 rw[e]
 rfl
end DI
namespace DI
open PySem L2
noncomputable def brk (l:List Int):List Int:=((List.range (l.length-1)).filter λi=>l.getD (i+1) 0==l.getD i 0).map λi:Nat=>1+(i:Int)
end DI
namespace DI
section
variable {α:Type} (r:α->α->Bool)
def gB (l:List α):Prop:=l.Pairwise λa b=>r a b=false
structure gu (hs:List α) (m:Nat):Prop where
 ex:∃l,l.Sublist hs/\gB r l/\l.length=m
 le:∀l,l.Sublist hs->gB r l->l.length<=m
variable {r}
theorem gu.eq {hs:List α} {m m':Nat} (h:gu r hs m) (g:gu r hs m'):m=m':=by
 obtain⟨l,h1,h2,h3⟩:=h.ex
 obtain⟨l',g1,g2,g3⟩:=g.ex
 have:=h.le l' g1 g2
 have:=g.le l h1 h2
 omega
theorem gB.perm (hr:∀a b,r a b=r b a) {l m:List α} (h:l.Perm m) (a:gB r l):gB r m:=h.pairwise a λ{x y} z=>(hr y x).trans z
theorem gu.perm (hr:∀a b,r a b=r b a) {hs gs:List α} {m:Nat} (p:hs.Perm gs) (h:gu r hs m):gu r gs m:=by
 obtain⟨l,h1,h2,h3⟩:=h.ex
 obtain⟨l',p',s'⟩:=List.exists_perm_sublist h1 p
 refine⟨⟨l',s',h2.perm hr p'.symm,by rw[p'.length_eq];exact h3⟩,λk k1 k2=>?_⟩
 obtain⟨k',q',t'⟩:=List.exists_perm_sublist k1 p.symm
 rw[<- q'.length_eq]
 exact h.le k' t' (k2.perm hr q'.symm)
theorem gu.map {β:Type} {r':β->β->Bool} {f:α->β} {hs:List α} {m:Nat} (hf:∀a∈hs,∀b∈hs,r' (f a) (f b)=r a b) (h:gu r hs m):gu r' (hs.map f) m:=by
 have key:∀l:List α,l.Sublist hs->(gB r' (l.map f)↔gB r l):=λl hl=>by
  unfold gB
  rw[List.pairwise_map]
  have e:∀a∈l,∀b∈l,r' (f a) (f b)=r a b:=λa ha b hb=>hf a (hl.subset ha) b (hl.subset hb)
  constructor
  ·exact λz=>z.imp_of_mem λ{a b} ha hb q=>by rw[<- e a ha b hb];exact q
  ·exact λz=>z.imp_of_mem λ{a b} ha hb q=>by rw[e a ha b hb];exact q
 obtain⟨l,h1,h2,h3⟩:=h.ex
 refine⟨⟨l.map f,h1.map f,(key l h1).mpr h2,by rw[List.length_map];exact h3⟩,λk k1 k2=>?_⟩
 obtain⟨k',t',rfl⟩:=List.sublist_map_iff.mp k1
 rw[List.length_map]
 exact h.le k' t' ((key k' t').mp k2)
theorem LP {x:α} {l t:List α} (h:l.Sublist (x::t)):l.Sublist t\/∃l',l=x::l'/\l'.Sublist t:=by
 cases h with
 |cons _ h=>exact .inl h
 |cons_cons _ h=>exact .inr ⟨_,rfl,h⟩
theorem JA {hs:List α} {i:Nat} {x:α} (h:hs[i]?=some x):hs.Perm (x::hs.eraseIdx i):=by
 induction hs generalizing i with
 |nil=>simp at h
 |cons a t ih =>
  cases i with
  |zero=>cases h;exact .refl _
  |succ i =>
   rw[List.eraseIdx_cons_succ]
   exact((ih (by simpa using h)).cons a).trans (List.Perm.swap x a _)
theorem gu.erase (hr:∀a b,r a b=r b a) {hs:List α} {i m m':Nat} {x:α} (hi:hs[i]?=some x) (h:gu r hs m) (g:gu r (hs.eraseIdx i) m'):m'<=m/\m<=m' + 1:=by
 obtain⟨l',g1,g2,g3⟩:=g.ex
 refine⟨by rw[<- g3];exact h.le l' (g1.trans (List.eraseIdx_sublist _ _)) g2,?_⟩
 obtain⟨l,h1,h2,h3⟩:=(h.perm hr (JA hi)).ex
 rcases LP h1 with e | ⟨k,rfl,e⟩
 ·have:=g.le l e h2;omega
 ·have:=g.le k e (List.pairwise_cons.mp h2).2
  rw[List.length_cons] at h3
  omega
theorem gu.two {hs:List α} {m:Nat} {ms:List Int} (h:gu r hs m) (hl:ms.length=hs.length) (Ur:∀i∈ms,i=0\/i=1) (hp:(hs.zip ms).Pairwise λa b=>a.2=b.2->r a.1 b.1=true):m<=2:=by
 obtain⟨l,h1,h2,rfl⟩:=h.ex
 have e:hs=(hs.zip ms).map Prod.fst:=by rw[List.map_fst_zip (by omega)]
 rw[e] at h1
 obtain⟨k,k1,rfl⟩:=List.sublist_map_iff.mp h1
 have q:=hp.sublist k1
 unfold gB at h2
 rw[List.pairwise_map] at h2
 have sorts:∀p∈k,p.2=0\/p.2=1:=λp hp=>by
  have:=k1.subset hp
  exact Ur p.2 (List.of_mem_zip (show (p.1,p.2)∈hs.zip ms from this)).2
 have d:k.Pairwise λa b=>a.2≠b.2:=(q.and h2).imp λ{a b} z e=>by
  have:=z.1 e
  rw[z.2] at this
  cases this
 rw[List.length_map]
 match k,d,sorts with
 | [],_,_=>simp
 | [_],_,_=>simp
 | [_,_],_,_=>simp
 |a::b::c::_,d,s =>
  exfalso
  obtain⟨d1,d2⟩:=List.pairwise_cons.mp d
  have e1:=d1 b (by simp)
  have e2:=d1 c (by simp)
  have e3:=(List.pairwise_cons.mp d2).1 c (by simp)
  have s1:=s a (by simp)
  have s2:=s b (by simp)
  have s3:=s c (by simp)
  omega
end
end DI
namespace DI
open PySem L2
theorem FL {ns:List Int} {s:aa}:cg (.lst (ns.map D.int)) (.lst []) s=ok (.bl ns.isEmpty) s:=by
 have l1:lay (.lst (ns.map D.int))=true:=by simp only[lay,mJ]
 have e:cQ (.lst (ns.map D.int)) (.lst [])=some ns.isEmpty:=by
  unfold cQ
  rw[if_neg (show ¬ (fy (.lst _)&&fy (.lst _))=true from Bool.false_ne_true),if_pos (by rw[l1,show lay (.lst [])=true from rfl,decide_eq_true (Nat.le_trans (Nat.min_le_right (dep (.lst (ns.map D.int))) (dep (.lst []))) (by decide))];rfl)]
  cases ns with
  |nil=>rfl
  |cons _ _=>rfl
 show (match cQ (.lst (ns.map D.int)) (.lst []) with|some b=>ok (D.bl b) s|none=>none)=_
 rw[e]
theorem Nd {c:aa} {ds:List D} {x:D} (h:ds.length<=1000000):hU (.ar c.length) x (c++[.lst ds])=ok .ay (c++[.lst (ds++[x])]):=by
 unfold hU
 have e:(c++[Cell.lst ds])[c.length]?=some (.lst ds):=by simp
 have hl:ds.length<sizeLine:=Nat.lt_of_le_of_lt h (by decide)
 simp only[e,decide_eq_true hl,if_true]
 rw[List.set_append_right _ _ (Nat.le_refl _)]
 simp
theorem Sa {xs ys:List D} {s:aa} (h:xs.length+ys.length<=1000000):aS (.lst xs) (.lst ys) s=ok (.lst (xs++ys)) s:=by
 have e:jU (.lst xs) (.lst ys)=some (.lst (xs++ys)):=by
  show (if fK xs ys=true then some (D.lst (xs++ys)) else none)=_
  have hf:fK xs ys=true:=decide_eq_true (le_size h)
  rw[if_pos hf]
 show bE (jU (.lst xs) (.lst ys)) s=_
 rw[e]
 rfl
end DI
namespace DI
open PySem L2
end DI
namespace DI
open PySem L2
theorem Ex.get {k j:Nat} {s s':aa} {c:Cell} (h:Ex k s s') (e:s[j]?=some c) (hj:j≠k):s'[j]?=some c:=by
 rw[h.val j (List.getElem?_eq_some_iff.mp e).1 hj]
 exact e
theorem Ex.hi {k j:Nat} {s s':aa} (h:Ex k s s') (hj:s.length<=j) (c:Cell):Ex k s (s'.set j c):=⟨by rw[List.length_set];exact h.len,λi hi hk=>by rw[List.getElem?_set_ne (by omega)];exact h.val i hi hk⟩
theorem Km {a b:List Int} (ha:cJ 8 a) (hb:cJ 8 b):cJ 8 (jc (a++b)):=⟨λx hx=>by
 rw[xn] at hx
 rcases List.mem_append.mp hx with h|h
 ·exact ha.lo x h
 ·exact hb.lo x h,xa _⟩
structure RI (s0:aa) (k rh mh:Nat) (rs:List (List Int)) (s:aa):Prop where
 st:jZ s k
 ex:Ex k s0 s
 run:s[rh]?=some (.lst (rs.map mD))
 mo:∃a b,s[mh]?=some (.lst [mD a,mD b])/\cJ 8 a/\cJ 8 b
 fC:∀r∈rs,cJ 8 r
 k1:k<s0.length
 r1:s0.length<=rh
 m1:s0.length<=mh
 ne:rh≠mh
theorem RI.draw {s0 s s':aa} {k rh mh:Nat} {rs:List (List Int)} (h:RI s0 k rh mh rs s) (g:jZ s' k) (x:Ex k s s'):RI s0 k rh mh rs s':=by
 have:=h.k1
 have:=h.r1
 have:=h.m1
 obtain⟨a,b,e,ha,hb⟩:=h.mo
 exact⟨g,h.ex.trans x,x.get h.run (by omega),⟨a,b,x.get e (by omega),ha,hb⟩,h.fC,h.k1,h.r1,h.m1,h.ne⟩
theorem RI.push {s0 s:aa} {k rh mh:Nat} {rs:List (List Int)} {r:List Int} (h:RI s0 k rh mh rs s) (hr:cJ 8 r):RI s0 k rh mh (rs++[r]) (s.set rh (.lst (rs.map mD++[mD r]))):=by
 have:=h.k1
 have:=h.r1
 have:=h.m1
 have:=h.ne
 obtain⟨a,b,e,ha,hb⟩:=h.mo
 refine⟨h.st.set (by omega) _,h.ex.hi (by omega) _,?_,⟨a,b,by rw[List.getElem?_set_ne (by omega)];exact e,ha,hb⟩,λx hx=>?_,h.k1,h.r1,h.m1,h.ne⟩
 ·rw[List.getElem?_set_self (List.getElem?_eq_some_iff.mp h.run).1,List.map_append]
  rfl
 ·rcases List.mem_append.mp hx with hx|hx
  ·exact h.fC x hx
  ·rw[List.mem_singleton.mp hx];exact hr
theorem RI.put {s0 s:aa} {k rh mh:Nat} {rs:List (List Int)} {at_:Int} (h:RI s0 k rh mh rs s) (h0:at_=0\/at_=1):(∃a,aD (.ar mh) (.int at_) s=ok (mD a) s/\cJ 8 a)/\∀c,cJ 8 c->∃s',jm (.ar mh) (.int at_) (mD c) s=some s'/\RI s0 k rh mh rs s':=by
 have:=h.k1
 have:=h.r1
 have:=h.m1
 have:=h.ne
 obtain⟨a,b,e,ha,hb⟩:=h.mo
 have key:∀a b,cJ 8 a->cJ 8 b->RI s0 k rh mh rs (s.set mh (.lst [mD a,mD b])):=λa b ha hb=>⟨h.st.set (by omega) _,h.ex.hi (by omega) _,by rw[List.getElem?_set_ne (by omega)];exact h.run,⟨a,b,List.getElem?_set_self (List.getElem?_eq_some_iff.mp e).1,ha,hb⟩,h.fC,h.k1,h.r1,h.m1,h.ne⟩
 rcases h0 with rfl|rfl
 ·exact⟨⟨a,wX _ _ _ _ e,ha⟩,λc hc=>⟨_,zZ _ _ _ _ _ e,key _ _ hc hb⟩⟩
 ·exact⟨⟨b,Bb _ _ _ _ e,hb⟩,λc hc=>⟨_,R7 _ _ _ _ _ e,key _ _ ha hc⟩⟩
theorem cJ.Us {n:Nat} {l:List Int} (h:cJ n l) (hn:n<=8):cJ 8 l:=⟨λx hx=>by have:=h.lo x hx;omega,h.up⟩
end DI
namespace DI
open PySem L2
noncomputable def dF (a b:List Int):Bool:=sub b a||sub a b
theorem DA (a b:List Int):dF a b=dF b a:=Bool.or_comm _ _
noncomputable def ix (rs:List (List Int)) (ps:List Nat) (k:Nat):Bool:=!(ps.any λj=>dF (rs.getD k []) (rs.getD j []))
noncomputable def cy (rs:List (List Int)):Nat->List (List Nat)
 |0=>[[]]
 |k+1=>cy rs k++((cy rs k).filter λps=>ix rs ps k).map λps=>ps++[k]
theorem LQ (rs:List (List Int)) (k:Nat):(cy rs k).length<=2 ^ k:=by
 induction k with
 |zero=>exact Nat.le_refl 1
 |succ k ih =>
  have:=List.length_filter_le (λps=>ix rs ps k) (cy rs k)
  rw[cy,List.length_append,List.length_map,Nat.pow_succ]
  omega
theorem ux {rs:List (List Int)} (k:Nat):∀ps∈cy rs k,ps.length<=k/\∀p∈ps,p<k:=by
 induction k with
 |zero=>intro ps h;rw[List.mem_singleton.mp h];exact⟨Nat.le_refl _,λp hp=>absurd hp (List.not_mem_nil)⟩
 |succ k ih =>
  intro ps h
  rcases List.mem_append.mp h with h|h
  ·exact⟨Nat.le_succ_of_le (ih ps h).1,λp hp=>Nat.lt_succ_of_lt ((ih ps h).2 p hp)⟩
  ·obtain⟨qs,hq,rfl⟩:=List.mem_map.mp h
   have:=ih qs (List.mem_filter.mp hq).1
   refine⟨by rw[List.length_append];exact Nat.succ_le_succ this.1,λp hp=>?_⟩
   rcases List.mem_append.mp hp with hp|hp
   ·exact Nat.lt_succ_of_lt (this.2 p hp)
   ·rw[List.mem_singleton.mp hp];exact Nat.lt_succ_self _
noncomputable abbrev its (rs:List (List Int)) (ps:List Nat):List (List Int):=ps.map λp=>rs.getD p []
theorem Ko {rs:List (List Int)} {k:Nat} (h:k<rs.length):rs.take (k+1)=rs.take k++[rs.getD k []]:=by
 rw[List.take_succ,getD_some (d:=[]) h]
 rfl
theorem IK {rs:List (List Int)} {ps:List Nat} {k:Nat}:ix rs ps k=true↔∀a∈its rs ps,dF a (rs.getD k [])=false:=by
 unfold ix its
 simp only[Bool.not_eq_true',List.any_eq_false,List.mem_map,forall_exists_index,and_imp,forall_apply_eq_imp_iff₂]
 constructor
 ·intro h a ha;rw[DA];exact Bool.eq_false_iff.mpr (h a ha)
 ·intro h a ha;rw[DA];exact Bool.eq_false_iff.mp (h a ha)
theorem Kq {l:List (List Int)} {x:List Int}:gB dF (l++[x])↔gB dF l/\∀a∈l,dF a x=false:=by
 unfold gB
 rw[List.pairwise_append]
 simp
theorem LR {rs:List (List Int)} (k:Nat) (hk:k<=rs.length):∀ps∈cy rs k,(its rs ps).Sublist (rs.take k)/\gB dF (its rs ps):=by
 induction k with
 |zero=>intro ps h;rw[List.mem_singleton.mp h];exact⟨.slnil,.nil⟩
 |succ k ih =>
  intro ps h
  rw[Ko hk]
  rcases List.mem_append.mp h with h|h
  ·obtain⟨h1,h2⟩:=ih (by omega) ps h
   exact⟨h1.trans (List.sublist_append_left _ _),h2⟩
  ·obtain⟨qs,hq,rfl⟩:=List.mem_map.mp h
   obtain⟨hq,hs⟩:=List.mem_filter.mp hq
   obtain⟨h1,h2⟩:=ih (by omega) qs hq
   have e:its rs (qs++[k])=its rs qs++[rs.getD k []]:=List.map_append
   rw[e]
   exact⟨h1.append (.refl _),Kq.mpr ⟨h2,IK.mp hs⟩⟩
noncomputable def foldM:List Nat->List (List Nat)->List Nat
 |b,[]=>b
 |b,y::ys=>if b.length<y.length then foldM y ys else foldM b ys
theorem LS (ys:List (List Nat)):∀b,(foldM b ys∈b::ys)/\∀z∈b::ys,z.length<=(foldM b ys).length:=by
 induction ys with
 |nil=>intro b;exact⟨List.mem_singleton.mpr rfl,λz hz=>by rw[List.mem_singleton.mp hz];exact Nat.le_refl _⟩
 |cons y ys ih =>
  intro b
  unfold foldM
  split<;>rename_i h
  ·obtain⟨h1,h2⟩:=ih y
   refine⟨List.mem_cons_of_mem _ h1,λz hz=>?_⟩
   rcases List.mem_cons.mp hz with rfl|hz
   ·have:=h2 y List.mem_cons_self;omega
   ·exact h2 z hz
  ·obtain⟨h1,h2⟩:=ih b
   refine⟨?_,λz hz=>?_⟩
   ·rcases List.mem_cons.mp h1 with e|e
    ·rw[e];exact List.mem_cons_self
    ·exact List.mem_cons_of_mem _ (List.mem_cons_of_mem _ e)
   ·rcases List.mem_cons.mp hz with rfl|hz
    ·exact h2 z List.mem_cons_self
    ·rcases List.mem_cons.mp hz with rfl|hz
     ·have:=h2 b List.mem_cons_self;omega
     ·exact h2 z (List.mem_cons_of_mem _ hz)
noncomputable def longest:List (List Nat)->List Nat
 | []=>[]
 |x::xs=>foldM x xs
noncomputable def mx (rs:List (List Int)):Nat:=(longest (cy rs rs.length)).length
theorem Ei (rs:List (List Int)) (k:Nat):∃x xs,cy rs k=x::xs:=by
 induction k with
 |zero=>exact⟨[],[],rfl⟩
 |succ k ih =>
  obtain⟨x,xs,e⟩:=ih
  rw[cy,e]
  exact⟨x,_,rfl⟩
noncomputable abbrev pD (ps:List Nat):D:=.tup (ps.map λp:Nat=>D.int p)
structure GH (rs:List (List Int)):Prop where
 hi:rs.length<=9
 fC:∀r∈rs,cJ 8 r
theorem GH.run {rs:List (List Int)} (h:GH rs) (h1:1<=rs.length):Gq rs:=⟨h1,by have:=h.hi;omega,h.fC⟩
theorem GH.at {rs:List (List Int)} (h:GH rs) (i:Nat):(rs.getD i []).length<=1000000:=by
 by_cases hi:i<rs.length
 ·have:=(h.fC _ (List.mem_of_getElem? (getD_some (d:=[]) hi))).len
  omega
 ·rw[List.getD_eq_getElem?_getD,List.getElem?_eq_none (by omega)]
  exact Nat.zero_le _
theorem Nf {α:Type} (p:α->Bool) (xs:List α) (s:aa):vN [.lst (xs.map λx=>D.bl (p x))] s=ok (.bl (xs.any p)) s:=by
 have e:gE (xs.map λx=>D.bl (p x))=some (xs.map p):=by
  have:=D7 (bs:=xs.map p)
  rw[List.map_map] at this
  exact this
 show bE ((gE (xs.map λx=>D.bl (p x))).map λ(bs:List Bool)=>D.bl (bs.any id)) s=_
 rw[e]
 show ok (D.bl ((xs.map p).any id)) s=_
 rw[List.any_map]
 rfl
theorem GH.get {rs:List (List Int)} (h:GH rs) {i:Nat} (hi:i<rs.length) {s:aa}:aD (rD rs) (.int i) s=ok (mD (rs.getD i [])) s:=jA hi
theorem CK {rs:List (List Int)} {ps:List Nat} {k:Nat} {s:aa} (h:GH rs) (hk:k<rs.length) (hp:∀p∈ps,p<k) (hl:ps.length<=9):aI.qd [rD rs,pD ps,.int k] s=ok (.bl (ix rs ps k)) s:=by
 refine Wp.eq ?_
 unfold aI.qd
 simp only[VC,jA hk]
 refine Wp.of (ik rfl) ⟨le_size (by rw[List.length_map];omega),?_⟩
 refine Wp.of (comp_map (λp:Nat=>D.int p) (λ_=>true) (λp=>.bl (dF (rs.getD k []) (rs.getD p []))) ps λp sx=>⟨[some (.int p),some (mD (rs.getD k [])),some (rD rs)],rfl,rfl,λ_=>?_⟩) ?_
 ·have:=hp p sx
  refine Wp.eq ?_
  simp only[VC,jA (show p<rs.length by omega),uh (h.at p),uh (h.at k)]
  unfold dF
  cases sub (rs.getD p []) (rs.getD k [])<;>simp
 ·rw[filter_tt]
  refine Wp.of (Nf _ _ _) ?_
  simp only[VC,and_true]
  rfl
theorem Sb {a b:List Nat} {s:aa} (h:a.length+b.length<=1000000):aS (pD a) (pD b) s=ok (pD (a++b)) s:=by
 have e:jU (pD a) (pD b)=some (pD (a++b)):=by
  show (if fK (a.map λp:Nat=>D.int p) (b.map λp:Nat=>D.int p)=true then some (D.tup ((a.map λp:Nat=>D.int p)++(b.map λp:Nat=>D.int p))) else none)=_
  have hf:fK (a.map λp:Nat=>D.int p) (b.map λp:Nat=>D.int p)=true:=by
   unfold fK
   rw[List.length_map,List.length_map]
   exact decide_eq_true (le_size h)
  rw[if_pos hf]
  show some (D.tup ((a.map λp:Nat=>D.int p)++(b.map λp:Nat=>D.int p)))=some (D.tup ((a++b).map λp:Nat=>D.int p))
  rw[List.map_append]
 show bE (jU (pD a) (pD b)) s=_
 rw[e]
 rfl
theorem vW {ps:List Nat} {s:aa}:bb [pD ps] s=ok (.int ps.length) s:=by
 show ok (D.int (ps.map λp:Nat=>D.int p).length) s=_
 rw[List.length_map]
theorem O3 {s:aa} (ys:List (List Nat)):∀b,nk (λd s=>bb [d] s) jV (pD b) (.int b.length) (ys.map pD) s=ok (pD (foldM b ys)) s:=by
 induction ys with
 |nil=>intro b;rfl
 |cons y ys ih =>
  intro b
  rw[List.map_cons]
  unfold nk
  simp only[vW,kI,eG,Hi,foldM]
  by_cases h:b.length<y.length
  ·rw[decide_eq_true (show (b.length:Int)<y.length by omega),if_pos h]
   exact ih y
  ·rw[decide_eq_false (show ¬ (b.length:Int)<y.length by omega),if_neg h]
   exact ih b
theorem Sd {k:Nat} (h:k<=9):2 ^ k<=512:=by
 calc 2 ^ k<=2 ^ 9:=Nat.pow_le_pow_right (by decide) h
  _=512:=by decide
theorem Ng {rs:List (List Int)} {s:aa} (h:GH rs):aI.tw [rD rs] s=ok (pD (longest (cy rs rs.length))) s:=by
 have hi:=h.hi
 refine Wp.eq ?_
 unfold aI.tw
 simp only[VC]
 refine⟨by decide,by decide,?_⟩
 refine Wp.of (iX (s1:=s) (n:=rs.length) (Wp.eq (by simp only[VC,iI,and_self])) (by omega)) ?_
 refine Wp.jo (λi env s'=>s'=s/\∃x,env=[some (rD rs),some (.lst ((cy rs i).map pD)),x]) _ ⟨rfl,_,rfl⟩ (λi d env s' hd hI=>?_) (λenv s' hI=>?_)
 ·obtain⟨rfl,x,rfl⟩:=hI
  rw[kz] at hd
  split at hd
  ·rename_i ki
   cases hd
   refine⟨_,rfl,?_⟩
   have l1:=LQ rs i
   have l2:=Sd (show i<=9 by omega)
   simp only[VC,Int.zero_add]
   refine Wp.of (Dy rfl) ⟨le_size (by rw[List.length_map];omega),?_⟩
   refine Wp.of (comp_map pD (λps=>ix rs ps i) (λps=>pD (ps++[i])) (cy rs i) λps hp=>⟨[some (pD ps),some (.int i),some (rD rs)],rfl,?_,λ_=>?_⟩) ?_
   ·obtain⟨p1,p2⟩:=ux i ps hp
    refine Wp.eq ?_
    simp only[VC,CK h ki p2 (show ps.length<=9 by omega),and_self]
   ·obtain⟨p1,p2⟩:=ux i ps hp
    refine Wp.eq ?_
    simp only[VC]
    refine⟨by decide,?_⟩
    exact Wp.of (show aS (pD ps) (.tup [.int i]) _=_ from Sb (b:=[i]) (by simp;omega)) ⟨rfl,rfl⟩
   ·have e:((cy rs i).map pD)++(((cy rs i).filter λps=>ix rs ps i).map λps=>pD (ps++[i]))=(cy rs (i+1)).map pD:=by
     rw[cy,List.map_append,List.map_map]
     rfl
    have l3:=List.length_filter_le (λps=>ix rs ps i) (cy rs i)
    refine Wp.of (Sa (by simp only[List.length_map];omega)) ?_
    rw[e]
    exact⟨rfl,_,rfl⟩
  ·cases hd
 ·obtain⟨rfl,x,rfl⟩:=hI
  rw[iV]
  simp only[VC]
  obtain⟨y,ys,e⟩:=Ei rs rs.length
  rw[e,List.map_cons]
  show Wp (ak (ne (bb [pD y] s')) λk s=>nk (λd s=>bb [d] s) jV (pD y) k (ys.map pD) s) _
  rw[vW,kI,eG]
  exact Wp.of (O3 ys y) ⟨rfl,rfl⟩
theorem oy {rs:List (List Int)} {s:aa} (h:GH rs) (h1:1<=rs.length):aI.mG [rD rs] s=ok .ay s:=by
 have h2:=h.hi
 have QH:tu [rD rs,.int 9] s=ok (.bl true) s:=by
  refine Wp.eq ?_
  unfold tu
  simp only[VC]
  refine Wp.of (show bh [rD rs,.ty "tuple"] s=ok (.bl true) s from rfl) ?_
  simp only[VC,if_true]
  refine Wp.of (show bb [rD rs] s=ok (.int (rs.map mD).length) s from rfl) ?_
  rw[List.length_map]
  simp only[VC]
  rw[decide_eq_true (show (1:Int)<=rs.length by omega),decide_eq_true (show (rs.length:Int)<=9 by omega)]
  simp only[VC,if_true]
  refine Wp.of (ik rfl) ⟨le_size (by rw[List.length_map];omega),?_⟩
  refine Wp.of (comp_map mD (λ_=>true) (λ_=>.bl true) rs λr hr=>⟨[some (mD r)],rfl,rfl,λ_=>?_⟩) ?_
  ·refine Wp.eq ?_
   simp only[VC,Jz (h.fC r hr),true_and]
  ·rw[filter_tt]
   exact Wp.of (lC (λ_=>true) _ _) ⟨by simp,rfl⟩
 refine Wp.eq ?_
 unfold aI.mG
 simp only[VC,QH,Bool.not_true,Bool.false_eq_true,if_false,true_and]
theorem DB {xs:List D} {k:Nat} (h:k<=xs.length):cutD xs none (some k)=xs.take k:=by
 unfold cutD
 rw[HT.uH]
 show (xs.drop 0).take (min k xs.length-0)=_
 rw[Nat.min_eq_left h]
 rfl
theorem DC {xs:List D} {k:Nat}:cutD xs (some k) none=xs.drop k:=by
 unfold cutD
 rw[HT.uH]
 show (xs.drop (min k xs.length)).take (xs.length-min k xs.length)=_
 by_cases h:k<=xs.length
 ·rw[Nat.min_eq_left h]
  apply List.take_of_length_le
  simp
 ·rw[Nat.min_eq_right (by omega),List.drop_of_length_le (Nat.le_refl _),List.drop_of_length_le (by omega)]
  simp
theorem qv {env:Env} {f g:Env->aa->Res D} {xs:List D} {k:Nat} {s:aa} (hf:f env s=ok (.tup xs) s) (hg:g env s=ok (.int k) s) (h:k<=xs.length):bQ f bT (bI g) env s=ok (.tup (xs.take k)) s:=by
 refine Wp.eq ?_
 rw[wp_sl,hf,wp_ok,wp_pNo,jH hg]
 refine Wp.of (show jM (.tup xs) none (some k) s=ok (.tup (cutD xs none (some k))) s from rfl) ⟨?_,rfl⟩
 rw[DB h]
theorem uQ {env:Env} {f g:Env->aa->Res D} {xs:List D} {k:Nat} {s:aa} (hf:f env s=ok (.tup xs) s) (hg:g env s=ok (.int k) s):bQ f (bI g) bT env s=ok (.tup (xs.drop k)) s:=by
 refine Wp.eq ?_
 rw[wp_sl,hf,wp_ok,jH hg,wp_pNo]
 refine Wp.of (show jM (.tup xs) (some k) none s=ok (.tup (cutD xs (some k) none)) s from rfl) ⟨?_,rfl⟩
 rw[DC]
theorem GH.less {rs:List (List Int)} (h:GH rs) (p:Nat):GH (rs.eraseIdx p):=⟨Nat.le_trans (List.length_eraseIdx_le _ _) h.hi,λr hr=>h.fC r ((List.eraseIdx_sublist rs p).subset hr)⟩
end DI
namespace DI
open PySem L2
def Sf (s:aa) (k:Nat):Prop:=∃(a:Int) (b:Bool),s[k]?=some (.lst [.int a,.bl b])/\0<=a/\(b=false->a<2147483647)
theorem Sf.lt {s:aa} {k:Nat} (h:Sf s k):k<s.length:=by
 obtain⟨a,b,e,_⟩:=h
 exact(List.getElem?_eq_some_iff.mp e).1
theorem Sf.app {s:aa} {k:Nat} (h:Sf s k) (c:List Cell):Sf (s++c) k:=by
 obtain⟨a,b,e,r⟩:=h
 exact⟨a,b,by rw[List.getElem?_append_left (List.getElem?_eq_some_iff.mp e).1];exact e,r⟩
theorem Sf.set {s:aa} {k j:Nat} (h:Sf s k) (hj:j≠k) (c:Cell):Sf (s.set j c) k:=by
 obtain⟨a,b,e,r⟩:=h
 exact⟨a,b,by rw[List.getElem?_set_ne hj];exact e,r⟩
theorem gL {s:aa} {k:Nat} {m:Int} (h:Sf s k) (h1:0<m) (h2:m<1073741824):Wp (aI.dA [.ar k,.int m] s) λd s'=>∃r:Int,d=.int r/\0<=r/\r<m/\Sf s' k/\Ex k s s':=by
 obtain⟨a,b,e,ha,hb⟩:=h
 have hk:=(List.getElem?_eq_some_iff.mp e).1
 cases b with
 |true =>
  have es:(s.set k (.lst [.int (a / m),.bl true]))[k]?=some (.lst [.int (a / m),.bl true]):=List.getElem?_set_self hk
  refine⟨.int (a % m),s.set k (.lst [.int (a / m),.bl true]),?_,a % m,rfl,Int.emod_nonneg _ (by omega),Int.emod_lt_of_pos _ h1,⟨a / m,true,es,Int.ediv_nonneg ha (by omega),λz=>by cases z⟩,Ex.set _ _ _⟩
  simp only[aI.dA,bw,ax,bt,bH,truth,e2,u5,u6,eC,eG,List.map_cons,List.map_nil,List.cons_append,List.nil_append,wX _ _ k s e,Bb _ _ k s e,List.length_cons,List.length_nil,if_true,bq,gN,nu s h1,kQ,Gp s h1 h2,zZ _ _ _ k s e,aG,List.set_cons_succ,List.set_cons_zero,List.replicate]
 |false =>
  have hb:=hb rfl
  have ex:0<=(a*48271+29) % 2147483647/\(a*48271+29) % 2147483647<2147483647:=⟨Int.emod_nonneg _ (by decide),Int.emod_lt_of_pos _ (by decide)⟩
  generalize hx:(a*48271+29) % 2147483647=x at ex
  have es:(s.set k (.lst [.int x,.bl false]))[k]?=some (.lst [.int x,.bl false]):=List.getElem?_set_self hk
  generalize hy:(x*x+39373*x+7) % 2147483629=y
  have ey:0<=y/\y<2147483629:=by rw[<- hy];exact⟨Int.emod_nonneg _ (by decide),Int.emod_lt_of_pos _ (by decide)⟩
  generalize hz:(y*y+16807*y) % 2147483587=z
  refine⟨.int (z / 8 % m),s.set k (.lst [.int x,.bl false]),?_,_,rfl,Int.emod_nonneg _ (by omega),Int.emod_lt_of_pos _ h1,⟨x,false,es,ex.1,λ_=>ex.2⟩,Ex.set _ _ _⟩
  have m1:dY (.int a) (.int 48271) s=ok (.int (a*48271)) s:=rN s (mulOk_of (by omega) (by omega))
  have m2:∀s',dY (.int x) (.int x) s'=ok (.int (x*x)) s':=λs'=>rN s' (mulOk_of (by omega) (by omega))
  have m3:∀s',dY (.int 39373) (.int x) s'=ok (.int (39373*x)) s':=λs'=>rN s' (mulOk_of (by decide) (by decide))
  have m4:∀s',dY (.int y) (.int y) s'=ok (.int (y*y)) s':=λs'=>rN s' (mulOk_of (by omega) (by omega))
  have m5:∀s',dY (.int 16807) (.int y) s'=ok (.int (16807*y)) s':=λs'=>rN s' (mulOk_of (by decide) (by decide))
  have i0:∀n:Int,aD (.ar k) (.int 0) (s.set k (.lst [.int x,.bl false]))=ok (.int x) (s.set k (.lst [.int x,.bl false])):=λ_=>wX _ _ k _ es
  simp only[aI.dA,bw,ax,bt,bH,truth,e2,u5,u6,eC,eG,List.map_cons,List.map_nil,List.cons_append,List.nil_append,wX _ _ k s e,Bb _ _ k s e,List.length_cons,List.length_nil,Bool.false_eq_true,if_false,if_true,bA,bq,gN,kQ,zZ _ _ _ k s e,aG,List.set_cons_succ,List.set_cons_zero,List.replicate,m1,m2,m3,m4,m5,Gn,nu _ (show (0:Int)<2147483647 by decide),nu _ (show (0:Int)<2147483629 by decide),nu _ (show (0:Int)<2147483587 by decide),Gp _ (show (0:Int)<8 by decide) (by decide),nu _ h1,hx,hy,hz,i0 0]
theorem Nh {ns:List Int} {i:Int} {s:aa} (h0:0<=i):Wp (aI.qo [.bS ns,.int i] s) λd s'=>d=.ar s.length/\Sf s' s.length/\∃c,s'=s++[c]:=by
 obtain⟨c,hc⟩:=M8 (ns:=ns) (s:=s) h0
 have hp:∀s,kJ (.int 10) (.int 18) s=ok (.int (10 ^ 18)) s:=λs=>by
  have e:vK (.int 10) (.int 18)=some (.int (10 ^ 18)):=by
   show (if (decide ((0:Int)<=18)&&decide ((18:Int)<=1000000)&&decide ((10:Int).natAbs<2 ^ 64))=true then some (D.int (10 ^ (18:Int).toNat)) else none)=_
   rw[if_pos (by decide)]
   rfl
  simp only[kJ,e,bE]
 unfold aI.qo
 simp only[VC,hc,hp]
 by_cases h:(10:Int) ^ 18<=c
 ·rw[decide_eq_true h]
  simp only[VC,hp,if_true]
  exact⟨by decide,⟨_,true,by simp;rfl,by omega,λz=>by cases z⟩,_,rfl⟩
 ·rw[decide_eq_false h]
  simp only[VC,Bool.false_eq_true,if_false,nu _ (show (0:Int)<2147483647 by decide)]
  exact⟨by decide,⟨_,false,by simp;rfl,Int.emod_nonneg _ (by decide),λ_=>Int.emod_lt_of_pos _ (by decide)⟩,_,rfl⟩
theorem Ni {s:aa} {k n:Nat} (h:Sf s k) (hn:n<=8):Wp (aI.qp [.ar k,.int n] s) λd s'=>∃ns,d=mD ns/\cJ n ns/\Sf s' k/\Ex k s s':=by
 unfold aI.qp
 simp only[VC]
 refine Wp.of (iX rfl (by omega)) ⟨by rw[iV];exact le_size (by omega),?_⟩
 refine Wp.mono (Q:=λxs s'=>∃ns,xs=ns.map D.int/\cJ n ns/\Sf s' k/\Ex k s s') ?_ λxs s2 hx=>?_
 ·refine Eg (λi acc s'=>∃ns:List Int,acc=ns.map D.int/\cJ i ns/\Sf s' k/\Ex k s s') (bF 0 n) ⟨[],rfl,⟨by simp,.nil⟩,h,Ex.refl _ _⟩ (λi d acc s' hd hI=>?_) λacc s' hI=>?_
  ·obtain⟨ns,rfl,hm,h2,x2⟩:=hI
   rw[kz] at hd
   split at hd
   ·cases hd
    refine⟨[some (.int (0+i)),some (.ar k)],rfl,?_⟩
    simp only[VC]
    refine(gL h2 (by decide) (by decide)).mono λd s3 hd=>?_
    obtain⟨r,rfl,r0,r1,h3,x3⟩:=hd
    simp only[VC]
    split
    ·refine⟨ns++[0+(i:Int)],by simp,⟨λx hx=>?_,?_⟩,h3,x2.trans x3⟩
     ·rcases List.mem_append.mp hx with hx|hx
      ·have:=hm.lo x hx;omega
      ·rw[List.mem_singleton.mp hx];omega
     ·refine List.pairwise_append.mpr ⟨hm.up,by simp,λx hx y hy=>?_⟩
      rw[List.mem_singleton.mp hy]
      have:=hm.lo x hx;omega
    ·exact⟨ns,rfl,⟨λx hx=>by have:=hm.lo x hx;omega,hm.up⟩,h3,x2.trans x3⟩
   ·cases hd
  ·rw[iV] at hI
   exact hI
 ·obtain⟨ns,rfl,hm,h2,x2⟩:=hx
  exact Wp.of rfl ⟨ns,rfl,hm,h2,x2⟩
theorem Ut {k:Int} {s:aa} (h0:0<=k) (h1:k<4):∃n:Nat,aD (.lst [.int 2,.int 3,.int 4,.int 8]) (.int k) s=ok (.int n) s/\n<=8:=by
 rcases(show k=0\/k=1\/k=2\/k=3 by omega) with rfl|rfl|rfl|rfl
 ·exact⟨2,rfl,by decide⟩
 ·exact⟨3,rfl,by decide⟩
 ·exact⟨4,rfl,by decide⟩
 ·exact⟨8,rfl,by decide⟩
theorem IL {ns:List Int} {s:aa} (h:ns.length<64):qm (mD ns) s=ok (.lst ((jc ns).map D.int)) s:=by
 unfold qm
 simp only[C3,decide_eq_true h,if_true]
structure HI (s0:aa) (k rh:Nat) (rs:List (List Int)) (s:aa):Prop where
 st:Sf s k
 ex:Ex k s0 s
 run:s[rh]?=some (.lst (rs.map mD))
 fC:∀r∈rs,cJ 8 r
 k1:k<s0.length
 r1:s0.length<=rh
theorem HI.draw {s0 s s':aa} {k rh:Nat} {rs:List (List Int)} (h:HI s0 k rh rs s) (g:Sf s' k) (x:Ex k s s'):HI s0 k rh rs s':=by
 have:=h.k1
 have:=h.r1
 exact⟨g,h.ex.trans x,x.get h.run (by omega),h.fC,h.k1,h.r1⟩
theorem HI.push {s0 s:aa} {k rh:Nat} {rs:List (List Int)} {r:List Int} (h:HI s0 k rh rs s) (hr:cJ 8 r):HI s0 k rh (rs++[r]) (s.set rh (.lst (rs.map mD++[mD r]))):=by
 have:=h.k1
 have:=h.r1
 refine⟨h.st.set (by omega) _,h.ex.hi (by omega) _,?_,λx hx=>?_,h.k1,h.r1⟩
 ·rw[List.getElem?_set_self (List.getElem?_eq_some_iff.mp h.run).1,List.map_append]
  rfl
 ·rcases List.mem_append.mp hx with hx|hx
  ·exact h.fC x hx
  ·rw[List.mem_singleton.mp hx];exact hr
theorem Uu {k i:Nat} {rs:List (List Int)} {s:aa} (h:s[k]?=some (.lst (rs.map mD))) (hi:i<rs.length):aD (.ar k) (.int i) s=ok (mD (rs.getD i [])) s:=by
 unfold aD la res
 simp only[h]
 rw[xU (by rw[List.getElem?_map,getD_some (d:=[]) hi];rfl)]
 rfl
theorem Nj (L:List (List Int)):DI.bW (L.map mD)=true:=by
 induction L with
 |nil=>rfl
 |cons a r ih=>simp only[List.map_cons,DI.bW,lay,mJ,ih,Bool.and_self]
theorem QI {k:Nat} {rs:List (List Int)} {s:aa} (h:s[k]?=some (.lst (rs.map mD))):cC (.ar k) (.lst []) s=ok (.bl (!rs.isEmpty)) s:=by
 have e1:res (.ar k) s=.lst (rs.map mD):=by unfold res;simp only[h]
 have e:cQ (.lst (rs.map mD)) (.lst [])=some rs.isEmpty:=by
  unfold cQ
  rw[if_neg (show ¬ (fy (.lst _)&&fy (.lst _))=true from Bool.false_ne_true),if_pos (by simp only[lay,Nj];simp[DI.bW,dep,iF])]
  cases rs<;>rfl
 unfold cC
 rw[e1]
 show (match cQ (.lst (rs.map mD)) (.lst []) with|some b=>ok (D.bl (!b)) s|none=>none)=_
 rw[e]
theorem Se {k:Nat} {rs:List (List Int)} {s:aa} (h:s[k]?=some (.lst (rs.map mD))):bb [.ar k] s=ok (.int rs.length) s:=by
 unfold bb rF res
 simp only[h,List.length_map]
 rfl
theorem O4 {s:aa} {k:Nat} (h:Sf s k):Wp (aI.qr [.ar k,.int 9] s) λd s'=>∃rs,d=rD rs/\1<=rs.length/\GH rs/\Sf s' k/\Ex k s s':=by
 have hk:=h.lt
 unfold aI.qr
 simp only[VC]
 refine(gL h (by decide) (by decide)).mono λd s1 hd=>?_
 obtain⟨n,rfl,n0,n1,h1,x1⟩:=hd
 try simp only[VC]
 refine(gL h1 (by decide) (by decide)).mono λd s2 hd=>?_
 obtain⟨way,rfl,w0,w1,h2,x2⟩:=hd
 try simp only[VC]
 refine⟨by decide,?_⟩
 have l1:=x1.len
 have l2:=x2.len
 have r0:HI s k s2.length [] (s2++[.lst []]):=⟨h2.app _,(x1.trans x2).trans (Ex.app _ _ _),by simp,by simp,hk,by omega⟩
 generalize hS:s2++[.lst []]=S at r0
 generalize s2.length=rh at r0
 refine Wp.of (M9 (n:=(1+n).toNat) (s1:=S) (i:=1+n) (Wp.eq (by simp only[VC,and_self])) (by omega) (by omega)) ?_
 refine Wp.jo (λi env s'=>∃rs x5 x6 x7,rs.length=i/\HI s k rh rs s'/\env=[some (.ar k),some (.int 9),some (.int (1+n)),some (.int way),some (.ar rh),x5,x6,x7]) _ ⟨[],_,_,_,rfl,r0,rfl⟩ (λi d env s' hd hI=>?_) (λenv s' hI=>?_)
 ·obtain⟨rs,x5,x6,x7,hl,r2,rfl⟩:=hI
  rw[kz] at hd
  split at hd
  ·rename_i hi
   cases hd
   refine⟨_,rfl,?_⟩
   simp only[VC]
   refine⟨by decide,?_⟩
   obtain⟨q,hq,q8⟩:=Ut (s:=s') w0 w1
   rw[hq]
   simp only[VC]
   refine(Ni r2.st q8).mono λd s3 hd=>?_
   obtain⟨ms,rfl,hm,h3,x3⟩:=hd
   have hm:=hm.Us q8
   have lm:=hm.len
   have r3:=r2.draw h3 x3
   simp only[VC,QI r3.run]
   have fin:∀(m:List Int) (s6:aa) (x7:Option D),cJ 8 m->HI s k rh rs s6->jW (.ar rh) s6=true/\Wp (hU (.ar rh) (mD m) s6) λ_ jB=>∃rs x5 x6 Uv,rs.length=i+1/\HI s k rh rs jB/\([some (.ar k),some (.int 9),some (.int (1+n)),some (.int way),some (.ar rh),some (.int (0+(i:Int))),some (mD m),x7]:Env)=[some (.ar k),some (.int 9),some (.int (1+n)),some (.int way),some (.ar rh),x5,x6,Uv]:=λm s6 x7 gm r5=>by
    refine⟨by unfold jW;simp only[r5.run],?_⟩
    refine Wp.of (show hU (.ar rh) (mD m) s6=ok .ay (s6.set rh (.lst (rs.map mD++[mD m]))) from ?_) ⟨rs++[m],_,_,_,by rw[List.length_append,hl];rfl,r5.push gm,rfl⟩
    unfold hU
    have aU:(rs.map mD).length<sizeLine:=Nat.lt_of_le_of_lt (show _<=1000000 by rw[List.length_map];omega) (by decide)
    simp only[r5.run,decide_eq_true aU,if_true]
   refine⟨Nat.zero_le _,?_⟩
   split
   ·rename_i bz
    have Uw:rs≠[]:=by
     intro z
     rw[z] at bz
     cases bz
    have Vh:=List.length_pos_iff.mpr Uw
    refine(gL r3.st (by decide) (by decide)).mono λd s4 hd=>?_
    obtain⟨q1,rfl,_,_,h4,x4⟩:=hd
    have r4:=r3.draw h4 x4
    simp only[VC]
    split
    ·rw[Se r4.run]
     simp only[VC]
     refine(gL r4.st (by omega) (by omega)).mono λd s5 hd=>?_
     obtain⟨j,rfl,j0,j1,h5,x5⟩:=hd
     have r5:=r4.draw h5 x5
     obtain⟨j',rfl⟩:=Int.eq_ofNat_of_zero_le j0
     have hj:j' < rs.length:=by omega
     rw[Uu r5.run hj]
     simp only[VC]
     have go:cJ 8 (rs.getD j' []):=r5.fC _ (List.mem_of_getElem? (getD_some (d:=[]) hj))
     have lo:=go.len
     refine(gL r5.st (by decide) (by decide)).mono λd s6 hd=>?_
     obtain⟨q2,rfl,_,_,h6,x6⟩:=hd
     have r6:=r5.draw h6 x6
     simp only[VC]
     split
     ·refine Wp.of (R9 (by omega)) ?_
      refine Wp.of (IL (by rw[List.length_append];omega)) ?_
      refine Wp.of (show fg [.lst ((jc (rs.getD j' []++ms)).map D.int)] s6=ok (mD (jc (rs.getD j' []++ms))) s6 from rfl) ?_
      exact fin _ s6 _ (Km go hm) r6
     ·exact fin _ s6 _ go r6
    ·exact fin _ s4 _ hm r4
   ·simp only[Bool.false_eq_true,if_false]
    exact fin _ s3 _ hm r3
  ·cases hd
 ·obtain⟨rs,x5,x6,x7,hl,r2,rfl⟩:=hI
  rw[iV] at hl
  simp only[VC]
  refine Wp.of (show fg [.ar rh] s'=ok (rD rs) s' from ?_) ⟨rs,rfl,by omega,⟨by omega,r2.fC⟩,r2.st,r2.ex⟩
  unfold fg res
  simp only[r2.run]
end DI
namespace DI
open PySem L2
noncomputable abbrev bj:=List (Nat×Nat)
noncomputable def aT:bj->Nat->Option Nat
 | [],_=>none
 |p::r,q=>if p.1=q then some p.2 else aT r q
noncomputable def cV:bj->Nat->Nat->bj
 | [],q,v=>[(q,v)]
 |p::r,q,v=>if p.1=q then (q,v)::r else p::cV r q v
noncomputable abbrev keys (a:bj):List Nat:=a.map (·.1)
noncomputable abbrev vals (a:bj):List Nat:=a.map (·.2)
theorem keys_cons (p:Nat×Nat) (r:bj):keys (p::r)=p.1::keys r:=rfl
theorem uy (p:Nat×Nat) (r:bj):vals (p::r)=p.2::vals r:=rfl
theorem get_mem {a:bj} {q v:Nat} (h:aT a q=some v):(q,v)∈a:=by
 induction a with
 |nil=>cases h
 |cons p r ih =>
  unfold aT at h
  split at h
  ·rename_i e;cases h;rw[<- e];exact List.mem_cons_self
  ·exact List.mem_cons_of_mem _ (ih h)
theorem uR {a:bj} (nd:(keys a).Nodup) {q v:Nat} (h:(q,v)∈a):aT a q=some v:=by
 induction a with
 |nil=>cases h
 |cons p r ih =>
  rw[keys_cons,List.nodup_cons] at nd
  unfold aT
  rcases List.mem_cons.mp h with e|e
  ·rw[<- e,if_pos rfl]
  ·rw[if_neg (λz=>nd.1 (List.mem_map.mpr ⟨(q,v),e,z.symm⟩))]
   exact ih nd.2 e
theorem get_none {a:bj} {q:Nat}:aT a q=none↔q∉keys a:=by
 induction a with
 |nil=>exact⟨λ_ h=>(by cases h),λ_=>rfl⟩
 |cons p r ih =>
  unfold aT
  rw[keys_cons,List.mem_cons,not_or]
  split
  ·rename_i e;exact⟨λz=>(by cases z),λz=>absurd e.symm z.1⟩
  ·rename_i e;rw[ih];exact⟨λz=>⟨λw=>e w.symm,z⟩,λz=>z.2⟩
theorem mO {a:bj} {q v x:Nat}:aT (cV a q v) x=if x=q then some v else aT a x:=by
 induction a with
 |nil =>
  show (if q=x then some v else none)=_
  by_cases e:x=q
  ·rw[if_pos e,if_pos e.symm]
  ·rw[if_neg e,if_neg (Ne.symm e)];rfl
 |cons p r ih =>
  unfold cV
  split
  ·rename_i e
   show (if q=x then some v else aT r x)=_
   by_cases e2:x=q
   ·rw[if_pos e2,if_pos e2.symm]
   ·rw[if_neg e2,if_neg (Ne.symm e2)]
    show _=if p.1=x then some p.2 else aT r x
    rw[if_neg (λz=>e2 (z.symm.trans e))]
  ·rename_i e
   show (if p.1=x then some p.2 else aT (cV r q v) x)=if x=q then some v else (if p.1=x then some p.2 else aT r x)
   rw[ih]
   by_cases e2:x=q
   ·rw[if_pos e2,if_pos e2,if_neg (λz=>e (z.trans e2))]
   ·rw[if_neg e2,if_neg e2]
theorem DD {a:bj} {q v:Nat}:keys (cV a q v)=if q∈keys a then keys a else keys a++[q]:=by
 induction a with
 |nil=>rfl
 |cons p r ih =>
  unfold cV
  split
  ·rename_i e
   rw[if_pos (by rw[keys_cons,e];exact List.mem_cons_self),keys_cons,keys_cons,e]
  ·rename_i e
   rw[keys_cons,keys_cons,ih]
   by_cases h:q∈keys r
   ·rw[if_pos h,if_pos (List.mem_cons_of_mem _ h)]
   ·rw[if_neg h,if_neg (λz=>(List.mem_cons.mp z).elim (λw=>e w.symm) h)];rfl
theorem Nk {a:bj} {q v:Nat} (h:aT a q=none):cV a q v=a++[(q,v)]:=by
 induction a with
 |nil=>rfl
 |cons p r ih =>
  unfold aT at h
  unfold cV
  split at h
  ·cases h
  ·rename_i e;rw[if_neg e,ih h];rfl
theorem LU {a:bj} {q v w:Nat} (h:aT a q=some w):(w::vals (cV a q v)).Perm (v::vals a):=by
 induction a with
 |nil=>cases h
 |cons p r ih =>
  unfold aT at h
  unfold cV
  split at h
  ·rename_i e
   cases h
   rw[if_pos e]
   exact List.Perm.swap _ _ _
  ·rename_i e
   rw[if_neg e,uy,uy]
   exact(List.Perm.swap _ _ _).trans (((ih h).cons _).trans (List.Perm.swap _ _ _))
noncomputable abbrev enc (a:bj):List (Key×D):=a.map λp:Nat×Nat=>((Sum.inl (p.1:Int):Key),D.int p.2)
theorem kA {a b:Nat}:((Sum.inl (a:Int):Key)=Sum.inl (b:Int))↔a=b:=⟨λh=>by injection h with h;omega,λh=>by rw[h]⟩
theorem yg (a:bj) (q:Nat):fO (enc a) (Sum.inl (q:Int))=(aT a q).map λv=>D.int (v:Nat):=by
 induction a with
 |nil=>rfl
 |cons p r ih =>
  rw[show enc (p::r)=(Sum.inl (p.1:Int),D.int p.2)::enc r from rfl]
  unfold fO aT
  by_cases e:p.1=q
  ·rw[if_pos e,if_pos (kA.mpr e)];rfl
  ·rw[if_neg e,if_neg (λz=>e (kA.mp z))];exact ih
theorem Nl {α:Type} (f:α->Nat) (g:α->D) (a:List α) (q:Nat):((a.map λp=>((Sum.inl (f p:Int):Key),g p)).any λp=>decide (p.1=Sum.inl (q:Int)))=a.any λp=>decide (f p=q):=by
 rw[List.any_map]
 congr 1
 funext p
 exact decide_eq_decide.mpr kA
theorem Kr {p:Key×D} {r:List (Key×D)} {k:Key} {v:D} (nd:p.1=k->k∉r.map (·.1)):eV (p::r) k v=if p.1=k then (k,v)::r else p::eV r k v:=by
 unfold eV
 rw[List.any_cons]
 by_cases e:p.1=k
 ·rw[if_pos e,decide_eq_true e,Bool.true_or,if_pos rfl,List.map_cons,if_pos e,e]
  congr 1
  have:∀x∈r,(if x.1=k then (x.1,v) else x)=x:=λx hx=>if_neg (λz=>nd e (List.mem_map.mpr ⟨x,hx,z⟩))
  calc r.map (λp=>if p.1=k then (p.1,v) else p)=r.map id:=List.map_congr_left this
   _=r:=List.map_id _
 ·rw[if_neg e,decide_eq_false e,Bool.false_or]
  split
  ·rw[List.map_cons,if_neg e]
  ·rfl
theorem Ej (a:bj) (nd:(keys a).Nodup) (q v:Nat):eV (enc a) (Sum.inl (q:Int)) (.int v)=enc (cV a q v):=by
 induction a with
 |nil=>rfl
 |cons p r ih =>
  rw[keys_cons,List.nodup_cons] at nd
  rw[show enc (p::r)=(Sum.inl (p.1:Int),D.int p.2)::enc r from rfl,Kr]
  ·unfold cV
   by_cases e:p.1=q
   ·rw[if_pos (kA.mpr e),if_pos e];rfl
   ·rw[if_neg (λz=>e (kA.mp z)),if_neg e,ih nd.2];rfl
  ·intro e hm
   have e:=kA.mp e
   obtain⟨x,hx,nL⟩:=List.mem_map.mp hm
   obtain⟨y,hy,rfl⟩:=List.mem_map.mp hx
   exact nd.1 (List.mem_map.mpr ⟨y,hy,by rw[e];exact kA.mp nL⟩)
noncomputable abbrev fc (T:List Nat):List (Key×D):=T.map λq:Nat=>((Sum.inl (q:Int):Key),D.bl true)
theorem Nm (T:List Nat) (q:Nat):(fO (fc T) (Sum.inl (q:Int))).isSome=decide (q∈T):=by
 induction T with
 |nil=>rfl
 |cons p r ih =>
  rw[show fc (p::r)=((Sum.inl (p:Int):Key),D.bl true)::fc r from rfl]
  unfold fO
  by_cases e:p=q
  ·rw[if_pos (kA.mpr e),e];simp
  ·rw[if_neg (λz=>e (kA.mp z)),ih]
   exact decide_eq_decide.mpr ⟨λh=>List.mem_cons_of_mem _ h,λh=>(List.mem_cons.mp h).elim (λz=>absurd z.symm e) id⟩
theorem Nn {T:List Nat} {q:Nat} (h:q∉T):eV (fc T) (Sum.inl (q:Int)) (.bl true)=fc (T++[q]):=by
 unfold eV
 rw[show (fc T)=T.map (λp:Nat=>((Sum.inl ((λq:Nat=>q) p:Int):Key),(λ_=>D.bl true) p)) from rfl,Nl (λq:Nat=>q) (λ_=>D.bl true)]
 rw[if_neg (by rw[List.any_eq_true];rintro ⟨x,hx,e⟩;exact h (of_decide_eq_true e ▸ hx))]
 show _=(T++[q]).map _
 rw[List.map_append]
 rfl
end DI
namespace DI
section
variable {E:Nat->Nat->Bool} {n:Nat} {a:bj} {S:List Nat}
structure Mt (E:Nat->Nat->Bool) (n:Nat) (a:bj):Prop where
 kn:(keys a).Nodup
 vn:(vals a).Nodup
 ed:∀q p,(q,p)∈a->E p q=true/\p<n/\q<n
def Cl (E:Nat->Nat->Bool) (n:Nat) (a:bj) (S:List Nat):Prop:=∀q∈S,∃p,aT a q=some p/\∀r,r<n->E p r=true->r∈S
structure St (E:Nat->Nat->Bool) (n:Nat) (a:bj) (S:List Nat):Prop where
 m:Mt E n a
 c:Cl E n a S
 f:∀u,u<n->u∉vals a->∀r,r<n->E u r=true->r∈S
theorem Np (M:Mt E n a) {x:Nat} (h:x∈vals a):∃q,aT a q=some x:=by
 obtain⟨p,hp,rfl⟩:=List.mem_map.mp h
 exact⟨p.1,uR M.kn hp⟩
theorem ku {l m:List Nat} (h:l.Nodup) (s:∀x∈l,x∈m):l.length<=m.length:=by
 induction l generalizing m with
 |nil=>exact Nat.zero_le _
 |cons x l ih =>
  obtain⟨h1,h2⟩:=List.nodup_cons.mp h
  have hx:=s x List.mem_cons_self
  have:=ih (m:=m.erase x) h2 λy hy=>(List.mem_erase_of_ne (λ(e:y=x)=>h1 (e ▸ hy))).mpr (s y (List.mem_cons_of_mem _ hy))
  rw[List.length_erase_of_mem hx] at this
  have:=List.length_pos_of_mem hx
  rw[List.length_cons]
  omega
theorem Ks {l:List Nat} {f:Nat->Nat} (h:l.Nodup) (inj:∀x∈l,∀y∈l,f x=f y->x=y):(l.map f).Nodup:=by
 unfold List.Nodup
 rw[List.pairwise_map]
 exact h.imp_of_mem λ{x y} hx hy bz e=>bz (inj x hx y hy e)
theorem U6 (T:St E n a S):∃A:List Nat,A.Sublist (List.range n)/\(A.Pairwise λx y=>E x y=false/\E y x=false)/\n<=A.length+a.length:=by
 have M:=T.m
 let g:Nat->Bool:=λx=>(decide (x∉vals a)||decide (∃q∈S,aT a q=some x))&&decide (x∉S)
 have hg:∀x,g x=true↔(x∉vals a\/∃q∈S,aT a q=some x)/\x∉S:=λx=>by
  simp only[g,Bool.and_eq_true,Bool.or_eq_true,decide_eq_true_eq]
 have key:∀x y,x<n->y<n->g x=true->g y=true->E x y=false:=λx y hx hy gx gy=>by
  obtain⟨h1,_⟩:=(hg x).mp gx
  obtain⟨_,h4⟩:=(hg y).mp gy
  cases he:E x y with
  |false=>rfl
  |true =>
   exfalso
   rcases h1 with h1 | ⟨q,hq,e⟩
   ·exact h4 (T.f x hx h1 y hy he)
   ·obtain⟨p,e2,h⟩:=T.c q hq
    rw[e] at e2
    cases e2
    exact h4 (h y hy he)
 refine⟨(List.range n).filter g,List.filter_sublist,?_,?_⟩
 ·have nd:((List.range n).filter g).Pairwise λx y=>x≠y:=List.nodup_range.sublist List.filter_sublist
  refine nd.imp_of_mem λ{x y} hx hy _=>?_
  obtain⟨x1,x2⟩:=List.mem_filter.mp hx
  obtain⟨y1,y2⟩:=List.mem_filter.mp hy
  exact⟨key x y (List.mem_range.mp x1) (List.mem_range.mp y1) x2 y2,key y x (List.mem_range.mp y1) (List.mem_range.mp x1) y2 x2⟩
 ·let f:Nat->Nat:=λx=>if x∈S then x else ((a.find? λp=>decide (p.2=x)).map (·.1)).getD 0
  have hf:∀x,x∉S->x∈vals a->aT a (f x)=some x:=λx hx hv=>by
   show aT a (if x∈S then x else ((a.find? λp=>decide (p.2=x)).map (·.1)).getD 0)=some x
   rw[if_neg hx]
   cases hq:a.find? λp=>decide (p.2=x) with
   |none =>
    obtain⟨p,hp,e⟩:=List.mem_map.mp hv
    have:=List.find?_eq_none.mp hq p hp
    exact absurd (decide_eq_true e) this
   |some p =>
    have e:=List.find?_some hq
    have e:p.2=x:=of_decide_eq_true e
    have hm:=List.mem_of_find?_eq_some hq
    exact e ▸ uR M.kn hm
  have out:∀x,(!g x)=true->x∉S->x∈vals a/\∀q∈S,aT a q≠some x:=λx hx hs=>by
   have h:¬ g x=true:=λz=>by rw[z] at hx;cases hx
   rw[hg] at h
   refine⟨?_,λq hq e=>h ⟨.inr ⟨q,hq,e⟩,hs⟩⟩
   by_cases hv:x∈vals a
   ·exact hv
   ·exact absurd ⟨.inl hv,hs⟩ h
  have le:((List.range n).filter λx=>!g x).length<=(keys a).length:=by
   rw[<- List.length_map (f:=f)]
   refine ku (Ks (List.nodup_range.sublist List.filter_sublist) λx hx y hy e=>?_) λz hz=>?_
   ·obtain⟨_,x2⟩:=List.mem_filter.mp hx
    obtain⟨_,y2⟩:=List.mem_filter.mp hy
    by_cases jC:x∈S
    ·by_cases my:y∈S
     ·simpa [f,jC,my] using e
     ·obtain⟨v1,v2⟩:=out y y2 my
      have:=hf y my v1
      rw[<- e] at this
      exact absurd this (v2 (f x) (by simpa [f,jC] using jC))
    ·obtain⟨u1,u2⟩:=out x x2 jC
     by_cases my:y∈S
     ·have:=hf x jC u1
      rw[e] at this
      exact absurd this (u2 (f y) (by simpa [f,my] using my))
     ·obtain⟨v1,v2⟩:=out y y2 my
      have h1:=hf x jC u1
      have h2:=hf y my v1
      rw[e,h2] at h1
      exact(Option.some.inj h1).symm
   ·obtain⟨x,hx,rfl⟩:=List.mem_map.mp hz
    obtain⟨_,x2⟩:=List.mem_filter.mp hx
    by_cases jC:x∈S
    ·obtain⟨p,e,_⟩:=T.c x jC
     have:f x=x:=by simp[f,jC]
     rw[this]
     exact List.mem_map.mpr ⟨_,get_mem e,rfl⟩
    ·exact List.mem_map.mpr ⟨_,get_mem (hf x jC (out x x2 jC).1),rfl⟩
  have wN:((List.range n).filter g).length+((List.range n).filter λx=>!g x).length=n:=by
   have h:∀l:List Nat,(l.filter g).length+(l.filter λx=>!g x).length=l.length:=λl=>by
    induction l with
    |nil=>rfl
    |cons x l ih =>
     rw[List.filter_cons,List.filter_cons]
     cases g x<;>simp<;>omega
   rw[h,List.length_range]
  rw[List.length_map] at le
  omega
end
end DI
namespace DI
noncomputable def rv (a:bj):bj:=a.foldl (λacc p=>cV acc p.2 p.1) []
theorem O5 (a:bj) (nd:(vals a).Nodup):∀(acc:bj) (x:Nat),(∀q,(q,x)∈a->aT (a.foldl (λacc p=>cV acc p.2 p.1) acc) x=some q)/\(x∉vals a->aT (a.foldl (λacc p=>cV acc p.2 p.1) acc) x=aT acc x):=by
 induction a with
 |nil=>intro acc x;exact⟨λq h=>(by cases h),λ_=>rfl⟩
 |cons p r ih =>
  intro acc x
  rw[uy,List.nodup_cons] at nd
  obtain⟨h1,h2⟩:=ih nd.2 (cV acc p.2 p.1) x
  refine⟨λq hq=>?_,λhx=>?_⟩
  ·rcases List.mem_cons.mp hq with e|e
   ·have ex:x=p.2:=congrArg Prod.snd e
    have eq:q=p.1:=congrArg Prod.fst e
    rw[List.foldl_cons,h2 (by rw[ex];exact nd.1),mO,if_pos ex,eq]
   ·rw[List.foldl_cons];exact h1 q e
  ·rw[uy,List.mem_cons,not_or] at hx
   rw[List.foldl_cons,h2 hx.2,mO,if_neg hx.1]
theorem Nq (a:bj):∀(acc:bj),(keys acc).Nodup->(keys (a.foldl (λacc p=>cV acc p.2 p.1) acc)).Nodup:=by
 induction a with
 |nil=>intro acc h;exact h
 |cons p r ih =>
  intro acc h
  rw[List.foldl_cons]
  refine ih _ ?_
  rw[DD]
  split
  ·exact h
  ·rename_i hn
   refine List.nodup_append.mpr ⟨h,by simp,λx hx y hy=>?_⟩
   rw[List.mem_singleton.mp hy]
   exact λe=>hn (e ▸ hx)
section
variable {E:Nat->Nat->Bool} {n:Nat} {a:bj} {S:List Nat}
theorem kG (M:Mt E n a) {p q:Nat}:aT (rv a) p=some q↔aT a q=some p:=by
 obtain⟨h1,h2⟩:=O5 a M.vn [] p
 constructor
 ·intro h
  by_cases hp:p∈vals a
  ·obtain⟨q',e⟩:=Np M hp
   have:=h1 q' (get_mem e)
   have h:aT (a.foldl (λacc p=>cV acc p.2 p.1) []) p=some q:=h
   rw[this] at h
   cases h
   exact e
  ·have h:aT (a.foldl (λacc p=>cV acc p.2 p.1) []) p=some q:=h
   rw[h2 hp] at h
   cases h
 ·intro h
  exact h1 q (get_mem h)
structure Or (E:Nat->Nat->Bool) (n:Nat):Prop where
 nY:∀x,E x x=false
 tr:∀x y z,x<n->y<n->z<n->E x y=true->E y z=true->E x z=true
noncomputable def rank (E:Nat->Nat->Bool) (n x:Nat):Nat:=((List.range n).filter λy=>E y x).length
theorem lD (O:Or E n) {p q:Nat} (hp:p<n) (hq:q<n) (h:E p q=true):rank E n p<rank E n q:=by
 have np:p∉(List.range n).filter λy=>E y p:=λw=>by
  have:=(List.mem_filter.mp w).2
  rw[O.nY] at this
  cases this
 have nd:(p::(List.range n).filter λy=>E y p).Nodup:=List.nodup_cons.mpr ⟨np,List.nodup_range.sublist List.filter_sublist⟩
 refine ku nd λx hx=>?_
 rcases List.mem_cons.mp hx with e|e
 ·rw[e];exact List.mem_filter.mpr ⟨List.mem_range.mpr hp,h⟩
 ·obtain⟨e1,e2⟩:=List.mem_filter.mp e
  exact List.mem_filter.mpr ⟨e1,O.tr x p q (List.mem_range.mp e1) hp hq e2 h⟩
theorem u7 (O:Or E n) {p:Nat} (hp:p<n):rank E n p<n:=by
 have np:p∉(List.range n).filter λy=>E y p:=λw=>by
  have:=(List.mem_filter.mp w).2
  rw[O.nY] at this
  cases this
 have nd:(p::(List.range n).filter λy=>E y p).Nodup:=List.nodup_cons.mpr ⟨np,List.nodup_range.sublist List.filter_sublist⟩
 have:=ku (m:=List.range n) nd λx hx=>by
  rcases List.mem_cons.mp hx with e|e
  ·rw[e];exact List.mem_range.mpr hp
  ·exact(List.mem_filter.mp e).1
 rw[List.length_range] at this
 exact this
noncomputable def vX (b:bj):Nat->Nat->List Nat
 |0,p=>[p]
 |f+1,p=>p::match aT b p with
  |none=>[]
  |some q=>vX b f q
noncomputable def row (n:Nat) (a:bj) (p:Nat):List Nat:=vX (rv a) n p
theorem Kt (O:Or E n) (M:Mt E n a):∀f p,p<n->n<=f+rank E n p->vX (rv a) (f+1) p=vX (rv a) f p:=by
 intro f
 induction f with
 |zero=>intro p hp h;have:=u7 O hp;omega
 |succ f ih =>
  intro p hp h
  show p::_=p::_
  congr 1
  cases hb:aT (rv a) p with
  |none=>rfl
  |some q =>
   obtain⟨e1,_,e3⟩:=M.ed q p (get_mem ((kG M).mp hb))
   have:=lD O hp e3 e1
   exact ih q e3 (by omega)
theorem u9 (O:Or E n) (M:Mt E n a) {p:Nat} (hp:p<n):row n a p=p::match aT (rv a) p with
  |none=>[]
  |some q=>row n a q:=by
 unfold row
 rw[<- Kt O M n p hp (by omega)]
 rfl
theorem DE (O:Or E n) (M:Mt E n a) {p:Nat} (hp:p<n) (h:aT (rv a) p=none):row n a p=[p]:=by rw[u9 O M hp,h]
theorem DF (O:Or E n) (M:Mt E n a) {p q:Nat} (hp:p<n) (h:aT (rv a) p=some q):row n a p=p::row n a q:=by rw[u9 O M hp,h]
theorem El (O:Or E n) (M:Mt E n a) {C:Nat->Prop} (h0:∀p,p<n->aT (rv a) p=none->C p) (h1:∀p q,p<n->q<n->E p q=true->aT (rv a) p=some q->C q->C p):∀p,p<n->C p:=by
 have key:∀k p,p<n->n-rank E n p<=k->C p:=by
  intro k
  induction k with
  |zero=>intro p hp h;have:=u7 O hp;omega
  |succ k ih =>
   intro p hp h
   cases hb:aT (rv a) p with
   |none=>exact h0 p hp hb
   |some q =>
    obtain⟨e1,_,e3⟩:=M.ed q p (get_mem ((kG M).mp hb))
    have:=lD O hp e3 e1
    have:=u7 O e3
    exact h1 p q hp e3 e1 hb (ih q e3 (by omega))
 exact λp hp=>key (n-rank E n p) p hp (Nat.le_refl _)
theorem dX (O:Or E n) (M:Mt E n a):∀p,p<n->(∀x∈row n a p,x<n)/\p∈row n a p/\(row n a p).Pairwise (λx y=>E x y=true)/\(∀x∈row n a p,∀y,aT (rv a) x=some y->y∈row n a p)/\(∀x∈row n a p,x=p\/∃y∈row n a p,aT (rv a) y=some x):=by
 refine El O M (λp hp hb=>?_) λp q hp hq he hb ih=>?_
 ·rw[DE O M hp hb]
  refine⟨λx hx=>by rw[List.mem_singleton.mp hx];exact hp,List.mem_singleton.mpr rfl,List.pairwise_singleton _ _,λx hx y hy=>?_,λx hx=>.inl (List.mem_singleton.mp hx)⟩
  rw[List.mem_singleton.mp hx,hb] at hy
  cases hy
 ·obtain⟨i1,i2,i3,i4,i5⟩:=ih
  rw[DF O M hp hb]
  have m9:∀z∈row n a q,E p z=true:=λz hz=>by
   rw[u9 O M hq] at hz i3
   rcases List.mem_cons.mp hz with e|e
   ·rw[e];exact he
   ·have Ux:=i1 z (by rw[u9 O M hq];exact hz)
    exact O.tr p q z hp hq Ux he ((List.pairwise_cons.mp i3).1 z e)
  refine⟨λx hx=>?_,List.mem_cons_self,List.pairwise_cons.mpr ⟨m9,i3⟩,λx hx y hy=>?_,λx hx=>?_⟩
  ·rcases List.mem_cons.mp hx with e|e
   ·rw[e];exact hp
   ·exact i1 x e
  ·rcases List.mem_cons.mp hx with e|e
   ·rw[e,hb] at hy;cases hy;exact List.mem_cons_of_mem _ i2
   ·exact List.mem_cons_of_mem _ (i4 x e y hy)
  ·rcases List.mem_cons.mp hx with e|e
   ·exact .inl e
   ·rcases i5 x e with h | ⟨y,hy,h⟩
    ·exact .inr ⟨p,List.mem_cons_self,by rw[h];exact hb⟩
    ·exact .inr ⟨y,List.mem_cons_of_mem _ hy,h⟩
noncomputable def starts (n:Nat) (a:bj):List Nat:=(List.range n).filter λx=>decide (x∉keys a)
theorem fe {x:Nat} (h:x∈starts n a):x<n:=List.mem_range.mp (List.mem_filter.mp h).1
theorem DG {x:Nat} (h:x∈starts n a):x∉keys a:=of_decide_eq_true (List.mem_filter.mp h).2
theorem JB (M:Mt E n a):(starts n a).length+a.length=n:=by
 have h:∀l:List Nat,(l.filter λx=>decide (x∉keys a)).length+(l.filter λx=>decide (x∈keys a)).length=l.length:=λl=>by
  induction l with
  |nil=>rfl
  |cons x l ih =>
   rw[List.filter_cons,List.filter_cons]
   by_cases e:x∈keys a
   ·rw[if_neg (by simp[e]),if_pos (by simp[e]),List.length_cons,List.length_cons];omega
   ·rw[if_pos (by simp[e]),if_neg (by simp[e]),List.length_cons,List.length_cons];omega
 have e:((List.range n).filter λx=>decide (x∈keys a)).length=(keys a).length:=by
  refine Nat.le_antisymm (ku (List.nodup_range.sublist List.filter_sublist) λx hx=>of_decide_eq_true (List.mem_filter.mp hx).2) (ku M.kn λx hx=>?_)
  obtain⟨p,hp,rfl⟩:=List.mem_map.mp hx
  exact List.mem_filter.mpr ⟨List.mem_range.mpr (M.ed p.1 p.2 hp).2.2,decide_eq_true hx⟩
 have:=h (List.range n)
 rw[e,List.length_map,List.length_range] at this
 exact this
theorem O6 (O:Or E n) (M:Mt E n a):∀x,x<n->∃s∈starts n a,x∈row n a s:=by
 have key:∀k x,x<n->rank E n x<=k->∃s∈starts n a,x∈row n a s:=by
  intro k
  induction k with
  |zero =>
   intro x hx h
   cases hb:aT a x with
   |none=>exact⟨x,List.mem_filter.mpr ⟨List.mem_range.mpr hx,decide_eq_true (get_none.mp hb)⟩,(dX O M x hx).2.1⟩
   |some p =>
    obtain⟨e1,e2,_⟩:=M.ed x p (get_mem hb)
    have:=lD O e2 hx e1
    omega
  |succ k ih =>
   intro x hx h
   cases hb:aT a x with
   |none=>exact⟨x,List.mem_filter.mpr ⟨List.mem_range.mpr hx,decide_eq_true (get_none.mp hb)⟩,(dX O M x hx).2.1⟩
   |some p =>
    obtain⟨e1,e2,_⟩:=M.ed x p (get_mem hb)
    have:=lD O e2 hx e1
    obtain⟨s,hs,hm⟩:=ih p e2 (by omega)
    exact⟨s,hs,(dX O M s (fe hs)).2.2.2.1 p hm x ((kG M).mpr hb)⟩
 exact λx hx=>key _ x hx (Nat.le_refl _)
theorem Nr (O:Or E n) (M:Mt E n a) {s t:Nat} (hs:s∈starts n a) (ht:t∈starts n a):∀x,x∈row n a s->x∈row n a t->s=t:=by
 have key:∀k x,rank E n x<=k->x∈row n a s->x∈row n a t->s=t:=by
  intro k
  induction k with
  |zero =>
   intro x h h1 h2
   have hx:=(dX O M s (fe hs)).1 x h1
   rcases(dX O M s (fe hs)).2.2.2.2 x h1 with e | ⟨y,hy,e⟩
   ·rcases(dX O M t (fe ht)).2.2.2.2 x h2 with e' | ⟨y,hy,e'⟩
    ·rw[<- e,e']
    ·have:=lD O ((dX O M t (fe ht)).1 y hy) hx (M.ed x y (get_mem ((kG M).mp e'))).1
     omega
   ·have:=lD O ((dX O M s (fe hs)).1 y hy) hx (M.ed x y (get_mem ((kG M).mp e))).1
    omega
  |succ k ih =>
   intro x h h1 h2
   have hx:=(dX O M s (fe hs)).1 x h1
   rcases(dX O M s (fe hs)).2.2.2.2 x h1 with e | ⟨y,hy,e⟩
   ·rcases(dX O M t (fe ht)).2.2.2.2 x h2 with e' | ⟨y,hy,e'⟩
    ·rw[<- e,e']
    ·exfalso
     have:=get_mem ((kG M).mp e')
     exact DG hs (List.mem_map.mpr ⟨_,this,e⟩)
   ·rcases(dX O M t (fe ht)).2.2.2.2 x h2 with e' | ⟨z,hz,e'⟩
    ·exfalso
     have:=get_mem ((kG M).mp e)
     exact DG ht (List.mem_map.mpr ⟨_,this,e'⟩)
    ·have e1:=(kG M).mp e
     have e2:=(kG M).mp e'
     rw[e1] at e2
     cases e2
     have:=lD O ((dX O M s (fe hs)).1 y hy) hx (M.ed x y (get_mem e1)).1
     exact ih y (by omega) hy hz
 exact λx=>key _ x (Nat.le_refl _)
theorem JC {l:List Nat} {f:Nat->List Nat} (h1:∀s∈l,(f s).Nodup) (h2:l.Pairwise λs t=>∀x,x∈f s->x∈f t->False):(l.flatMap f).Nodup:=by
 induction l with
 |nil=>exact List.nodup_nil
 |cons s l ih =>
  obtain⟨p1,p2⟩:=List.pairwise_cons.mp h2
  rw[List.flatMap_cons]
  refine List.nodup_append.mpr ⟨h1 s List.mem_cons_self,ih (λt ht=>h1 t (List.mem_cons_of_mem _ ht)) p2,λx hx y hy e=>?_⟩
  obtain⟨t,ht,hm⟩:=List.mem_flatMap.mp hy
  exact p1 t ht x hx (e ▸ hm)
theorem Ku (O:Or E n) (M:Mt E n a):((starts n a).flatMap (row n a)).Perm (List.range n):=by
 have nd:((starts n a).flatMap (row n a)).Nodup:=by
  refine JC (λs hs=>?_) ?_
  ·exact((dX O M s (fe hs)).2.2.1).imp λ{x y} h e=>by rw[e,O.nY] at h;cases h
  ·have:(starts n a).Pairwise λx y=>x≠y:=List.nodup_range.sublist List.filter_sublist
   refine this.imp_of_mem λ{s t} hs ht bz x h1 h2=>bz (Nr O M hs ht x h1 h2)
 refine(List.perm_ext_iff_of_nodup nd List.nodup_range).mpr λx=>?_
 rw[List.mem_flatMap,List.mem_range]
 exact⟨λ⟨s,hs,h⟩=>(dX O M s (fe hs)).1 x h,λh=>O6 O M x h⟩
end
end DI
namespace DI
open PySem L2
noncomputable def fD (rs:List (List Int)) (p q:Nat):Bool:=sub (rs.getD p []) (rs.getD q [])&&(!decide (rs.getD q []=rs.getD p [])||decide (p<q))
theorem O7 {a b c:List Int} (h:sub a b=true) (g:sub b c=true):sub a c=true:=lB.mpr λx hx=>lB.mp g x (lB.mp h x hx)
theorem up_eq {a b:List Int} (ha:a.Pairwise (· < ·)) (hb:b.Pairwise (· < ·)) (h:sub a b=true) (g:sub b a=true):a=b:=by
 induction a generalizing b with
 |nil =>
  cases b with
  |nil=>rfl
  |cons y r=>exact absurd (lB.mp g y List.mem_cons_self) List.not_mem_nil
 |cons x l ih =>
  cases b with
  |nil=>exact absurd (lB.mp h x List.mem_cons_self) List.not_mem_nil
  |cons y r =>
   obtain⟨a1,a2⟩:=List.pairwise_cons.mp ha
   obtain⟨b1,b2⟩:=List.pairwise_cons.mp hb
   rw[lB] at h g
   have e:x=y:=by
    rcases List.mem_cons.mp (h x List.mem_cons_self) with e|e
    ·exact e
    ·rcases List.mem_cons.mp (g y List.mem_cons_self) with e'|e'
     ·exact e'.symm
     ·have:=b1 x e;have:=a1 y e';omega
   subst e
   rw[ih a2 b2 (lB.mpr λz hz=>?_) (lB.mpr λz hz=>?_)]
   ·rcases List.mem_cons.mp (h z (List.mem_cons_of_mem _ hz)) with e|e
    ·have:=a1 z hz;omega
    ·exact e
   ·rcases List.mem_cons.mp (g z (List.mem_cons_of_mem _ hz)) with e|e
    ·have:=b1 z hz;omega
    ·exact e
theorem qw {rs:List (List Int)} {p q:Nat}:fD rs p q=true↔sub (rs.getD p []) (rs.getD q [])=true/\(rs.getD q []=rs.getD p []->p<q):=by
 unfold fD
 rw[Bool.and_eq_true,Bool.or_eq_true,Bool.not_eq_true',decide_eq_false_iff_not,decide_eq_true_eq]
 exact and_congr_right λ_=>⟨λh e=>h.elim (λz=>absurd e z) id,λh=>(Classical.em _).elim (λe=>.inr (h e)) .inl⟩
theorem GH.up {rs:List (List Int)} (h:GH rs) (i:Nat):(rs.getD i []).Pairwise (· < ·):=by
 by_cases hi:i<rs.length
 ·exact(h.fC _ (List.mem_of_getElem? (getD_some (d:=[]) hi))).up
 ·rw[List.getD_eq_getElem?_getD,List.getElem?_eq_none (by omega)]
  exact .nil
theorem E8 {rs:List (List Int)} (h:GH rs):Or (fD rs) rs.length:=by
 constructor
 ·intro x
  rw[Bool.eq_false_iff]
  intro z
  have:=(qw.mp z).2 rfl
  omega
 ·intro x y z _ _ _ h1 h2
  obtain⟨s1,o1⟩:=qw.mp h1
  obtain⟨s2,o2⟩:=qw.mp h2
  refine qw.mpr ⟨O7 s1 s2,λe=>?_⟩
  have e1:rs.getD x []=rs.getD y []:=up_eq (h.up x) (h.up y) s1 (by rw[<- e];exact s2)
  have:=o1 e1.symm
  have:=o2 (e.trans e1)
  omega
theorem DH (a:List Int):∀b:List Int,nh (a.map D.int) (b.map D.int)=decide (a=b):=by
 induction a with
 |nil=>intro b;cases b<;>rfl
 |cons x r ih =>
  intro b
  cases b with
  |nil=>rfl
  |cons y t =>
   simp only[List.map_cons,nh,beq,ih]
   rw[Bool.eq_iff_iff]
   simp
theorem eqT {a b:List Int} {s:aa}:cQ (res (mD a) s) (res (mD b) s)=some (decide (a=b)):=by
 have l1:∀c:List Int,lay (mD c)=true:=λc=>by simp only[lay,mJ]
 have hd:dep (mD a)<=100:=by simp only[dep,xr];decide
 show cQ (mD a) (mD b)=_
 unfold cQ
 rw[if_neg (show ¬ (fy (.tup _)&&fy (.tup _))=true from Bool.false_ne_true),if_pos (by rw[l1,l1,decide_eq_true (Nat.le_trans (Nat.min_le_left _ _) hd)];rfl)]
 simp only[beq,DH]
theorem neT {a b:List Int} {s:aa}:cC (mD a) (mD b) s=ok (.bl (!decide (a=b))) s:=by
 unfold cC
 rw[eqT]
theorem Kv {rs:List (List Int)} (h:GH rs) {p q:Nat} (hp:p<rs.length) (hq:q<rs.length) {s:aa}:aI.tO [rD rs,.int p,.int q] s=ok (.bl (fD rs p q)) s:=by
 refine Wp.eq ?_
 unfold aI.tO
 simp only[VC,jA hp,jA hq,uh (h.at p),neT]
 unfold fD
 have e:decide ((p:Int)<q)=decide (p<q):=decide_eq_decide.mpr Int.ofNat_lt
 cases sub (rs.getD p []) (rs.getD q [])<;>cases decide (rs.getD q []=rs.getD p [])<;>simp[e]
end DI
namespace DI
open PySem L2
section
variable {E:Nat->Nat->Bool} {n:Nat} {a a':bj} {T:List Nat} {p q x:Nat}
structure Ek (E:Nat->Nat->Bool) (n:Nat) (a:bj):Prop where
 kn:(keys a).Nodup
 ed:∀q v,aT a q=some v->E v q=true/\v<n/\q<n
theorem Ek.put (h:Ek E n a) (e:E p q=true) (hp:p<n) (hq:q<n):Ek E n (cV a q p):=by
 refine⟨?_,λz v hz=>?_⟩
 ·rw[DD]
  split
  ·exact h.kn
  ·rename_i hn
   refine List.nodup_append.mpr ⟨h.kn,by simp,λx hx y hy=>?_⟩
   rw[List.mem_singleton.mp hy]
   exact λe=>hn (e ▸ hx)
 ·rw[mO] at hz
  split at hz
  ·rename_i e2;cases hz;rw[e2];exact⟨e,hp,hq⟩
  ·exact h.ed z v hz
theorem Ek.len (h:Ek E n a):a.length<=n:=by
 have:=ku (m:=List.range n) h.kn λq hq=>by
  obtain⟨pr,Uy,rfl⟩:=List.mem_map.mp hq
  exact List.mem_range.mpr (h.ed pr.1 pr.2 (uR h.kn Uy)).2.2
 rw[List.length_map,List.length_range] at this
 exact this
structure Good (E:Nat->Nat->Bool) (n:Nat) (a:bj) (T:List Nat) (p:Nat) (a':bj):Prop where
 ek:Ek E n a'
 vp:(vals a').Perm (p::vals a)
 kp:∀q∈T,aT a' q=aT a q
 cl:∀S,Cl E n a S->(¬ ∀r,r<n->E p r=true->r∈S)/\∀q∈S,aT a' q=aT a q
theorem Good.free (h:Ek E n a) (hg:aT a q=none) (e:E p q=true) (hp:p<n) (hq:q<n) (hT:q∉T):Good E n a T p (cV a q p):=by
 refine⟨h.put e hp hq,?_,λz hz=>?_,λS hS=>?_⟩
 ·rw[Nk hg]
  show ((a++[(q,p)]).map _).Perm _
  rw[List.map_append]
  exact List.perm_append_singleton p (vals a)
 ·rw[mO,if_neg (λ(w:z=q)=>hT (w ▸ hz))]
 ·have hn:q∉S:=λw=>by
   obtain⟨y,hy,_⟩:=hS q w
   rw[hg] at hy
   cases hy
  exact⟨λw=>hn (w q hq e),λz hz=>by rw[mO,if_neg (λ(w:z=q)=>hn (w ▸ hz))]⟩
theorem Good.more {T1:List Nat} (g:Good E n a T1 x a') (hg:aT a q=some x) (e:E p q=true) (hp:p<n) (hq:q<n) (h1:q∈T1) (hs:∀z∈T,z∈T1) (hT:q∉T):Good E n a T p (cV a' q p):=by
 refine⟨g.ek.put e hp hq,?_,λz hz=>?_,λS hS=>?_⟩
 ·have h2:aT a' q=some x:=by rw[g.kp q h1];exact hg
  have v:=(LU (v:=p) h2).trans ((g.vp.cons p).trans (List.Perm.swap x p _))
  exact v.cons_inv
 ·rw[mO,if_neg (λ(w:z=q)=>hT (w ▸ hz))]
  exact g.kp z (hs z hz)
 ·obtain⟨c1,c2⟩:=g.cl S hS
  have hn:q∉S:=λw=>by
   obtain⟨y,hy,hc⟩:=hS q w
   rw[hg] at hy
   cases hy
   exact c1 hc
  exact⟨λw=>hn (w q hq e),λz hz=>by rw[mO,if_neg (λ(w:z=q)=>hn (w ▸ hz))];exact c2 z hz⟩
structure Hj (E:Nat->Nat->Bool) (n:Nat) (a:bj) (T:List Nat) (i p:Nat) (T':List Nat):Prop where
 s:∀q∈T,q∈T'
 nd:T'.Nodup
 lt:∀q∈T',q<n
 nb:∀r,r<i->E p r=true->r∈T'
 c:∀q∈T',q∉T->∃x,aT a q=some x/\∀r,r<n->E x r=true->r∈T'
end
section
variable {s:aa} {k:Nat} {a:bj} {T:List Nat} {q p x:Nat}
theorem mS {ai:List (Key×D)} (h:s[k]?=some (.dK ai)):jY (.ar k) s=some ai:=by unfold jY;simp only[h]
theorem Sg (h:s[k]?=some (.dK (fc T))):kr (.int q) (.ar k) s=ok (.bl (!decide (q∈T))) s:=by
 unfold kr
 rw[mS h]
 show ok (D.bl (!(fO (fc T) (Sum.inl (q:Int))).isSome)) s=_
 rw[Nm]
theorem Uz (h:s[k]?=some (.dK (enc a))):oU (.int q) (.ar k) s=ok (.bl (aT a q).isSome) s:=by
 unfold oU
 rw[mS h]
 show ok (D.bl (fO (enc a) (Sum.inl (q:Int))).isSome) s=_
 rw[yg,Option.isSome_map]
theorem Gr (h:s[k]?=some (.dK (enc a))):kr (.int q) (.ar k) s=ok (.bl (!(aT a q).isSome)) s:=by
 unfold kr
 rw[mS h]
 show ok (D.bl (!(fO (enc a) (Sum.inl (q:Int))).isSome)) s=_
 rw[yg,Option.isSome_map]
theorem Gs (h:s[k]?=some (.dK (enc a))) (e:aT a q=some x):m6 (.ar k) (.int q) s=ok (.int x) s:=by
 unfold m6
 rw[mS h]
 show bE (fO (enc a) (Sum.inl (q:Int))) s=_
 rw[yg,e]
 rfl
theorem z3 (h:s[k]?=some (.dK (fc T))) (hq:q∉T) (hl:T.length<=9):putD (.ar k) (.int q) (.bl true) s=some (s.set k (.dK (fc (T++[q])))):=by
 unfold putD
 rw[mS h]
 show (if (fc T).length<sizeLine then some (s.set k (.dK (eV (fc T) (Sum.inl (q:Int)) (.bl true)))) else none)=_
 rw[if_pos (Nat.lt_of_le_of_lt (show _<=9 by rw[List.length_map];exact hl) (by decide)),Nn hq]
theorem rP (h:s[k]?=some (.dK (enc a))) (nd:(keys a).Nodup) (hl:a.length<=9):putD (.ar k) (.int q) (.int p) s=some (s.set k (.dK (enc (cV a q p)))):=by
 unfold putD
 rw[mS h]
 show (if (enc a).length<sizeLine then some (s.set k (.dK (eV (enc a) (Sum.inl (q:Int)) (.int p)))) else none)=_
 rw[if_pos (Nat.lt_of_le_of_lt (show _<=9 by rw[List.length_map];exact hl) (by decide)),Ej a nd]
theorem yh {f fo fi:Env->aa->Res D} {env:Env} {QF:Fl->aa->Prop}:Wp (rM f fo fi env s) QF=Wp (f env s) λx s=>Wp (fo env s) λd s=>Wp (fi env s) λn s=>∃s',putD d n x s=some s'/\QF (.nx env) s':=by
 unfold rM
 simp only[bG]
 congr 1;funext x s;congr 1;funext d s;congr 1;funext i s
 refine propext ⟨λh=>?_,λ⟨s',e,q⟩=>by rw[e];exact Wp.ok q⟩
 cases e:putD d i x s with
 |none=>rw[e] at h;obtain⟨_,_,z,_⟩:=h;cases z
 |some s'=>rw[e,wp_ok] at h;exact⟨s',rfl,h⟩
end
structure FS (s0 s:aa) (ha ht:Nat) (a:bj) (T:List Nat):Prop where
 a:s[ha]?=some (.dK (enc a))
 t:s[ht]?=some (.dK (fc T))
 o:∀j,j≠ha->j≠ht->s[j]?=s0[j]?
theorem FS.z3 {s0 s:aa} {ha ht:Nat} {a:bj} {T T':List Nat} (h:FS s0 s ha ht a T) (bz:ha≠ht):FS s0 (s.set ht (.dK (fc T'))) ha ht a T' :=
 ⟨by rw[List.getElem?_set_ne (Ne.symm bz)];exact h.a,List.getElem?_set_self (List.getElem?_eq_some_iff.mp h.t).1,λj h1 h2=>by rw[List.getElem?_set_ne (Ne.symm h2)];exact h.o j h1 h2⟩
theorem FS.rP {s0 s:aa} {ha ht:Nat} {a a':bj} {T:List Nat} (h:FS s0 s ha ht a T) (bz:ha≠ht):FS s0 (s.set ha (.dK (enc a'))) ha ht a' T :=
 ⟨List.getElem?_set_self (List.getElem?_eq_some_iff.mp h.a).1,by rw[List.getElem?_set_ne bz];exact h.t,λj h1 h2=>by rw[List.getElem?_set_ne (Ne.symm h1)];exact h.o j h1 h2⟩
theorem FS.trans {s0 s1 s2:aa} {ha ht:Nat} {a a':bj} {T T':List Nat} (h:FS s0 s1 ha ht a T) (g:FS s1 s2 ha ht a' T'):FS s0 s2 ha ht a' T':=⟨g.a,g.t,λj h1 h2=>(g.o j h1 h2).trans (h.o j h1 h2)⟩
theorem Nt {rs:List (List Int)} (h:GH rs) {ha ht:Nat} (bz:ha≠ht) {a:bj} (ek:Ek (fD rs) rs.length a):∀(fuel:Nat) {T:List Nat} {p:Nat} {s:aa},T.Nodup->(∀q∈T,q<rs.length)->p<rs.length->rs.length+1<=fuel+T.length->s[ha]?=some (.dK (enc a))->s[ht]?=some (.dK (fc T)) ->
  Wp (aI.qc fuel [rD rs,.int p,.ar ha,.ar ht] s) λd s'=>∃b a' T',d=.bl b/\FS s s' ha ht a' T'/\(b=false->a'=a/\Hj (fD rs) rs.length a T rs.length p T')/\(b=true->Good (fD rs) rs.length a T p a'):=by
 intro fuel
 have hi:=h.hi
 have le:∀{T:List Nat},T.Nodup->(∀q∈T,q<rs.length)->T.length<=rs.length:=λ{T} h1 h2=>by
  have:=ku (m:=List.range rs.length) h1 λq hq=>List.mem_range.mpr (h2 q hq)
  rw[List.length_range] at this
  exact this
 induction fuel with
 |zero=>intro T p s h1 h2 _ hf;have:=le h1 h2;omega
 |succ fuel ih =>
  intro T p s h1 h2 hp hf e1 e2
  unfold aI.qc
  simp only[VC]
  refine Wp.of (iX (s1:=s) (n:=rs.length) (Wp.eq (by simp only[VC,iI,and_self])) (by omega)) ?_
  refine Wp.jo (λi env s'=>∃T' x,env=[some (rD rs),some (.int p),some (.ar ha),some (.ar ht),x]/\FS s s' ha ht a T'/\Hj (fD rs) rs.length a T i p T') _ ⟨T,none,rfl,⟨e1,e2,λ_ _ _=>rfl⟩,⟨λ_ z=>z,h1,h2,λr hr=>by omega,λq hq hn=>absurd hq hn⟩⟩ (λi d env s' hd hI=>?_) (λenv s' hI=>?_)
  ·obtain⟨T',x,rfl,F,B⟩:=hI
   rw[kz] at hd
   split at hd
   ·rename_i ki
    cases hd
    refine⟨_,rfl,?_⟩
    rw[Int.zero_add]
    have lT:=le B.nd B.lt
    simp only[VC,Sg F.t]
    by_cases hT:i∈T'
    ·rw[decide_eq_true hT]
     refine⟨T',_,rfl,F,B.s,B.nd,B.lt,λr hr he=>?_,B.c⟩
     rcases Nat.lt_succ_iff_lt_or_eq.mp hr with l|l
     ·exact B.nb r l he
     ·rw[l];exact hT
    ·rw[decide_eq_false hT]
     simp only[VC,Bool.not_false,if_true,Kv h hp ki]
     cases he:fD rs p i with
     |false =>
      refine⟨T',_,rfl,F,B.s,B.nd,B.lt,λr hr lp=>?_,B.c⟩
      rcases Nat.lt_succ_iff_lt_or_eq.mp hr with l|l
      ·exact B.nb r l lp
      ·rw[l,he] at lp;cases lp
     |true =>
      simp only[VC,if_true,yh]
      refine⟨_,z3 F.t hT (by omega),?_⟩
      have F1:=F.z3 (T':=T'++[i]) bz
      generalize s'.set ht (.dK (fc (T'++[i])))=s1 at F1
      have bN:(T'++[i]).Nodup:=List.nodup_append.mpr ⟨B.nd,by simp,λx hx y hy e=>hT (by rw[List.mem_singleton.mp hy] at e;exact e ▸ hx)⟩
      have UA:∀q∈T'++[i],q<rs.length:=λq hq=>(List.mem_append.mp hq).elim (B.lt q) λz=>by rw[List.mem_singleton.mp z];exact ki
      have nT:i∉T:=λz=>hT (B.s i z)
      simp only[VC,Gr F1.a]
      cases hg:aT a i with
      |none =>
       simp only[VC,Option.isSome_none,Bool.not_false,if_true,yh]
       refine⟨_,rP F1.a ek.kn (by have:=ek.len;omega),?_⟩
       exact⟨true,_,_,rfl,F1.rP bz,λz=>(by cases z),λ_=>Good.free ek hg he hp ki nT⟩
      |some x =>
       simp only[VC,Option.isSome_some,Bool.not_true,Bool.false_eq_true,if_false,Gs F1.a hg]
       have hx:=ek.ed i x hg
       have ll:T.length<=T'.length:=ku h1 B.s
       refine(ih (T:=T'++[i]) (p:=x) bN UA hx.2.1 (by rw[List.length_append,List.length_singleton];omega) F1.a F1.t).mono λd s2 hd=>?_
       obtain⟨b,a',T2,rfl,F2,hb,jx⟩:=hd
       simp only[VC]
       cases b with
       |true =>
        have G:=jx rfl
        simp only[VC,if_true,yh]
        refine⟨_,rP F2.a G.ek.kn (by have:=G.ek.len;omega),?_⟩
        exact⟨true,_,_,rfl,(F1.trans F2).rP bz,λz=>(by cases z),λ_=>G.more hg he hp ki (by simp) (λz hz=>List.mem_append_left _ (B.s z hz)) nT⟩
       |false =>
        obtain⟨rfl,B2⟩:=hb rfl
        simp only[VC,Bool.false_eq_true,if_false]
        refine⟨T2,_,rfl,F1.trans F2,λz hz=>B2.s z (List.mem_append_left _ (B.s z hz)),B2.nd,B2.lt,λr hr lp=>?_,λq hq hn=>?_⟩
        ·rcases Nat.lt_succ_iff_lt_or_eq.mp hr with l|l
         ·exact B2.s r (List.mem_append_left _ (B.nb r l lp))
         ·exact B2.s r (by rw[l];simp)
        ·by_cases q1:q∈T'
         ·obtain⟨y,hy,hc⟩:=B.c q q1 hn
          exact⟨y,hy,λr hr lp=>B2.s r (List.mem_append_left _ (hc r hr lp))⟩
         ·by_cases q2:q=i
          ·subst q2
           exact⟨x,hg,λr hr lp=>B2.nb r hr lp⟩
          ·exact B2.c q hq λz=>(List.mem_append.mp z).elim q1 λw=>q2 (List.mem_singleton.mp w)
   ·cases hd
  ·obtain⟨T',x,rfl,F,B⟩:=hI
   rw[iV] at B
   simp only[VC]
   exact⟨false,a,T',rfl,F,λ_=>⟨rfl,B⟩,λz=>by cases z⟩
end DI
namespace DI
open PySem L2
def Kp (s s':aa):Prop:=∀j,j<s.length->s'[j]?=s[j]?
theorem Kp.refl (s:aa):Kp s s:=λ_ _=>rfl
theorem Kp.len {s s':aa} (h:Kp s s'):s.length<=s'.length:=by
 cases hs:s.length with
 |zero=>exact Nat.zero_le _
 |succ m =>
  have:=h m (by omega)
  rw[List.getElem?_eq_getElem (show m<s.length by omega)] at this
  exact(List.getElem?_eq_some_iff.mp this).1
theorem Kp.trans {a b c:aa} (h:Kp a b) (g:Kp b c):Kp a c:=λj hj=>(g j (Nat.lt_of_lt_of_le hj h.len)).trans (h j hj)
theorem Kp.app (s c:aa):Kp s (s++c):=λj hj=>List.getElem?_append_left hj
theorem Kp.get {s s':aa} (h:Kp s s') {k:Nat} {c:Cell} (e:s[k]?=some c):s'[k]?=some c:=by rw[h k (List.getElem?_eq_some_iff.mp e).1];exact e
theorem Kp.sf {s s':aa} {k:Nat} (h:Kp s s') (g:Sf s k):Sf s' k:=by
 obtain⟨a,b,e,r⟩:=g
 exact⟨a,b,h.get e,r⟩
theorem Em {env:Env} {s:aa} {Q:D->aa->Prop}:Wp (qX env s) Q=Q (.ar s.length) (s++[.dK []]):=by unfold qX;rw[wp_ok]
structure wY (rs:List (List Int)) (s s1:aa) (i:Nat) (a:bj) (S:List Nat):Prop where
 at_:s1[s.length]?=some (.dK (enc a))
 kp:Kp s s1
 ek:Ek (fD rs) rs.length a
 vn:(vals a).Nodup
 vl:∀u∈vals a,u<i
 cl:Cl (fD rs) rs.length a S
 f:∀u,u<i->u∉vals a->∀r,r<rs.length->fD rs u r=true->r∈S
theorem wY.st {rs:List (List Int)} {s s1:aa} {a:bj} {S:List Nat} (h:wY rs s s1 rs.length a S):St (fD rs) rs.length a S :=
 ⟨⟨h.ek.kn,h.vn,λq p hm=>h.ek.ed q p (uR h.ek.kn hm)⟩,h.cl,h.f⟩
theorem LV {rs:List (List Int)} (h:GH rs) {s:aa}:Wp (aI.tH [rD rs] s) λd s'=>∃a S,d=.ar s.length/\wY rs s s' rs.length a S:=by
 have hi:=h.hi
 unfold aI.tH
 simp only[VC,Em]
 refine Wp.of (iX (s1:=s++[.dK []]) (n:=rs.length) (Wp.eq (by simp only[VC,iI,and_self])) (by omega)) ?_
 refine Wp.jo (λi env s1=>∃a S x,env=[some (rD rs),some (.ar s.length),x]/\wY rs s s1 i a S) _ ⟨[],[],none,rfl,by simp[enc],Kp.app _ _,⟨List.nodup_nil,λq v hq=>(by cases hq)⟩,List.nodup_nil,λu hu=>absurd hu List.not_mem_nil,λq hq=>absurd hq List.not_mem_nil,λu hu=>by omega⟩ (λi d env s1 hd hI=>?_) (λenv s1 hI=>?_)
 ·obtain⟨a,S,x,rfl,P⟩:=hI
  rw[kz] at hd
  split at hd
  ·rename_i ki
   cases hd
   refine⟨_,rfl,?_⟩
   rw[Int.zero_add]
   simp only[VC,Em]
   have hl:=(List.getElem?_eq_some_iff.mp P.at_).1
   refine(Nt h (ha:=s.length) (ht:=s1.length) (by omega) P.ek 12 (T:=[]) List.nodup_nil (λq hq=>absurd hq List.not_mem_nil) ki (by rw[List.length_nil];omega) ((Kp.app _ _).get P.at_) (by simp[fc])).mono λd s2 hd=>?_
   obtain⟨b,a',T',rfl,F,hb,hg⟩:=hd
   have K2:Kp s s2:=λj hj=>by rw[F.o j (by omega) (by omega),List.getElem?_append_left (by omega)];exact P.kp j hj
   cases b with
   |false =>
    obtain⟨rfl,B⟩:=hb rfl
    refine⟨a',S++T',_,rfl,F.a,K2,P.ek,P.vn,λu hu=>Nat.lt_succ_of_lt (P.vl u hu),λq hq=>?_,λu hu hn r hr he=>?_⟩
    ·rcases List.mem_append.mp hq with hq|hq
     ·obtain⟨y,hy,hc⟩:=P.cl q hq
      exact⟨y,hy,λr hr he=>List.mem_append_left _ (hc r hr he)⟩
     ·obtain⟨y,hy,hc⟩:=B.c q hq List.not_mem_nil
      exact⟨y,hy,λr hr he=>List.mem_append_right _ (hc r hr he)⟩
    ·rcases Nat.lt_succ_iff_lt_or_eq.mp hu with l|l
     ·exact List.mem_append_left _ (P.f u l hn r hr he)
     ·subst l;exact List.mem_append_right _ (B.nb r hr he)
   |true =>
    have G:=hg rfl
    obtain⟨c1,c2⟩:=G.cl S P.cl
    refine⟨a',S,_,rfl,F.a,K2,G.ek,?_,λu hu=>?_,λq hq=>?_,λu hu hn r hr he=>?_⟩
    ·exact G.vp.nodup_iff.mpr (List.nodup_cons.mpr ⟨λz=>Nat.lt_irrefl _ (P.vl i z),P.vn⟩)
    ·rcases List.mem_cons.mp (G.vp.mem_iff.mp hu) with e|e
     ·rw[e];exact Nat.lt_succ_self _
     ·exact Nat.lt_succ_of_lt (P.vl u e)
    ·rw[c2 q hq];exact P.cl q hq
    ·have wq:u∉i::vals a:=λz=>hn (G.vp.mem_iff.mpr z)
     rw[List.mem_cons,not_or] at wq
     exact P.f u (by omega) wq.2 r hr he
  ·cases hd
 ·obtain⟨a,S,x,rfl,P⟩:=hI
  rw[iV] at P
  simp only[VC]
  exact⟨a,S,P⟩
theorem FN {s:aa} {k:Nat} {ds:List D} {x:D} (h:s[k]?=some (.lst (ds++[x]))):aD (.ar k) (.int (-1)) s=ok x s:=by
 unfold aD la res
 simp only[h,KR]
 rfl
section
variable {E:Nat->Nat->Bool} {n:Nat} {a:bj}
theorem Nu (O:Or E n) (M:Mt E n a) (hn:n<=9) {e0:Option D} {hd hl:Nat} (bz:hl≠hd):∀p,p<n->∀(fuel:Nat) (acc:List Nat) (s:aa),n<fuel+rank E n p->acc.length<=rank E n p->s[hl]?=some (.lst ((acc++[p]).map λp:Nat=>D.int p))->s[hd]?=some (.dK (enc (rv a))) ->
  Wp (lN (ba (e2 oU (e2 aD (ab 2) (e1 i9 (eC (.int 1)))) (ab 1))) (fj (jl (ab 2) (e2 m6 (ab 1) (e2 aD (ab 2) (e1 i9 (eC (.int 1))))))) fuel [e0,some (.ar hd),some (.ar hl)] s) λfl s'=>fl=.nx [e0,some (.ar hd),some (.ar hl)]/\s'[hl]?=some (.lst ((acc++row n a p).map λp:Nat=>D.int p))/\∀j,j≠hl->s'[j]?=s[j]?:=by
 refine El O M (λp hp hb=>?_) λp q hp hq he hb ih=>?_
 all_goals
  intro fuel acc s hf ha e1 e2
  have hr:=u7 O hp
  obtain⟨fuel,rfl⟩:∃f,fuel=f+1:=⟨fuel-1,by omega⟩
  have Bc:=e1
  rw[List.map_append] at Bc
  unfold lN
  rw[bG]
  simp only[VC]
  refine Wp.of (show i9 (.int 1) s=ok (.int (-1)) s from rfl) ?_
  refine Wp.of (FN Bc) ?_
  simp only[VC,Uz e2,hb,Option.isSome_none,Option.isSome_some,Bool.false_eq_true,if_false,if_true]
 ·rw[DE O M hp hb]
  exact⟨e1,λ_ _=>trivial⟩
 ·rw[bG]
  simp only[VC]
  refine⟨by unfold jW;simp only[e1],?_⟩
  refine Wp.of (show i9 (.int 1) s=ok (.int (-1)) s from rfl) ?_
  refine Wp.of (FN Bc) ?_
  rw[Gs e2 hb]
  simp only[VC]
  refine Wp.of (show hU (.ar hl) (.int q) s=ok .ay (s.set hl (.lst (((acc++[p])++[q]).map λp:Nat=>D.int p))) from ?_) ?_
  ·unfold hU
   have aU:((acc++[p]).map λp:Nat=>D.int p).length<sizeLine:=Nat.lt_of_le_of_lt (show _<=1000000 by rw[List.length_map,List.length_append,List.length_singleton];omega) (by decide)
   simp only[e1,decide_eq_true aU,if_true]
   rw[List.map_append (l₁:=acc++[p])]
   rfl
  ·have hlen:=(List.getElem?_eq_some_iff.mp e1).1
   have rk:=lD O hp hq he
   refine(ih fuel (acc++[p]) _ (by omega) (by rw[List.length_append,List.length_singleton];omega) (List.getElem?_set_self hlen) (by rw[List.getElem?_set_ne bz];exact e2)).mono λfl s' hd=>?_
   obtain⟨rfl,h1,h2⟩:=hd
   refine⟨rfl,?_,λj hj=>by rw[h2 j hj,List.getElem?_set_ne (Ne.symm hj)]⟩
   rw[DF O M hp hb,h1,List.append_assoc]
   rfl
theorem Nv (O:Or E n) (M:Mt E n a) (hn:n<=9) {p hd:Nat} {s:aa} (hp:p<n) (e2:s[hd]?=some (.dK (enc (rv a)))):Wp (aI.t6 [.int p,.ar hd] s) λd s'=>d=pD (row n a p)/\Kp s s':=by
 have aU:=(List.getElem?_eq_some_iff.mp e2).1
 unfold aI.t6
 simp only[VC]
 refine⟨by decide,?_⟩
 unfold vH
 refine(Nu O M hn (e0:=some (.int p)) (hd:=hd) (hl:=s.length) (by omega) p hp 20 [] (s++[.lst [.int p]]) (by omega) (Nat.zero_le _) (by simp) ((Kp.app _ _).get e2)).mono λfl s' h=>?_
 obtain⟨rfl,h1,h2⟩:=h
 simp only[VC]
 refine Wp.of (show fg [.ar s.length] s'=ok (pD (row n a p)) s' from ?_) ⟨rfl,λj hj=>?_⟩
 ·unfold fg res
  simp only[h1]
  rfl
 ·rw[h2 j (by omega)]
  exact Kp.app _ _ j hj
end
theorem Nw (a:bj):∀acc:bj,(keys acc).Nodup->(enc a).foldl kT (enc acc)=enc (a.foldl (λacc p=>cV acc p.2 p.1) acc):=by
 induction a with
 |nil=>intro acc _;rfl
 |cons p r ih =>
  intro acc h
  rw[show enc (p::r)=(Sum.inl (p.1:Int),D.int p.2)::enc r from rfl,List.foldl_cons,List.foldl_cons]
  rw[show kT (enc acc) (Sum.inl (p.1:Int),D.int p.2)=eV (enc acc) (Sum.inl (p.2:Int)) (.int p.1) from rfl,Ej acc h]
  exact ih _ (Nq [p] acc (by exact(by
   exact h)))
theorem Nx (a:bj):((enc a).all λp=>sY p.2)=true:=by
 rw[List.all_map]
 exact List.all_eq_true.mpr λp _=>rfl
theorem Ny {rs:List (List Int)} (h:GH rs) (h1:1<=rs.length) {s:aa}:Wp (aI.qh [rD rs] s) λd s'=>∃a S,d=.tup ((starts rs.length a).map λx=>pD (row rs.length a x))/\St (fD rs) rs.length a S/\Kp s s':=by
 have hi:=h.hi
 have O:=E8 h
 unfold aI.qh
 simp only[VC,oy h h1]
 refine(LV h).mono λd s1 hd=>?_
 obtain⟨a,S,rfl,P⟩:=hd
 have T:=P.st
 have l1:=(List.getElem?_eq_some_iff.mp P.at_).1
 refine Wp.of (show y9 (ab 1) [some (rD rs),some (.ar s.length),none] s1=ok (.ar s1.length) (s1++[Cell.dK (enc (rv a))]) from ?_) ?_
 ·show (match jY (.ar s.length) s1 with
   |some ai=>if (ai.all λp=>sY p.2)=true then ok (D.ar s1.length) (s1++[Cell.dK (ai.foldl kT [])]) else none
   |none=>none)=_
  rw[mS P.at_]
  show (if ((enc a).all λp=>sY p.2)=true then ok (D.ar s1.length) (s1++[Cell.dK ((enc a).foldl kT [])]) else none)=_
  rw[if_pos (Nx a),show (enc a).foldl kT []=enc (rv a) from Nw a [] List.nodup_nil]
 ·have e1:(s1++[Cell.dK (enc (rv a))])[s.length]?=some (.dK (enc a)):=(Kp.app _ _).get P.at_
  have e2:(s1++[Cell.dK (enc (rv a))])[s1.length]?=some (.dK (enc (rv a))):=by simp
  have e3:Kp s (s1++[Cell.dK (enc (rv a))]):=P.kp.trans (Kp.app _ _)
  generalize s1++[Cell.dK (enc (rv a))]=s2 at e1 e2 e3
  generalize s1.length=hr at e2
  refine Wp.of (iX (s1:=s2) (n:=rs.length) (Wp.eq (by simp only[VC,iI,and_self])) (by omega)) ⟨le_size (by rw[iV];omega),?_⟩
  refine Wp.mono (Q:=λxs s'=>xs=((starts rs.length a).map λx=>pD (row rs.length a x))/\Kp s2 s') ?_ λxs s' hx=>?_
  ·refine Eg (λi acc s'=>acc=(((List.range i).filter λx=>decide (x∉keys a)).map λx=>pD (row rs.length a x))/\Kp s2 s') (bF 0 rs.length) ⟨rfl,Kp.refl _⟩ (λi d acc s' hd hI=>?_) λacc s' hI=>?_
   ·obtain⟨rfl,K⟩:=hI
    rw[kz] at hd
    split at hd
    ·rename_i ki
     cases hd
     refine⟨[some (.int (0+i)),some (.ar hr),some (.ar s.length)],rfl,?_⟩
     rw[Int.zero_add]
     simp only[VC,Gr (K.get e1)]
     have en:(!(aT a i).isSome)=decide (i∉keys a):=by
      cases hg:aT a i with
      |none=>exact(decide_eq_true (get_none.mp hg)).symm
      |some v=>exact(decide_eq_false λz=>by rw[get_none.mpr z] at hg;cases hg).symm
     rw[en,List.range_succ,List.filter_append,List.map_append,List.filter_cons]
     by_cases hk:decide (i∉keys a)=true
     ·rw[if_pos hk,if_pos hk]
      refine(Nv O T.m hi ki (K.get e2)).mono λd s3 hd=>?_
      obtain⟨rfl,K3⟩:=hd
      exact⟨rfl,K.trans K3⟩
     ·rw[if_neg hk,if_neg hk]
      exact⟨by simp,K⟩
    ·cases hd
   ·rw[iV] at hI
    exact hI
  ·obtain⟨rfl,K⟩:=hx
   exact Wp.of rfl ⟨a,S,rfl,T,e3.trans K⟩
end DI
namespace DI
open PySem L2
theorem JD {α:Type} (p:α->Bool) (l:List α):(l.filter λx=>!p x).isEmpty=l.all p:=by
 induction l with
 |nil=>rfl
 |cons x r ih =>
  rw[List.filter_cons,List.all_cons]
  cases p x
  ·rfl
  ·exact ih
theorem xu {a b:List Int} {s:aa} (hl:a.length<=1000000):aI.oj [mD a,mD b] s=ok (.bl (sub a b)) s:=by
 refine Wp.eq ?_
 unfold aI.oj
 simp only[VC]
 refine Wp.of (ik rfl) ⟨le_size (by rw[List.length_map];exact hl),?_⟩
 refine Wp.of (xt (λx=>!decide (x∈b)) D.int a λn _=>⟨[some (.int n),some (mD b)],rfl,Wp.eq (by simp only[VC,Jy,and_self]),λ_=>rfl⟩) ?_
 refine⟨by decide,?_⟩
 refine Wp.of FL ⟨?_,rfl⟩
 rw[JD]
 rfl
theorem Nz {rs:List (List Int)} (h:GH rs) {i j:Nat} {s:aa} (hi:i<rs.length) (hj:j<rs.length):aI.qt [rD rs,.int i,.int j] s=ok (.bl (dF (rs.getD j []) (rs.getD i []))) s:=by
 refine Wp.eq ?_
 unfold aI.qt
 simp only[VC,jA hi,jA hj,xu (h.at i),xu (h.at j)]
 unfold dF
 cases sub (rs.getD i []) (rs.getD j [])<;>simp
theorem O8 {ps:List Nat} {s:aa}:cg (.lst (ps.map λp:Nat=>D.int p)) (.lst []) s=ok (.bl ps.isEmpty) s:=by
 have:=FL (ns:=ps.map λp:Nat=>(p:Int)) (s:=s)
 rw[List.map_map] at this
 rw[show (ps.map λp:Nat=>D.int p)=ps.map (D.int ∘ λp:Nat=>(p:Int)) from rfl,this]
 cases ps<;>rfl
theorem NA {rs:List (List Int)} (k:Nat):∀ps∈cy rs k,ps.Pairwise (· < ·):=by
 induction k with
 |zero=>intro ps h;rw[List.mem_singleton.mp h];exact .nil
 |succ k ih =>
  intro ps h
  rcases List.mem_append.mp h with h|h
  ·exact ih ps h
  ·obtain⟨qs,hq,rfl⟩:=List.mem_map.mp h
   have hq:=(List.mem_filter.mp hq).1
   refine List.pairwise_append.mpr ⟨ih qs hq,List.pairwise_singleton _ _,λx hx y hy=>?_⟩
   rw[List.mem_singleton.mp hy]
   exact(ux k qs hq).2 x hx
structure Gu (rs:List (List Int)) (ps:List Nat):Prop where
 lt:∀x∈ps,x<rs.length
 up:ps.Pairwise (· < ·)
 tg:ps.Pairwise λx y=>dF (rs.getD x []) (rs.getD y [])=false
 ln:ps.length=mx rs
 le:ps.length<=rs.length
theorem NB (rs:List (List Int)):Gu rs (longest (cy rs rs.length)):=by
 obtain⟨z,zs,e⟩:=Ei rs rs.length
 have hm:longest (cy rs rs.length)∈cy rs rs.length:=by
  have:=(LS zs z).1
  rw[e]
  exact this
 have h1:=ux rs.length _ hm
 have h2:=(LR rs.length (Nat.le_refl _) _ hm).2
 unfold gB at h2
 rw[List.pairwise_map] at h2
 exact⟨h1.2,NA _ _ hm,h2,rfl,h1.1⟩
end DI
namespace DI
open PySem L2
noncomputable abbrev pI (ps:List Nat):List Int:=ps.map λp:Nat=>(p:Int)
theorem Sh (ps:List Nat):pD ps=mD (pI ps):=by
 show D.tup _=D.tup ((ps.map _).map _)
 rw[List.map_map]
 rfl
theorem Hk {a b:List Int} {s:aa}:cg (.lst (a.map D.int)) (.lst (b.map D.int)) s=ok (.bl (decide (a=b))) s:=by
 have l1:∀c:List Int,lay (.lst (c.map D.int))=true:=λc=>by simp only[lay,mJ]
 have hd:dep (.lst (a.map D.int))<=100:=by simp only[dep,xr];decide
 have e:cQ (.lst (a.map D.int)) (.lst (b.map D.int))=some (decide (a=b)):=by
  unfold cQ
  rw[if_neg (show ¬ (fy (.lst _)&&fy (.lst _))=true from Bool.false_ne_true),if_pos (by rw[l1,l1,decide_eq_true (Nat.le_trans (Nat.min_le_left _ _) hd)];rfl)]
  simp only[beq,DH]
 show (match cQ (.lst (a.map D.int)) (.lst (b.map D.int)) with|some b=>ok (D.bl b) s|none=>none)=_
 rw[e]
theorem O9 {ps:List Nat} {s:aa}:cC (.lst (ps.map λp:Nat=>D.int p)) (.lst []) s=ok (.bl (!ps.isEmpty)) s:=by
 have:=O8 (ps:=ps) (s:=s)
 unfold cg at this
 unfold cC
 cases hq:cQ (res (.lst (ps.map λp:Nat=>D.int p)) s) (res (.lst []) s) with
 |none=>rw[hq] at this;cases this
 |some b =>
  rw[hq] at this
  have e:b=ps.isEmpty:=by
   injection this with this
   injection this with this _
   injection this with this
   injection this
  rw[e]
theorem UB {ps:List Nat} {i x:Nat} {s:aa} (h:ps[i]?=some x):aD (pD ps) (.int i) s=ok (.int x) s:=oG (by rw[List.getElem?_map,h];rfl)
structure pX (rs:List (List Int)) (rows:List (List Nat)):Prop where
 ne:∀r∈rows,r≠[]
 lt:∀r∈rows,∀x∈r,x<rs.length
 up:∀r∈rows,r.Pairwise λx y=>sub (rs.getD x []) (rs.getD y [])=true
 pm:rows.flatten.Perm (List.range rs.length)
 ln:rows.length<=rs.length
theorem pX.flat {rs:List (List Int)} {rows:List (List Nat)} (h:pX rs rows):rows.flatten.length=rs.length:=by rw[h.pm.length_eq,List.length_range]
theorem pX.len {rs:List (List Int)} {rows:List (List Nat)} (h:pX rs rows) {r:List Nat} (hr:r∈rows):r.length<=rs.length:=by
 rw[<- h.flat]
 exact(List.sublist_flatten_of_mem hr).length_le
theorem Pa (n:Nat):bF 0 n=(pI (List.range n)).map D.int:=by
 rw[uP]
 unfold pI
 rw[List.map_map]
 exact List.map_congr_left λx _=>by show D.int (0+(x:Int))=D.int x;rw[Int.zero_add]
theorem FO {n:Nat} {s:aa} (h:n<=9):qE [.int n] s=ok (.lst ((pI (List.range n)).map D.int)) s:=by
 show (if (decide ((0:Int)<=n)&&decide ((n:Int)<=1000000))=true then ok (D.lst (bF 0 (n:Int).toNat)) s else none)=_
 rw[decide_eq_true (show (0:Int)<=n by omega),decide_eq_true (show (n:Int)<=1000000 by omega),Int.toNat_natCast,Pa]
 rfl
theorem za {R:Nat->Nat->Prop} {ps:List Nat} (h:ps.Pairwise R) {i j x y:Nat} (hi:ps[i]?=some x) (hj:ps[j]?=some y) (l:i<j):R x y:=by
 obtain⟨i1,e1⟩:=List.getElem?_eq_some_iff.mp hi
 obtain⟨j1,e2⟩:=List.getElem?_eq_some_iff.mp hj
 rw[<- e1,<- e2]
 exact List.pairwise_iff_getElem.mp h i j i1 j1 l
end DI
namespace DI
open PySem L2
theorem Pb {R:Nat->Nat->Prop} {ps:List Nat} (h:ps.Pairwise R) {p:Nat×Nat} (hp:p∈ps.zip (ps.drop 1)):R p.1 p.2/\p.1∈ps/\p.2∈ps:=by
 obtain⟨i,hi⟩:=List.getElem?_of_mem hp
 rw[List.getElem?_zip_eq_some,List.getElem?_drop] at hi
 exact⟨za h hi.1 hi.2 (by omega),List.mem_of_getElem? hi.1,List.mem_of_getElem? hi.2⟩
theorem LW (xs ys:List Nat):iE (xs.map λp:Nat=>D.int p) (ys.map λp:Nat=>D.int p)=(xs.zip ys).map λp=>D.tup [.int p.1,.int p.2]:=by
 unfold iE
 rw[List.zip_map,List.map_map]
 rfl
theorem Pc {rs:List (List Int)} (h:GH rs) {a:bj} {S:List Nat} (T:St (fD rs) rs.length a S):pX rs ((starts rs.length a).map (row rs.length a)):=by
 have O:=E8 h
 have sl:=JB T.m
 refine⟨λr hr=>?_,λr hr=>?_,λr hr=>?_,?_,by rw[List.length_map];omega⟩
 ·obtain⟨x,hx,rfl⟩:=List.mem_map.mp hr
  exact λe=>by have:=(dX O T.m x (fe hx)).2.1;rw[e] at this;cases this
 ·obtain⟨x,hx,rfl⟩:=List.mem_map.mp hr
  exact(dX O T.m x (fe hx)).1
 ·obtain⟨x,hx,rfl⟩:=List.mem_map.mp hr
  exact(dX O T.m x (fe hx)).2.2.1.imp λ{x y} z=>(qw.mp z).1
 ·exact Ku O T.m
end DI
namespace DI
open PySem L2
mutual
noncomputable def wt:D->Nat
 | .tup ds=>1+aN ds
 | .lst ds=>1+aN ds
 |_=>1
noncomputable def aN:List D->Nat
 | []=>0
 |d::ds=>wt d+aN ds
end
theorem Pd (d:D):1<=wt d:=by cases d<;>simp only[wt]<;>omega
theorem jI (ds:List D):ds.length<=aN ds:=by
 induction ds with
 |nil=>exact Nat.zero_le _
 |cons d ds ih=>have:=Pd d;simp only[aN,List.length_cons];omega
theorem yi {d:D} {ds:List D} (h:d∈ds):wt d<=aN ds:=by
 induction ds with
 |nil=>cases h
 |cons e ds ih =>
  simp only[aN]
  rcases List.mem_cons.mp h with z|z
  ·rw[z];omega
  ·have:=ih z;omega
theorem qf {d:D} {ds:List D} (h:eI ds=true) (hd:d∈ds):plain d=true:=by
 induction ds with
 |nil=>cases hd
 |cons e ds ih =>
  simp only[eI,Bool.and_eq_true] at h
  rcases List.mem_cons.mp hd with z|z
  ·rw[z];exact h.1
  ·exact ih h.2 z
noncomputable def fE:D->Bool
 | .tup _=>true
 |_=>false
theorem iy {d:D} {s:aa} (h:plain d=true):bh [d,.ty "tuple"] s=ok (.bl (fE d)) s:=by
 cases d<;>first|rfl | (simp[plain] at h)
noncomputable def dU (n:Nat):D->Bool
 | .int i=>decide (0<=i)&&decide (i<n)
 |_=>false
theorem Kw {d:D} {n:Nat} {s:aa} (h:plain d=true):jE [d,.int n] s=ok (.bl (dU n d)) s:=by
 have no:∀d:D,bh [d,.ty "int"] s=ok (.bl false) s->jE [d,.int n] s=ok (.bl false) s:=λd h=>by
  refine Wp.eq ?_
  unfold jE qe
  simp only[VC,h,Bool.false_eq_true,if_false,and_self]
 cases d with
 |int i=>exact qi
 |bl b =>
  refine Wp.eq ?_
  unfold jE qe
  simp only[VC]
  refine Wp.of (show bh [.bl b,.ty "int"] s=ok (.bl true) s from rfl) ?_
  simp only[VC,if_true]
  refine Wp.of (show bh [.bl b,.ty "bool"] s=ok (.bl true) s from rfl) ?_
  simp only[VC,Bool.not_true,Bool.false_eq_true,if_false]
  exact⟨rfl,trivial⟩
 |ay=>exact no _ rfl
 |str x=>exact no _ rfl
 |tup ds=>exact no _ rfl
 |lst ds=>exact no _ rfl
 |aY ai=>exact no _ rfl
 |ar k=>simp[plain] at h
 |ty k=>simp[plain] at h
 |bS k=>simp[plain] at h
noncomputable def places (n:Nat):D->Bool
 | .tup ds=>ds.all (dU n)
 |_=>false
theorem ui {rs:List (List Int)} {d:D} {s:aa} (h:plain d=true) (hw:wt d<=60):aI.mE [rD rs,d] s=ok (.bl (places rs.length d)) s:=by
 have no:fE d=false->aI.mE [rD rs,d] s=ok (.bl false) s:=λe=>by
  refine Wp.eq ?_
  unfold aI.mE
  simp only[VC,iy h,e,Bool.false_eq_true,if_false,and_self]
 cases d with
 |tup ds =>
  simp only[wt] at hw
  have hl:=jI ds
  have hp:eI ds=true:=by simpa only [plain] using h
  refine Wp.eq ?_
  unfold aI.mE
  simp only[VC,iy h,fE,if_true]
  refine Wp.of (ik rfl) ⟨le_size (by omega),?_⟩
  have cm:=comp_map (λd:D=>d) (nt:=1) (caps:=[some (rD rs)]) (g:=gN 0) (t:=dI) (f:=aB jE (ae (ab 0) (ae (eB bb (ae (ab 1) ag)) ag))) (s:=s) (λ_=>true) (λd=>.bl (dU rs.length d)) ds λx hx=>⟨[some x,some (rD rs)],rfl,rfl,λ_=>Wp.eq (by simp only[VC,iI,Kw (qf hp hx),and_self])⟩
  rw[List.map_id'] at cm
  refine Wp.of cm ?_
  rw[filter_tt]
  exact Wp.of (lC _ _ _) ⟨rfl,rfl⟩
 |_=>exact no rfl
theorem uT {n:Nat} {ds:List D} (h:ds.all (dU n)=true):∃ps:List Nat,ds=ps.map (λp:Nat=>D.int p)/\∀p∈ps,p<n:=by
 induction ds with
 |nil=>exact⟨[],rfl,λp hp=>by cases hp⟩
 |cons d ds ih =>
  rw[List.all_cons,Bool.and_eq_true] at h
  obtain⟨ps,rfl,hl⟩:=ih h.2
  cases d with
  |int i =>
   have h1:=h.1
   simp only[dU,Bool.and_eq_true,decide_eq_true_eq] at h1
   obtain⟨p,rfl⟩:=Int.eq_ofNat_of_zero_le h1.1
   exact⟨p::ps,rfl,λq hq=>(List.mem_cons.mp hq).elim (λe=>by rw[e];omega) (hl q)⟩
  |_=>cases h.1
noncomputable def natOf:D->Nat
 | .int i=>i.toNat
 |_=>0
theorem uz (ps:List Nat):(ps.map λp:Nat=>D.int p).map natOf=ps:=by
 rw[List.map_map]
 calc ps.map _=ps.map id:=List.map_congr_left λp _=>by show (p:Int).toNat=p;exact Int.toNat_natCast p
  _=ps:=List.map_id _
noncomputable def chain (rs:List (List Int)) (ps:List Nat):Bool:=(ps.zip (ps.drop 1)).all λp=>sub (rs.getD p.1 []) (rs.getD p.2 [])
noncomputable def cz (rs:List (List Int)) (d:D):Bool:=places rs.length d&&match d with
 | .tup ds=>!ds.isEmpty&&chain rs (ds.map natOf)
 |_=>false
theorem NC {rs:List (List Int)} {d:D} {s:aa} (g:GH rs) (h:plain d=true) (hw:wt d<=60):aI.oq [rD rs,d] s=ok (.bl (cz rs d)) s:=by
 have hi:=g.hi
 cases hp:places rs.length d with
 |false =>
  have e:cz rs d=false:=by unfold cz;rw[hp];rfl
  rw[e]
  refine Wp.eq ?_
  unfold aI.oq
  simp only[VC,ui h hw,hp,Bool.false_eq_true,if_false,and_self]
 |true =>
  cases d with
  |tup ds =>
   simp only[wt] at hw
   have hl:=jI ds
   obtain⟨ps,rfl,lt⟩:=uT hp
   rw[List.length_map] at hl
   have e:cz rs (pD ps)=(decide ((ps.length:Int) > 0)&&chain rs ps):=by
    unfold cz
    rw[hp]
    show (true&&(!(ps.map λp:Nat=>D.int p).isEmpty&&chain rs ((ps.map λp:Nat=>D.int p).map natOf)))=_
    rw[uz]
    cases ps with
    |nil=>rfl
    |cons a r=>rw[decide_eq_true (show (((a::r).length:Nat):Int) > 0 by rw[List.length_cons];omega)];rfl
   rw[show D.tup (ps.map λp:Nat=>D.int p)=pD ps from rfl] at h hp |-
   rw[e]
   refine Wp.eq ?_
   unfold aI.oq
   simp only[VC,ui h (show wt (pD ps)<=60 by simp only[wt];omega),hp,if_true,vW]
   cases hz:decide ((ps.length:Int) > 0) with
   |false=>simp only[VC,Bool.false_eq_true,if_false,Bool.false_and,and_self]
   |true =>
    simp only[VC,if_true,Bool.true_and]
    refine Wp.of (Dz (xs:=ps.map λp:Nat=>D.int p) (ys:=(ps.map λp:Nat=>D.int p).drop 1) (s1:=s) (Wp.eq ?_)) ?_
    ·rw[wp_aCons,wp_locS,wp_loc0,wp_aCons,uQ (xs:=ps.map λp:Nat=>D.int p) (k:=1) rfl rfl]
     simp only[VC,and_self]
    ·rw[<- List.map_drop,LW]
     refine⟨le_size (by rw[List.length_map,List.length_zip];omega),?_⟩
     refine Wp.of (comp_map (λp:Nat×Nat=>D.tup [.int p.1,.int p.2]) (λ_=>true) (λp=>.bl (sub (rs.getD p.1 []) (rs.getD p.2 []))) _ λp hp=>⟨[some (.int p.1),some (.int p.2),some (rD rs)],rfl,rfl,λ_=>?_⟩) ?_
     ·obtain⟨_,m1,m2⟩:=Pb (R:=λ_ _=>True) (List.pairwise_of_forall λ_ _=>trivial) hp
      refine Wp.eq ?_
      simp only[VC,jA (lt _ m1),jA (lt _ m2),uh (g.at _),and_self]
     ·rw[filter_tt]
      exact Wp.of (lC _ _ _) ⟨rfl,rfl⟩
  |_=>cases hp
end DI
namespace DI
open PySem L2
noncomputable def itemsOf:D->List D
 | .tup es=>es
 |_=>[]
noncomputable def fG (rows:List D):List Nat:=rows.flatMap λx=>(itemsOf x).map natOf
noncomputable def zb (n:Nat) (ps:List Nat):Bool:=decide (ST.jP ST.lX (pI ps)=pI (List.range n))
noncomputable def gR (rs:List (List Int)) (d:D):Bool:=match d with
 | .tup rows=>rows.all (cz rs)&&zb rs.length (fG rows)
 |_=>false
theorem En {ps:List Nat} {d:D} {s:aa} (hd:res d s=.lst (ps.map λp:Nat=>D.int p)) (hn:ps.length<64):qF [d] s=ok (.lst ((ST.jP ST.lX (pI ps)).map D.int)) s:=by
 show (match res d s with | .lst xs=>if xs.length<64 then bE ((jb xs).map λns=>D.lst ((ST.jP ST.lX ns).map D.int)) s else none | _=>none)=_
 rw[hd]
 show (if (ps.map λp:Nat=>D.int p).length<64 then bE ((jb (ps.map λp:Nat=>D.int p)).map λns=>D.lst ((ST.jP ST.lX ns).map D.int)) s else none)=_
 have e:(ps.map λp:Nat=>D.int p)=(pI ps).map D.int:=by unfold pI;rw[List.map_map];rfl
 rw[if_pos (by rw[List.length_map];exact hn),e,C3]
 rfl
theorem DJ {rs:List (List Int)} {d:D} (h:cz rs d=true):∃ps:List Nat,d=pD ps/\(∀p∈ps,p<rs.length)/\ps≠[]/\chain rs ps=true:=by
 unfold cz at h
 rw[Bool.and_eq_true] at h
 cases d with
 |tup ds =>
  obtain⟨ps,rfl,lt⟩:=uT h.1
  have h2:=h.2
  rw[Bool.and_eq_true,uz] at h2
  exact⟨ps,rfl,lt,λe=>(by rw[e] at h2;cases h2.1),h2.2⟩
 |_=>cases h.1
theorem IM {rs:List (List Int)} {rows:List D} (h:rows.all (cz rs)=true):rows.flatMap itemsOf=(fG rows).map λp:Nat=>D.int p:=by
 induction rows with
 |nil=>rfl
 |cons x r ih =>
  rw[List.all_cons,Bool.and_eq_true] at h
  obtain⟨ps,rfl,_⟩:=DJ h.1
  unfold fG
  rw[List.flatMap_cons,List.flatMap_cons,List.map_append,ih h.2]
  show (ps.map λp:Nat=>D.int p)++_=(((ps.map λp:Nat=>D.int p).map natOf).map λp:Nat=>D.int p)++_
  rw[uz]
  rfl
theorem xw (rows:List D):(fG rows).length<=aN rows:=by
 induction rows with
 |nil=>exact Nat.zero_le _
 |cons x r ih =>
  unfold fG at ih |-
  rw[List.flatMap_cons,List.length_append,List.length_map]
  simp only[aN]
  have:(itemsOf x).length<=wt x:=by
   cases x with
   |tup es=>have:=jI es;show es.length<=_;simp only[wt];omega
   |_=>exact Nat.zero_le _
  omega
theorem LX {rs:List (List Int)} {d:D} {s:aa} (g:GH rs) (h1:1<=rs.length) (h:plain d=true) (hw:wt d<=60):aI.lu [rD rs,d] s=ok (.bl (gR rs d)) s:=by
 have hi:=g.hi
 have no:fE d=false->aI.lu [rD rs,d] s=ok (.bl false) s:=λe=>by
  refine Wp.eq ?_
  unfold aI.lu
  simp only[VC,oy g h1,iy h,e,Bool.not_false,if_true,and_self]
 cases d with
 |tup rows =>
  simp only[wt] at hw
  have hl:=jI rows
  have hf:=xw rows
  have hp:eI rows=true:=by simpa only [plain] using h
  refine Wp.eq ?_
  unfold aI.lu
  rw[wp_fn]
  refine⟨rfl,?_⟩
  refine Wp.step λR hR=>?_
  simp only[VC,oy g h1]
  subst hR
  refine Wp.step λR hR=>?_
  simp only[VC,iy h,fE,Bool.not_true,Bool.false_eq_true,if_false]
  refine Wp.of (ik rfl) ⟨le_size (by omega),?_⟩
  have cm:=comp_map (λd:D=>d) (nt:=1) (caps:=[some (rD rs)]) (g:=gN 0) (t:=dI) (f:=aB aI.oq (ae (ab 1) (ae (ab 0) ag))) (s:=s) (λ_=>true) (λd=>.bl (cz rs d)) rows λx hx=>⟨[some x,some (rD rs)],rfl,rfl,λ_=>Wp.eq (by simp only[VC,NC g (qf hp hx) (Nat.le_trans (yi hx) (by omega)),and_self])⟩
  rw[List.map_id'] at cm
  refine Wp.of cm ?_
  rw[filter_tt]
  refine Wp.of (lC _ _ _) ?_
  simp only[VC]
  have eg:gR rs (.tup rows)=(rows.all (cz rs)&&zb rs.length (fG rows)):=rfl
  rw[eg]
  cases ha:rows.all (cz rs) with
  |false=>simp only[VC,Bool.not_false,if_true,Bool.false_and,and_self]
  |true =>
   simp only[VC,Bool.not_true,Bool.false_eq_true,if_false,Bool.true_and]
   subst hR
   rw[wp_sRet,wp_e2,wp_eB,wp_aCons]
   unfold yA
   rw[LO]
   refine Wp.of (ik rfl) ?_
   have inner:∀x∈rows,∃env,gN 0 x (List.replicate 2 none++iA [] [some (rD rs),some (D.tup rows)])=some env/\dI env s=ok true s/\(true=true->more (c9 (ab 0)) (gN 1) dI (emit (ab 1)) env s=ok (itemsOf x) s):=λx hx=>by
    obtain⟨ps,rfl,_⟩:=DJ (List.all_eq_true.mp ha x hx)
    refine⟨[some (pD ps),none],rfl,rfl,λ_=>?_⟩
    unfold more
    rw[ik (ds:=ps.map λp:Nat=>D.int p) (s1:=s) rfl,eG]
    rw[E7 (λp:Nat=>D.int p) (λ_=>true) (λp=>[D.int p]) ps λp hp=>⟨[some (pD ps),some (.int p)],rfl,rfl,λ_=>rfl⟩]
    rw[filter_tt,<- List.map_eq_flatMap]
    rfl
   have cl:=E7 (λd:D=>d) (λ_=>true) itemsOf rows inner
   rw[List.map_id',filter_tt,IM ha] at cl
   refine Wp.of cl ⟨le_size (by rw[List.length_map];omega),?_⟩
   simp only[VC]
   refine Wp.of (En (ps:=fG rows) rfl (by omega)) ?_
   rw[iI]
   simp only[VC]
   refine Wp.of (FO hi) ?_
   exact Wp.of Hk ⟨rfl,rfl⟩
 |_=>exact no rfl
end DI
namespace DI
open PySem L2
theorem C9 {rs:List (List Int)} {env:Env} {k:Nat} {y:D} {s:aa} (h1:ab k env s=ok y s) (h0:ab 0 env s=ok (rD rs) s) (hp:plain y=true):(dZ (cG (bH (eB bh (ae (ab k) (ae (eC (.ty "int")) ag))))) (dZ (bH (eB bh (ae (ab k) (ae (eC (.ty "bool")) ag)))) (cG (ba (j7 kP fN (eC (.int 0)) (ab k) (eB bb (ae (ab 0) ag))))))) env s=ok (!dU rs.length y) s:=by
 have no:bh [y,.ty "int"] s=ok (.bl false) s->(dZ (cG (bH (eB bh (ae (ab k) (ae (eC (.ty "int")) ag))))) (dZ (bH (eB bh (ae (ab k) (ae (eC (.ty "bool")) ag)))) (cG (ba (j7 kP fN (eC (.int 0)) (ab k) (eB bb (ae (ab 0) ag))))))) env s=ok true s:=λe=>by
  refine Wp.eq ?_
  simp only[VC,h1,e,Bool.not_false,if_true,and_self]
 cases y with
 |int i =>
  refine Wp.eq ?_
  simp only[VC,h1]
  refine Wp.of (show bh [.int i,.ty "int"] s=ok (.bl true) s from rfl) ?_
  simp only[VC,Bool.not_true,Bool.false_eq_true,if_false,h1]
  refine Wp.of (show bh [.int i,.ty "bool"] s=ok (.bl false) s from rfl) ?_
  simp only[VC,Bool.false_eq_true,if_false,h1]
  simp only[dU]
  cases decide (0<=i) with
  |false=>simp only[VC,Bool.false_eq_true,if_false,Bool.false_and,and_self]
  |true=>simp only[VC,if_true,h0,iI,Bool.true_and,and_self]
 |bl b =>
  refine Wp.eq ?_
  simp only[VC,h1]
  refine Wp.of (show bh [.bl b,.ty "int"] s=ok (.bl true) s from rfl) ?_
  simp only[VC,Bool.not_true,Bool.false_eq_true,if_false,h1]
  refine Wp.of (show bh [.bl b,.ty "bool"] s=ok (.bl true) s from rfl) ?_
  simp only[VC,if_true]
  exact⟨rfl,trivial⟩
 |ay=>exact no rfl
 |str x=>exact no rfl
 |tup ds=>exact no rfl
 |lst ds=>exact no rfl
 |aY ai=>exact no rfl
 |ar k=>simp[plain] at hp
 |ty k=>simp[plain] at hp
 |bS k=>simp[plain] at hp
theorem yI {es:List D} {s:aa} (h:bW es=true):cg (.tup es) (.tup []) s=ok (.bl es.isEmpty) s:=by
 have e:cQ (.tup es) (.tup [])=some es.isEmpty:=by
  unfold cQ
  rw[if_neg (show ¬ (fy (.tup _)&&fy (.tup _))=true from Bool.false_ne_true),if_pos (by rw[show lay (.tup es)=true by simp only[lay,h],show lay (.tup [])=true from rfl,decide_eq_true (Nat.le_trans (Nat.min_le_right (dep (.tup es)) (dep (.tup []))) (by decide))];rfl)]
  cases es<;>rfl
 show (match cQ (.tup es) (.tup []) with|some b=>ok (D.bl b) s|none=>none)=_
 rw[e]
theorem DK {es:List D} {i:Nat} {d:D} (h:(iB es)[i]?=some d):∃x,es[i]?=some x/\d=.tup [.int i,x]:=by
 unfold iB at h
 rw[List.getElem?_map,List.getElem?_zipIdx] at h
 cases hp:es[i]? with
 |none=>rw[hp] at h;cases h
 |some x =>
  rw[hp] at h
  refine⟨x,rfl,?_⟩
  simp at h
  exact h.symm
theorem LY {d:D} {ds:List D} (h:bW ds=true) (hd:d∈ds):lay d=true:=by
 induction ds with
 |nil=>cases hd
 |cons e ds ih =>
  simp only[bW,Bool.and_eq_true] at h
  rcases List.mem_cons.mp hd with z|z
  ·rw[z];exact h.1
  ·exact ih h.2 z
theorem va {n:Nat} {y:D} (h:dU n y=true):∃p:Nat,y=.int p/\p<n/\natOf y=p:=by
 cases y with
 |int i =>
  simp only[dU,Bool.and_eq_true,decide_eq_true_eq] at h
  obtain⟨p,rfl⟩:=Int.eq_ofNat_of_zero_le h.1
  exact⟨p,rfl,by omega,Int.toNat_natCast p⟩
 |_=>cases h
structure pY (rs:List (List Int)) (es:List D) (i:Nat):Prop where
 pl:∀k y,k<i->es[k]?=some y->dU rs.length y=true
 ch:∀k y z,k+1<i->es[k]?=some y->es[k+1]?=some z->sub (rs.getD (natOf y) []) (rs.getD (natOf z) [])=true
theorem pY.whole {rs:List (List Int)} {es:List D} (h:pY rs es es.length) (hn:es.isEmpty=false):cz rs (.tup es)=true:=by
 unfold cz
 rw[Bool.and_eq_true]
 refine⟨List.all_eq_true.mpr λy hy=>?_,?_⟩
 ·obtain⟨k,hk⟩:=List.getElem?_of_mem hy
  exact h.pl k y (List.getElem?_eq_some_iff.mp hk).1 hk
 ·show (!es.isEmpty&&chain rs (es.map natOf))=true
  rw[hn]
  refine List.all_eq_true.mpr λp hp=>?_
  obtain⟨k,hk⟩:=List.getElem?_of_mem hp
  rw[List.getElem?_zip_eq_some,List.getElem?_drop,List.getElem?_map,List.getElem?_map] at hk
  obtain⟨h1,h2⟩:=hk
  cases e1:es[k]? with
  |none=>rw[e1] at h1;cases h1
  |some y =>
   cases e2:es[1+k]? with
   |none=>rw[e2] at h2;cases h2
   |some z =>
    rw[e1] at h1
    rw[e2] at h2
    have hl:=(List.getElem?_eq_some_iff.mp e2).1
    have:=h.ch k y z (by omega) e1 (by rw[Nat.add_comm];exact e2)
    rw[<- Option.some.inj h1,<- Option.some.inj h2]
    exact this
theorem ND {rs:List (List Int)} {es:List D} {i:Nat} {y:D} (hy:es[i]?=some y) (h:dU rs.length y=false):cz rs (.tup es)=false:=by
 rw[Bool.eq_false_iff]
 intro z
 unfold cz at z
 rw[Bool.and_eq_true] at z
 have:=List.all_eq_true.mp z.1 y (List.mem_of_getElem? hy)
 rw[h] at this
 cases this
theorem NF {rs:List (List Int)} {es:List D} {i:Nat} {y z:D} (hy:es[i]?=some y) (hz:es[i+1]?=some z) (h:sub (rs.getD (natOf y) []) (rs.getD (natOf z) [])=false):cz rs (.tup es)=false:=by
 rw[Bool.eq_false_iff]
 intro w
 unfold cz at w
 rw[Bool.and_eq_true,Bool.and_eq_true] at w
 have hm:(natOf y,natOf z)∈(es.map natOf).zip ((es.map natOf).drop 1):=by
  refine List.mem_of_getElem? (i:=i) ?_
  rw[List.getElem?_zip_eq_some,List.getElem?_drop,List.getElem?_map,List.getElem?_map,hy,Nat.add_comm 1 i,hz]
  exact⟨rfl,rfl⟩
 have:=List.all_eq_true.mp w.2.2 _ hm
 rw[show sub (rs.getD (natOf y,natOf z).1 []) (rs.getD (natOf y,natOf z).2 [])=sub (rs.getD (natOf y) []) (rs.getD (natOf z) []) from rfl,h] at this
 cases this
theorem vA {rs:List (List Int)} {rows:List D} {j:Nat} {x:D} (hx:rows[j]?=some x) (h:cz rs x=false):gR rs (.tup rows)=false:=by
 show (rows.all (cz rs)&&_)=false
 rw[show rows.all (cz rs)=false from ?_]
 ·rfl
 ·rw[Bool.eq_false_iff]
  intro z
  have:=List.all_eq_true.mp z x (List.mem_of_getElem? hx)
  rw[h] at this
  cases this
theorem Kx {rs:List (List Int)} {d:D} {s:aa} (g:GH rs) (h:plain d=true) (hw:wt d<=60) (Bd:∀rows,d=.tup rows->bW rows=true):Wp (aI.lr [rD rs,d] s) λd' s'=>d'=.bl (gR rs d)/\Kp s s':=by
 have hi:=g.hi
 have no:fE d=false->Wp (aI.lr [rD rs,d] s) λd' s'=>d'=.bl false/\Kp s s':=λe=>by
  unfold aI.lr
  simp only[VC,iy h,e,Bool.not_false,if_true,true_and]
  exact Kp.refl _
 cases d with
 |tup rows =>
  have Bd:=Bd rows rfl
  simp only[wt] at hw
  have hl:=jI rows
  have hp:eI rows=true:=by simpa only [plain] using h
  unfold aI.lr
  rw[wp_fn]
  refine⟨rfl,?_⟩
  refine Wp.step λR hR=>?_
  simp only[VC,iy h,fE,Bool.not_true,Bool.false_eq_true,if_false]
  subst hR
  refine Wp.step λR hR=>?_
  simp only[VC]
  refine⟨by decide,?_⟩
  subst hR
  refine Wp.step λR hR=>?_
  rw[wp_sFor]
  refine Wp.of (ik rfl) ?_
  refine Wp.jo (λj env s'=>(rows.take j).all (cz rs)=true/\s'=s++[.lst ((fG (rows.take j)).map λp:Nat=>D.int p)]/\∃x y z,env=[some (rD rs),some (.tup rows),some (.ar s.length),x,y,z]) _ ⟨rfl,rfl,_,_,_,rfl⟩ (λj d env s' hd hI=>?_) (λenv s' hI=>?_)
  ·obtain⟨ha,rfl,x,y,z,rfl⟩:=hI
   have hm:=List.mem_of_getElem? hd
   have pd:=qf hp hm
   have wd:=yi hm
   refine⟨_,rfl,?_⟩
   have fl:(fG (rows.take j)).length<=60:=by
    have h1:=xw (rows.take j)
    have h2:aN (rows.take j)<=aN rows:=by
     have:∀(l:List D) (j:Nat),aN (l.take j)<=aN l:=λl=>by
      induction l with
      |nil=>intro j;rw[List.take_nil];exact Nat.le_refl _
      |cons a r ih =>
       intro j
       cases j with
       |zero=>exact Nat.zero_le _
       |succ j=>rw[List.take_succ_cons];simp only[aN];have:=ih j;omega
     exact this rows j
    omega
   have vU:∀e:Option D,cz rs d=true->(rows.take (j+1)).all (cz rs)=true/\fG (rows.take (j+1))=fG (rows.take j)++(itemsOf d).map natOf:=λ_ hr=>by
    rw[List.take_succ,hd]
    refine⟨by rw[List.all_append,ha];show (true&&(cz rs d&&true))=true;rw[hr];rfl,?_⟩
    unfold fG
    rw[List.flatMap_append]
    simp
   generalize hF:fG (rows.take j)=F at fl vU
   refine Wp.step λR2 UC=>?_
   simp only[VC,iy pd]
   cases ht:fE d with
   |false =>
    have rb:cz rs d=false:=by cases d<;>first|rfl|cases ht
    simp only[VC,Bool.not_false,if_true]
    rw[vA hd rb]
    exact⟨rfl,Kp.app _ _⟩
   |true =>
    cases d with
    |tup es =>
     have le:=LY Bd hm
     have le:bW es=true:=by simpa only [lay] using le
     have pe:eI es=true:=by simpa only [plain] using pd
     simp only[wt] at wd
     have we:=jI es
     simp only[VC,Bool.not_true,Bool.false_eq_true,if_false]
     refine⟨by decide,?_⟩
     rw[yI le]
     simp only[VC]
     cases hn:es.isEmpty with
     |true =>
      have rb:cz rs (.tup es)=false:=by
       show (places rs.length (.tup es)&&(!es.isEmpty&&chain rs (es.map natOf)))=false
       rw[hn,Bool.not_true,Bool.false_and,Bool.and_false]
      simp only[VC,if_true]
      rw[vA hd rb]
      exact⟨rfl,Kp.app _ _⟩
     |false =>
      simp only[VC,Bool.false_eq_true,if_false]
      subst UC
      rw[wp_sFor]
      refine Wp.of (show qQ _ _ _=ok (iB es) _ from rfl) ?_
      refine Wp.jo (λi env s'=>pY rs es i/\s'=s++[.lst ((F++(es.take i).map natOf).map λp:Nat=>D.int p)]/\∃y z,env=[some (rD rs),some (.tup rows),some (.ar s.length),some (.tup es),y,z]) _ ⟨⟨λk y hk=>by omega,λk y z hk=>by omega⟩,by simp,_,_,rfl⟩ (λi d env s' hd2 hI=>?_) (λenv s' hI=>?_)
      ·obtain⟨ri,rfl,y0,z0,rfl⟩:=hI
       obtain⟨y,hy,rfl⟩:=DK hd2
       have py:=qf pe (List.mem_of_getElem? hy)
       have il:=(List.getElem?_eq_some_iff.mp hy).1
       refine⟨_,rfl,?_⟩
       refine Wp.step λR3 mz=>?_
       rw[wp_sIf,C9 (rs:=rs) (y:=y) rfl rfl py]
       simp only[VC]
       cases hc:dU rs.length y with
       |false =>
        simp only[VC,Bool.not_false,if_true]
        rw[vA hd (ND hy hc)]
        exact⟨rfl,Kp.app _ _⟩
       |true =>
        obtain⟨p,rfl,pl,np⟩:=va hc
        simp only[VC,Bool.not_true,Bool.false_eq_true,if_false]
        subst mz
        refine Wp.step λR3 mz=>?_
        have fin:pY rs es (i+1)->fj (jl (ab 2) (ab 5)) [some (rD rs),some (.tup rows),some (.ar s.length),some (.tup es),some (.int i),some (.int p)] (s++[.lst ((F++(es.take i).map natOf).map λp:Nat=>D.int p)])=ok (.nx [some (rD rs),some (.tup rows),some (.ar s.length),some (.tup es),some (.int i),some (.int p)]) (s++[.lst ((F++(es.take (i+1)).map natOf).map λp:Nat=>D.int p)]):=λ_=>by
         refine Wp.eq ?_
         simp only[VC]
         refine⟨by unfold jW;simp,?_⟩
         refine Wp.of (Nd (by rw[List.length_map,List.length_append,List.length_map,List.length_take];omega)) ?_
         rw[List.take_succ,hy]
         simp[natOf]
        simp only[VC]
        by_cases h0:0<i
        ·have jD:es[i-1]?=some (es.getD (i-1) D.ay):=getD_some (d:=D.ay) (by omega)
         obtain⟨q,eq,ql,nq⟩:=va (ri.pl (i-1) _ (by omega) jD)
         rw[eq] at jD
         rw[decide_eq_true (show (i:Int) > 0 by omega),show ((i:Int)-1)=((i-1:Nat):Int) by omega]
         simp only[VC,if_true]
         refine Wp.of (show aD (.tup es) (.int ((i-1:Nat):Int)) _=ok (.int q) _ from oG jD) ?_
         simp only[VC,jA ql,jA pl,xu (g.at _)]
         cases hs:sub (rs.getD q []) (rs.getD p []) with
         |false =>
          simp only[VC,Bool.not_false,if_true]
          have Be:es[i-1+1]?=some (.int p):=by rw[show i-1+1=i by omega];exact hy
          rw[vA hd (NF jD Be (by simpa [natOf] using hs))]
          exact⟨rfl,Kp.app _ _⟩
         |true =>
          simp only[VC,Bool.not_true,Bool.false_eq_true,if_false]
          subst mz
          have sZ:pY rs es (i+1):=by
           refine⟨λk y hk e=>?_,λk y z hk e e'=>?_⟩
           ·rcases Nat.lt_succ_iff_lt_or_eq.mp hk with l|l
            ·exact ri.pl k y l e
            ·subst l;rw[hy] at e;cases e;exact hc
           ·by_cases pM:k+1=i
            ·have:k=i-1:=by omega
             subst this
             rw[jD] at e
             cases e
             rw[show i-1+1=i by omega,hy] at e'
             cases e'
             simpa [natOf] using hs
            ·exact ri.ch k y z (by omega) e e'
          exact Wp.of (fin sZ) ⟨sZ,rfl,_,_,rfl⟩
        ·rw[decide_eq_false (show ¬ (i:Int) > 0 by omega)]
         simp only[VC,Bool.false_eq_true,if_false]
         subst mz
         have sZ:pY rs es (i+1):=by
          refine⟨λk y hk e=>?_,λk y z hk e e'=>by omega⟩
          have:k=i:=by omega
          subst this
          rw[hy] at e
          cases e
          exact hc
         exact Wp.of (fin sZ) ⟨sZ,rfl,_,_,rfl⟩
      ·obtain⟨ri,rfl,y0,z0,rfl⟩:=hI
       have el:(iB es).length=es.length:=by unfold iB;simp
       rw[el] at ri |-
       obtain⟨f1,f2⟩:=vU none (ri.whole hn)
       refine⟨f1,?_,_,_,_,rfl⟩
       rw[List.take_length,f2]
       rfl
    |_=>cases ht
  ·obtain⟨ha,rfl,x,y,z,rfl⟩:=hI
   rw[List.take_length] at ha
   rw[List.take_length]
   have hf:=xw rows
   subst hR
   simp only[VC]
   refine Wp.of (En (ps:=fG rows) (by unfold res;simp) (by omega)) ?_
   rw[iI]
   simp only[VC]
   refine Wp.of (FO hi) ?_
   refine Wp.of Hk ⟨?_,Kp.app _ _⟩
   show _=D.bl (rows.all (cz rs)&&zb rs.length (fG rows))
   rw[ha]
   rfl
 |_=>exact no rfl
end DI
namespace DI
open PySem L2
noncomputable def pk (rs:List (List Int)) (ps:List Nat):Bool:=(List.range ps.length).all λi=>ix rs (ps.take i) (ps.getD i 0)
noncomputable def gS (rs:List (List Int)) (d:D):Bool:=places rs.length d&&(rise (pI ((itemsOf d).map natOf))&&pk rs ((itemsOf d).map natOf))
theorem Eo {ps:List Nat} (h:rise (pI ps)=true):ps.Pairwise (· < ·):=by
 induction ps with
 |nil=>exact .nil
 |cons a r ih =>
  cases r with
  |nil=>exact List.pairwise_singleton _ _
  |cons b r =>
   have h':(decide ((a:Int)<b)&&rise (pI (b::r)))=true:=h
   rw[Bool.and_eq_true,decide_eq_true_eq] at h'
   have p:=ih h'.2
   refine List.pairwise_cons.mpr ⟨λx hx=>?_,p⟩
   rcases List.mem_cons.mp hx with e|e
   ·rw[e];omega
   ·have:=(List.pairwise_cons.mp p).1 x e;omega
theorem Pe {ps:List Nat} {n:Nat} (h:ps.Pairwise (· < ·)) (lt:∀p∈ps,p<n):ps.length<=n:=by
 have:=ku (m:=List.range n) (h.imp λ{x y} z=>Nat.ne_of_lt z) λp hp=>List.mem_range.mpr (lt p hp)
 rw[List.length_range] at this
 exact this
theorem LZ {rs:List (List Int)} {d:D} {s:aa} (g:GH rs) (h1:1<=rs.length) (h:plain d=true) (hw:wt d<=60):aI.mC [rD rs,d] s=ok (.bl (gS rs d)) s:=by
 have hi:=g.hi
 cases hp:places rs.length d with
 |false =>
  have e:gS rs d=false:=by unfold gS;rw[hp];rfl
  rw[e]
  refine Wp.eq ?_
  unfold aI.mC
  simp only[VC,oy g h1,ui h hw,hp,Bool.false_eq_true,if_false,and_self]
 |true =>
  cases d with
  |tup ds =>
   simp only[wt] at hw
   have hl:=jI ds
   obtain⟨ps,rfl,lt⟩:=uT hp
   rw[List.length_map] at hl
   have e:gS rs (pD ps)=(rise (pI ps)&&pk rs ps):=by
    unfold gS
    rw[hp]
    show (true&&(rise (pI ((ps.map λp:Nat=>D.int p).map natOf))&&pk rs ((ps.map λp:Nat=>D.int p).map natOf)))=_
    rw[uz]
    rfl
   rw[show D.tup (ps.map λp:Nat=>D.int p)=pD ps from rfl] at h hp |-
   rw[e]
   refine Wp.eq ?_
   unfold aI.mC
   simp only[VC,oy g h1,ui h (show wt (pD ps)<=60 by simp only[wt];omega),hp,if_true]
   refine Wp.of (show n6 [pD ps] s=ok (.bl (rise (pI ps))) s from by rw[Sh];exact C8 (by rw[List.length_map];omega)) ?_
   simp only[VC]
   cases hr:rise (pI ps) with
   |false=>simp only[Bool.false_eq_true,if_false,Bool.false_and,and_self]
   |true =>
    have up:=Eo hr
    have ln:=Pe up lt
    simp only[VC,if_true,Bool.true_and]
    refine Wp.of (iX (s1:=s) (n:=ps.length) (Wp.eq (by simp only[VC,vW,and_self])) (by omega)) ⟨le_size (by rw[iV];omega),?_⟩
    rw[uP]
    refine Wp.of (comp_map (λi:Nat=>D.int (0+(i:Int))) (λ_=>true) (λi=>.bl (ix rs (ps.take i) (ps.getD i 0))) _ λi hm=>⟨[some (.int (0+(i:Int))),some (rD rs),some (pD ps)],rfl,rfl,λ_=>?_⟩) ?_
    ·have il:=List.mem_range.mp hm
     rw[Int.zero_add]
     have hx:ps[i]?=some (ps.getD i 0):=getD_some (d:=0) il
     have xl:=lt _ (List.mem_of_getElem? hx)
     refine Wp.eq ?_
     rw[wp_call,wp_aCons,wp_locS,wp_loc0,wp_aCons,qv (xs:=ps.map λp:Nat=>D.int p) (k:=i) rfl rfl (by rw[List.length_map];omega)]
     simp only[VC,UB hx]
     rw[<- List.map_take]
     refine Wp.of (CK g xl (λp hp=>?_) (by rw[List.length_take];omega)) ⟨rfl,rfl⟩
     obtain⟨j,hj⟩:=List.getElem?_of_mem hp
     rw[List.getElem?_take] at hj
     split at hj
     ·rename_i lj;exact za up hj hx lj
     ·cases hj
    ·rw[filter_tt]
     exact Wp.of (lC _ _ _) ⟨rfl,rfl⟩
  |_=>cases hp
structure pZ (rs:List (List Int)) (es:List D) (i:Nat):Prop where
 pl:∀k y,k<i->es[k]?=some y->dU rs.length y=true
 up:∀k y z,k+1<i->es[k]?=some y->es[k+1]?=some z->natOf y<natOf z
 tg:∀j k y z,j<k->k<i->es[j]?=some y->es[k]?=some z->dF (rs.getD (natOf z) []) (rs.getD (natOf y) [])=false
theorem vd {es:List D} {k p:Nat} (h:(es.map natOf)[k]?=some p):∃y,es[k]?=some y/\natOf y=p:=by
 rw[List.getElem?_map] at h
 cases e:es[k]? with
 |none=>rw[e] at h;cases h
 |some y=>rw[e] at h;exact⟨y,rfl,Option.some.inj h⟩
theorem pZ.whole {rs:List (List Int)} {es:List D} (h:pZ rs es es.length):gS rs (.tup es)=true:=by
 show (es.all (dU rs.length)&&(rise (pI (es.map natOf))&&pk rs (es.map natOf)))=true
 rw[Bool.and_eq_true,Bool.and_eq_true]
 refine⟨List.all_eq_true.mpr λy hy=>?_,?_,?_⟩
 ·obtain⟨k,hk⟩:=List.getElem?_of_mem hy
  exact h.pl k y (List.getElem?_eq_some_iff.mp hk).1 hk
 ·rw[<- xN]
  refine List.all_eq_true.mpr λp hp=>?_
  obtain⟨k,hk⟩:=List.getElem?_of_mem hp
  rw[List.getElem?_zip_eq_some,List.getElem?_drop] at hk
  obtain⟨h1,h2⟩:=hk
  unfold pI at h1 h2
  rw[List.getElem?_map (l:=es.map natOf)] at h1 h2
  cases e1:(es.map natOf)[k]? with
  |none=>rw[e1] at h1;cases h1
  |some a =>
   cases e2:(es.map natOf)[1+k]? with
   |none=>rw[e2] at h2;cases h2
   |some b =>
    rw[e1] at h1
    rw[e2] at h2
    obtain⟨y,hy,rfl⟩:=vd e1
    obtain⟨z,hz,rfl⟩:=vd e2
    have hl:=(List.getElem?_eq_some_iff.mp hz).1
    have:=h.up k y z (by omega) hy (by rw[Nat.add_comm];exact hz)
    rw[<- Option.some.inj h1,<- Option.some.inj h2]
    show decide ((natOf y:Int)<(natOf z:Int))=true
    exact decide_eq_true (by omega)
 ·refine List.all_eq_true.mpr λi hi=>?_
  have il:=List.mem_range.mp hi
  have hx:(es.map natOf)[i]?=some ((es.map natOf).getD i 0):=getD_some (d:=0) il
  obtain⟨z,hz,ez⟩:=vd hx
  rw[<- ez]
  unfold ix
  rw[Bool.not_eq_true',List.any_eq_false]
  intro p hp
  obtain⟨j,hj⟩:=List.getElem?_of_mem hp
  rw[List.getElem?_take] at hj
  split at hj
  ·rename_i lj
   obtain⟨y,hy,rfl⟩:=vd hj
   rw[h.tg j i y z lj (by rw[List.length_map] at il;exact il) hy hz]
   exact Bool.false_ne_true
  ·cases hj
theorem QJ {rs:List (List Int)} {es:List D} {i:Nat} {y:D} (hy:es[i]?=some y) (h:dU rs.length y=false):gS rs (.tup es)=false:=by
 rw[Bool.eq_false_iff]
 intro z
 have z:(es.all (dU rs.length)&&_)=true:=z
 rw[Bool.and_eq_true] at z
 have:=List.all_eq_true.mp z.1 y (List.mem_of_getElem? hy)
 rw[h] at this
 cases this
theorem QK {rs:List (List Int)} {es:List D} {i:Nat} {y z:D} (hy:es[i]?=some y) (hz:es[i+1]?=some z) (h:¬ natOf y<natOf z):gS rs (.tup es)=false:=by
 rw[Bool.eq_false_iff]
 intro w
 have w:(es.all (dU rs.length)&&(rise (pI (es.map natOf))&&pk rs (es.map natOf)))=true:=w
 rw[Bool.and_eq_true,Bool.and_eq_true] at w
 have up:=Eo w.2.1
 exact h (za up (i:=i) (j:=i+1) (by rw[List.getElem?_map,hy];rfl) (by rw[List.getElem?_map,hz];rfl) (Nat.lt_succ_self i))
theorem QM {rs:List (List Int)} {es:List D} {i j:Nat} {y z:D} (hj:j<i) (hy:es[j]?=some y) (hz:es[i]?=some z) (h:dF (rs.getD (natOf z) []) (rs.getD (natOf y) [])=true):gS rs (.tup es)=false:=by
 rw[Bool.eq_false_iff]
 intro w
 have w:(es.all (dU rs.length)&&(rise (pI (es.map natOf))&&pk rs (es.map natOf)))=true:=w
 rw[Bool.and_eq_true,Bool.and_eq_true] at w
 have il:=(List.getElem?_eq_some_iff.mp hz).1
 have s1:=List.all_eq_true.mp w.2.2 i (List.mem_range.mpr (by rw[List.length_map];exact il))
 have ez:(es.map natOf).getD i 0=natOf z:=by rw[List.getD_eq_getElem?_getD,List.getElem?_map,hz];rfl
 rw[ez] at s1
 unfold ix at s1
 rw[Bool.not_eq_true',List.any_eq_false] at s1
 refine s1 (natOf y) (List.mem_of_getElem? (i:=j) ?_) h
 rw[List.getElem?_take,if_pos hj,List.getElem?_map,hy]
 rfl
theorem L3 {rs:List (List Int)} {d:D} {s:aa} (g:GH rs) (h:plain d=true) (hw:wt d<=60):aI.mB [rD rs,d] s=ok (.bl (gS rs d)) s:=by
 have hi:=g.hi
 refine Wp.eq ?_
 cases ht:fE d with
 |false =>
  have e:gS rs d=false:=by cases d<;>first|rfl|cases ht
  rw[e]
  unfold aI.mB
  simp only[VC,iy h,ht,Bool.not_false,if_true,and_self]
 |true =>
  cases d with
  |tup es =>
   have pe:eI es=true:=by simpa only [plain] using h
   simp only[wt] at hw
   have we:=jI es
   unfold aI.mB
   rw[wp_fn]
   refine⟨rfl,?_⟩
   refine Wp.step λR hR=>?_
   simp only[VC,iy h,fE,Bool.not_true,Bool.false_eq_true,if_false]
   subst hR
   refine Wp.step λR hR=>?_
   rw[wp_sFor]
   refine Wp.of (show qQ _ _ _=ok (iB es) _ from rfl) ?_
   refine Wp.jo (λi env s'=>pZ rs es i/\s'=s/\∃y z,env=[some (rD rs),some (.tup es),y,z]) _ ⟨⟨λk y hk=>by omega,λk y z hk=>by omega,λj k y z _ hk=>by omega⟩,rfl,_,_,rfl⟩ (λi d env s' hd hI=>?_) (λenv s' hI=>?_)
   ·obtain⟨ri,rfl,y0,z0,rfl⟩:=hI
    obtain⟨y,hy,rfl⟩:=DK hd
    have py:=qf pe (List.mem_of_getElem? hy)
    have il:=(List.getElem?_eq_some_iff.mp hy).1
    refine⟨_,rfl,?_⟩
    refine Wp.step λR3 mz=>?_
    rw[wp_sIf,C9 (rs:=rs) (y:=y) rfl rfl py]
    simp only[VC]
    cases hc:dU rs.length y with
    |false =>
     simp only[VC,Bool.not_false,if_true]
     rw[QJ hy hc]
     exact⟨rfl,trivial⟩
    |true =>
     obtain⟨p,rfl,pl,np⟩:=va hc
     simp only[VC,Bool.not_true,Bool.false_eq_true,if_false]
     subst mz
     refine Wp.step λR3 mz=>?_
     have nK:∃ps:List Nat,es.take i=(ps.map λp:Nat=>D.int p)/\(∀q∈ps,q<rs.length):=uT (List.all_eq_true.mpr λx hx=>by
      obtain⟨k,hk⟩:=List.getElem?_of_mem hx
      rw[List.getElem?_take] at hk
      split at hk
      ·rename_i lk;exact ri.pl k x lk hk
      ·cases hk)
     obtain⟨ps,nK,ql⟩:=nK
     have fin:(i=0\/∃y',es[i-1]?=some y'/\natOf y' < p)->Wp ((bt (ba (e2 cC (cL 1 [0,3] (c9 (bQ (ab 1) bT (bI (ab 2)))) (gN 0) (bH (aB aI.qt (ae (ab 1) (ae (ab 0) (ae (ab 2) ag))))) (ab 0)) (cM ag))) (aG (eC (.bl false))) bA) [some (rD rs),some (.tup es),some (.int i),some (.int p)] s') λfl jB=>jB=s'/\((fl=.nx [some (rD rs),some (.tup es),some (.int i),some (.int p)]/\pZ rs es (i+1))\/(fl=.rt (.bl false)/\gS rs (.tup es)=false)):=λBf=>by
      rw[wp_sIf,wp_tBl,wp_e2,wp_comp]
      refine Wp.of (ik (qv (xs:=es) (k:=i) rfl rfl (by omega))) ⟨le_size (by rw[List.length_take];omega),?_⟩
      rw[nK]
      refine Wp.of (comp_map (λp:Nat=>D.int p) (λq=>dF (rs.getD p []) (rs.getD q [])) (λp:Nat=>D.int p) _ λq hq=>⟨[some (.int q),some (rD rs),some (.int p)],rfl,?_,λ_=>rfl⟩) ?_
      ·refine Wp.eq ?_
       simp only[VC,Nz g (ql q hq) pl,and_self]
      ·simp only[VC]
       refine⟨Nat.zero_le _,?_⟩
       rw[O9]
       simp only[VC]
       have UD:∀j y',j<i->es[j]?=some y'->natOf y'∈ps:=λj y' hj e=>by
        have:(es.take i)[j]?=some y':=by rw[List.getElem?_take,if_pos hj];exact e
        rw[nK,List.getElem?_map] at this
        cases e2:ps[j]? with
        |none=>rw[e2] at this;cases this
        |some q=>rw[e2] at this;cases this;exact List.mem_of_getElem? (by rw[e2];rfl)
       cases tj:(ps.filter λq=>dF (rs.getD p []) (rs.getD q [])).isEmpty with
       |true =>
        simp only[VC,Bool.not_true,Bool.false_eq_true,if_false]
        refine .inl ?_
        have Aj:∀q∈ps,dF (rs.getD p []) (rs.getD q [])=false:=λq hq=>by
         rw[Bool.eq_false_iff]
         intro z
         have:q∈ps.filter λq=>dF (rs.getD p []) (rs.getD q []):=List.mem_filter.mpr ⟨hq,z⟩
         rw[List.isEmpty_iff.mp tj] at this
         cases this
        refine⟨λk y hk e=>?_,λk y z hk e e'=>?_,λj k y z pW hk e e'=>?_⟩
        ·rcases Nat.lt_succ_iff_lt_or_eq.mp hk with l|l
         ·exact ri.pl k y l e
         ·subst l;rw[hy] at e;cases e;exact hc
        ·by_cases pM:k+1=i
         ·rcases Bf with z0 | ⟨y',e1,l1⟩
          ·omega
          ·have:k=i-1:=by omega
           subst this
           rw[e1] at e
           cases e
           rw[pM,hy] at e'
           cases e'
           rw[np]
           exact l1
         ·exact ri.up k y z (by omega) e e'
        ·by_cases pM:k=i
         ·subst pM
          rw[hy] at e'
          cases e'
          rw[np]
          exact Aj _ (UD j y pW e)
         ·exact ri.tg j k y z pW (by omega) e e'
       |false =>
        simp only[VC,Bool.not_false,if_true]
        refine .inr ?_
        cases hf:ps.filter λq=>dF (rs.getD p []) (rs.getD q []) with
        |nil=>rw[hf] at tj;cases tj
        |cons q r =>
         have hq:q∈ps.filter λq=>dF (rs.getD p []) (rs.getD q []):=by rw[hf];exact List.mem_cons_self
         obtain⟨hq,hz⟩:=List.mem_filter.mp hq
         obtain⟨j,hj⟩:=List.getElem?_of_mem hq
         have e3:(es.take i)[j]?=some (.int q):=by rw[nK,List.getElem?_map,hj];rfl
         rw[List.getElem?_take] at e3
         split at e3
         ·rename_i lj
          exact QM lj e3 hy (by rw[np];simpa [natOf] using hz)
         ·cases e3
     have fin2:(i=0\/∃y',es[i-1]?=some y'/\natOf y' < p)->Wp (R3 [some (rD rs),some (.tup es),some (.int i),some (.int p)] s') λfl jB=>match fl with
       | .nx e=>pZ rs es (i+1)/\jB=s'/\∃y z,e=[some (rD rs),some (.tup es),y,z]
       | .ct e=>pZ rs es (i+1)/\jB=s'/\∃y z,e=[some (rD rs),some (.tup es),y,z]
       | .bk e=>mw R (lZ λa z9=>a=D.bl (gS rs (.tup es))/\z9=s') (.nx e) jB
       | .rt d=>mw R (lZ λa z9=>a=D.bl (gS rs (.tup es))/\z9=s') (.rt d) jB:=λBf=>by
      rw[mz]
      refine(fin Bf).mono λfl jB hq=>?_
      obtain⟨rfl,⟨rfl,hs⟩ | ⟨rfl,hs⟩⟩:=hq
      ·exact⟨hs,rfl,_,_,rfl⟩
      ·show D.bl false=D.bl (gS rs (.tup es))/\jB=jB
       rw[hs]
       exact⟨rfl,rfl⟩
     simp only[VC]
     by_cases h0:0<i
     ·have jD:es[i-1]?=some (es.getD (i-1) D.ay):=getD_some (d:=D.ay) (by omega)
      obtain⟨q,eq,VM,nq⟩:=va (ri.pl (i-1) _ (by omega) jD)
      rw[eq] at jD
      rw[decide_eq_true (show (i:Int) > 0 by omega),show ((i:Int)-1)=((i-1:Nat):Int) by omega]
      simp only[VC,if_true]
      refine Wp.of (show aD (.tup es) (.int ((i-1:Nat):Int)) _=ok (.int q) _ from oG jD) ?_
      simp only[VC]
      by_cases Hl:(q:Int) ≥ p
      ·rw[decide_eq_true Hl]
       simp only[VC,if_true]
       have Be:es[i-1+1]?=some (.int p):=by rw[show i-1+1=i by omega];exact hy
       rw[QK jD Be (by show ¬ (q:Int).toNat<(p:Int).toNat;omega)]
       exact⟨rfl,trivial⟩
      ·rw[decide_eq_false Hl]
       simp only[VC,Bool.false_eq_true,if_false]
       exact fin2 (.inr ⟨_,jD,by show (q:Int).toNat<p;omega⟩)
     ·rw[decide_eq_false (show ¬ (i:Int) > 0 by omega)]
      simp only[VC,Bool.false_eq_true,if_false]
      exact fin2 (.inl (by omega))
   ·obtain⟨ri,rfl,y0,z0,rfl⟩:=hI
    have el:(iB es).length=es.length:=by unfold iB;simp
    rw[el] at ri
    subst hR
    simp only[VC]
    rw[ri.whole]
    exact⟨rfl,trivial⟩
  |_=>cases ht
end DI
namespace DI
open PySem L2
structure Ft (n W:Nat) (d:D):Prop where
 pl:plain d=true
 sh:(py d).showable=true
 nd:(py d).hasDict=false
 dp:(py d).depth<=n
 wt:(py d).weight<=W
 lv:(py d).leavesShort 40=true
noncomputable def vY (d:D):Bool:=plain d&&(py d).showable&&!(py d).hasDict&&decide ((py d).depth<=0)&&decide ((py d).weight<=110)&&(py d).leavesShort 40
theorem FP {d:D} (h:vY d=true):Ft 0 110 d:=by
 unfold vY at h
 simp only[Bool.and_eq_true,decide_eq_true_eq,Bool.not_eq_true'] at h
 obtain⟨⟨⟨⟨⟨h0,h1⟩,h2⟩,h3⟩,h4⟩,h5⟩:=h
 exact⟨h0,h1,h2,h3,h4,h5⟩
theorem Pf:∀n:Fin 62,vY (.int ((n.val:Int)-1))=true:=by decide +kernel
theorem ve {n:Int} (h1:-1<=n) (h2:n<=60):Ft 0 110 (.int n):=by
 refine FP ?_
 have:=Pf ⟨(n+1).toNat,by omega⟩
 have e2:(((n+1).toNat:Nat):Int)-1=n:=by omega
 rw[e2] at this
 exact this
theorem yJ {n W:Nat}:∀{ds:List D},(∀x∈ds,Ft n W x)->eI ds=true/\PyData.showableAll (bM ds)=true/\PyData.hasDictAll (bM ds)=false/\PyData.depthAll (bM ds)<=n/\PyData.weightAll (bM ds)<=ds.length*(W+1)/\PyData.leavesShortAll 40 (bM ds)=true
 | [],_=>⟨rfl,rfl,rfl,Nat.zero_le _,by simp[bM,PyData.weightAll],rfl⟩
 |x::xs,h=>by
  obtain⟨z,a,b,c,d,e⟩:=yJ (ds:=xs) λy hy=>h y (List.mem_cons_of_mem _ hy)
  have k:=h x List.mem_cons_self
  refine⟨?_,?_,?_,?_,?_,?_⟩
  ·simp only[eI,k.pl,z,Bool.and_self]
  ·simp only[bM,PyData.showableAll,k.sh,a,Bool.and_self]
  ·simp only[bM,PyData.hasDictAll,k.nd,b,Bool.or_self]
  ·simp only[bM,PyData.depthAll];have:=k.dp;omega
  ·simp only[bM,PyData.weightAll,List.length_cons]
   have:=k.wt
   rw[Nat.add_mul]
   omega
  ·simp only[bM,PyData.leavesShortAll,k.lv,e,Bool.and_self]
theorem mT {n W c:Nat} {ds:List D} (hl:ds.length<=c) (h:∀x∈ds,Ft n W x):Ft (n+1) (c*(W+1)) (.tup ds):=by
 obtain⟨z,a,b,c',d',e'⟩:=yJ h
 have hw:PyData.weightAll (bM ds)<=c*(W+1):=Nat.le_trans d' (Nat.mul_le_mul_right _ hl)
 exact⟨by simp only[plain];exact z,by simp only[py,PyData.showable];exact a,by simp only[py,PyData.hasDict];exact b,by simp only[py,PyData.depth];omega,by simp only[py,PyData.weight];exact hw,by simp only[py,PyData.leavesShort];exact e'⟩
theorem E9 {n W c:Nat} {ds:List D} (hl:ds.length<=c) (h:∀x∈ds,Ft n W x):Ft (n+1) (c*(W+1)) (.lst ds):=by
 obtain⟨z,a,b,c',d',e'⟩:=yJ h
 have hw:PyData.weightAll (bM ds)<=c*(W+1):=Nat.le_trans d' (Nat.mul_le_mul_right _ hl)
 exact⟨by simp only[plain];exact z,by simp only[py,PyData.showable];exact a,by simp only[py,PyData.hasDict];exact b,by simp only[py,PyData.depth];omega,by simp only[py,PyData.weight];exact hw,by simp only[py,PyData.leavesShort];exact e'⟩
theorem Pg {n W:Nat} {d:D} (h:Ft n W d) (hn:n<=100) (hw:W<=300000):mZ d=true:=by
 have l:=PyData.shown_le 40 (by decide) _ h.lv
 have w:=h.wt
 have p:=h.dp
 have z:sizeLine=16777216:=sizeLine_eq
 have l':(py d).shown.length<=sizeLine:=by rw[z];omega
 unfold mZ
 rw[h.pl,h.sh,h.nd,decide_eq_true (show (py d).depth<=100 by omega),decide_eq_true l']
 rfl
theorem Fb {rs:List (List Int)} (h:Gq rs):Ft 2 (10*(8*(110+1)+1)) (rD rs):=by
 refine mT (by rw[List.length_map];exact h.hi) λr hr=>?_
 obtain⟨r',h1,rfl⟩:=List.mem_map.mp hr
 have g:=h.fC r' h1
 refine mT (by rw[List.length_map];exact g.len) λx hx=>?_
 obtain⟨x',h2,rfl⟩:=List.mem_map.mp hx
 have:=g.lo x' h2
 exact ve (by omega) (by omega)
theorem ne_str {x:Str} {s:aa}:cC (.str x) (.str x) s=ok (.bl false) s:=by
 show (match cQ (.str x) (.str x) with|some b=>ok (D.bl (!b)) s|none=>none)=_
 have e:cQ (.str x) (.str x)=some true:=by
  unfold cQ
  rw[if_pos (show (fy (.str x)&&fy (.str x))=true from rfl)]
  simp[beq]
 rw[e]
 rfl
end DI
namespace DI
open PySem L2
theorem Ft.mono {n n' W W':Nat} {d:D} (h:Ft n W d) (hn:n<=n') (hw:W<=W'):Ft n' W' d:=⟨h.pl,h.sh,h.nd,Nat.le_trans h.dp hn,Nat.le_trans h.wt hw,h.lv⟩
theorem yj {ds:List D} (h:∀x∈ds,lay x=true):bW ds=true:=by
 induction ds with
 |nil=>rfl
 |cons d ds ih =>
  simp only[bW,Bool.and_eq_true]
  exact⟨h d List.mem_cons_self,ih λx hx=>h x (List.mem_cons_of_mem _ hx)⟩
theorem jF (a b:List D):aN (a++b)=aN a+aN b:=by
 induction a with
 |nil=>simp only[List.nil_append,aN,Nat.zero_add]
 |cons d a ih=>simp only[List.cons_append,aN,ih,Nat.add_assoc]
theorem qx (ds:List D) (i:Nat):aN (ds.take i)+aN (ds.drop i)=aN ds:=by rw[<- jF,List.take_append_drop]
theorem Ep (ds:List D):aN ds.reverse=aN ds:=by
 induction ds with
 |nil=>rfl
 |cons d ds ih=>rw[List.reverse_cons,jF,ih];simp only[aN];omega
structure E1 (x:D):Prop where
 ft:Ft 1 120 x
 ly:lay x=true
structure fZ (x:D):Prop where
 ft:Ft 2 2500 x
 ly:lay x=true
 it:∀ys,x=.tup ys->∀y∈ys,E1 y
structure Th (d:D):Prop where
 ft:Ft 3 80000 d
 wt:wt d<=60
 ly:∀rows,d=.tup rows->bW rows=true
theorem zc {d:D} (h:vY d=true) (hl:lay d=true):E1 d:=⟨(FP h).mono (by decide) (by decide),hl⟩
theorem rQ {n:Int} (h1:-1<=n) (h2:n<=60):E1 (.int n):=⟨(ve h1 h2).mono (by decide) (by decide),rfl⟩
theorem oH {ys:List D} (h:∀y∈ys,E1 y) (hl:ys.length<=20):fZ (.tup ys):=⟨(mT hl λy hy=>(h y hy).ft).mono (by decide) (by decide),by simp only[lay];exact yj λy hy=>(h y hy).ly,λzs e=>by cases e;exact h⟩
theorem kH {ds:List D} (h:∀x∈ds,fZ x) (hl:ds.length<=30) (hw:aN ds<=59):Th (.tup ds):=⟨(mT hl λx hx=>(h x hx).ft).mono (by decide) (by decide),by simp only[DI.wt];omega,λrows e=>by cases e;exact yj λx hx=>(h x hx).ly⟩
theorem Ph {ds:List D} (h:∀x∈ds,fZ x) (hl:ds.length<=30) (hw:aN ds<=59):Th (.lst ds):=⟨(E9 hl λx hx=>(h x hx).ft).mono (by decide) (by decide),by simp only[DI.wt];omega,λrows e=>by cases e⟩
theorem NG {x:D} (h:fZ x) (hw:DI.wt x<=60):Th x:=⟨h.ft.mono (by decide) (by decide),hw,λrows e=>by have:=h.ly;rw[e] at this;simpa only [lay] using this⟩
theorem Th.shown {rs:List (List Int)} {d:D} {s:aa} (g:GH rs) (h1:1<=rs.length) (h:Th d):ja [.tup [rD rs,d]] s=ok (.str (py (.tup [rD rs,d])).shown) s:=by
 have f:Ft 4 (2*(80000+1)) (.tup [rD rs,d]):=mT (n:=3) (W:=80000) (c:=2) (by simp) λx hx=>by
  rcases List.mem_cons.mp hx with e|e
  ·rw[e];exact(Fb (g.run h1)).mono (by decide) (by decide)
  ·rw[List.mem_singleton.mp e];exact h.ft
 show (if mZ (.tup [rD rs,d])=true then ok (D.str (py (.tup [rD rs,d])).shown) s else none)=_
 rw[if_pos (Pg f (by decide) (by decide))]
theorem Pj {p:Nat} (hp:p<=9) {k:Int} {s:aa} (h0:0<=k) (h1:k<8):∃d,aD (.lst [.int p,.bl true,.ay,.int (-1),.tup [.int p],.tup [],.lst [.int 0],.str "0"]) (.int k) s=ok d s/\E1 d/\wt d<=2/\fZ d:=by
 have e2:∀{d:D},E1 d->(∀ys,d=.tup ys->∀y∈ys,E1 y)->fZ d:=λ{d} h hi=>⟨h.ft.mono (by decide) (by decide),h.ly,hi⟩
 have ip:E1 (.int p):=rQ (by omega) (by omega)
 have pt:E1 (.tup [.int p]):=⟨(mT (n:=0) (W:=110) (c:=1) (by simp) λy hy=>by rw[List.mem_singleton.mp hy];exact ve (by omega) (by omega)).mono (by decide) (by decide),rfl⟩
 have nt:E1 (.tup []):=⟨(mT (n:=0) (W:=110) (c:=1) (by simp) λy hy=>by cases hy).mono (by decide) (by decide),rfl⟩
 have lt:E1 (.lst [.int 0]):=⟨(E9 (n:=0) (W:=110) (c:=1) (by simp) λy hy=>by rw[List.mem_singleton.mp hy];exact ve (by decide) (by decide)).mono (by decide) (by decide),rfl⟩
 rcases(show k=0\/k=1\/k=2\/k=3\/k=4\/k=5\/k=6\/k=7 by omega) with rfl|rfl|rfl|rfl|rfl|rfl|rfl|rfl
 ·exact⟨_,rfl,ip,by simp[wt],e2 ip λys e=>by cases e⟩
 ·have h:E1 (.bl true):=zc (by decide +kernel) rfl
  exact⟨_,rfl,h,by simp[wt],e2 h λys e=>by cases e⟩
 ·have h:E1 .ay:=zc (by decide +kernel) rfl
  exact⟨_,rfl,h,by simp[wt],e2 h λys e=>by cases e⟩
 ·have h:E1 (.int (-1)):=rQ (by decide) (by decide)
  exact⟨_,rfl,h,by simp[wt],e2 h λys e=>by cases e⟩
 ·exact⟨_,rfl,pt,by simp[wt,aN],e2 pt λys e y hy=>by cases e;rw[List.mem_singleton.mp hy];exact ip⟩
 ·exact⟨_,rfl,nt,by simp[wt,aN],e2 nt λys e y hy=>by cases e;cases hy⟩
 ·exact⟨_,rfl,lt,by simp[wt,aN],e2 lt λys e=>by cases e⟩
 ·have h:E1 (.str "0"):=zc (by decide +kernel) (by decide +kernel)
  exact⟨_,rfl,h,by simp[wt],e2 h λys e=>by cases e⟩
end DI
namespace DI
open PySem L2
noncomputable def Bg (d:D):Bool:=plain d&&(py d).showable&&!(py d).hasDict&&decide ((py d).depth<=3)&&decide ((py d).weight<=80000)&&(py d).leavesShort 40&&decide (wt d<=60)&&match d with
 | .tup rows=>bW rows
 |_=>true
theorem QN {d:D} (h:Bg d=true):Th d:=by
 unfold Bg at h
 simp only[Bool.and_eq_true,decide_eq_true_eq,Bool.not_eq_true'] at h
 obtain⟨⟨⟨⟨⟨⟨⟨h0,h1⟩,h2⟩,h3⟩,h4⟩,h5⟩,h6⟩,h7⟩:=h
 refine⟨⟨h0,h1,h2,h3,h4,h5⟩,h6,λrows e=>?_⟩
 subst e
 exact h7
def ig (d:D):Prop:=Th d\/d=.aY []\/d=.aY [(Sum.inl 0,1)]
noncomputable def Bh (d:D):Bool:=Bg d||match d with
 | .aY []=>true
 | .aY [(Sum.inl 0,1)]=>true
 |_=>false
theorem Pk {d:D} (h:Bh d=true):ig d:=by
 unfold Bh at h
 rw[Bool.or_eq_true] at h
 rcases h with h|h
 ·exact .inl (QN h)
 ·split at h
  ·exact .inr (.inl rfl)
  ·exact .inr (.inr rfl)
  ·cases h
noncomputable def vZ:List D:=[.ay,.bl true,.bl false,.int 0,.int 1,.int (-1),.int 8,.int 31,.int (10 ^ 30-1),.str "",.str "-",.str "0/1",.str "mended 0 0 1",.tup [],.tup [.int 0],.lst [.int 0],.lst [],.aY [],.aY [(Sum.inl 0,1)],.tup [.int 0,.int 1],.tup [.int 1,.int 0],.tup [.tup [],.tup []],.tup [.tup [.int 0],.tup [.int 0]],.tup [.str "mended",.int 0,.int 0],.tup [.tup [.int 0]],.str "a\tb",.tup [.lst [.int 1],.str "x"]]
theorem NH:vZ.all Bh=true:=by decide +kernel
theorem Pl {ds:List D} {i:Nat} {s:aa} (h:i<ds.length):∃d,aD (.lst ds) (.int i) s=ok d s/\d∈ds:=by
 refine⟨ds[i],?_,List.getElem_mem h⟩
 unfold aD la res
 simp only
 rw[xU (List.getElem?_eq_getElem h)]
 rfl
theorem Dc {s:aa} {k:Nat} (h:Sf s k):Wp (aI.oi [.ar k] s) λd s'=>ig d/\Sf s' k/\Ex k s s':=by
 have hp:∀s,kJ (.int 10) (.int 30) s=ok (.int (10 ^ 30)) s:=λs=>by
  have e:vK (.int 10) (.int 30)=some (.int (10 ^ 30)):=by
   show (if (decide ((0:Int)<=30)&&decide ((30:Int)<=1000000)&&decide ((10:Int).natAbs<2 ^ 64))=true then some (D.int (10 ^ (30:Int).toNat)) else none)=_
   rw[if_pos (by decide)]
   rfl
  simp only[kJ,e,bE]
 have hn:∀s,i9 (.int 1) s=ok (.int (-1)) s:=λ_=>rfl
 unfold aI.oi
 simp only[VC,hp,hn]
 refine⟨by decide,by decide,by decide,by decide,by decide,by decide,by decide,by decide,by decide,by decide,by decide,by decide,by decide,by decide,by decide,by decide,by decide,by decide,by decide,?_⟩
 refine Wp.of (show aS (.lst _) (.lst _) s=ok (.lst vZ) s from rfl) ?_
 refine Wp.of (show bb [.lst vZ] s=ok (.int 27) s from rfl) ?_
 refine(gL h (by decide) (by decide)).mono λd s1 hd=>?_
 obtain⟨r,rfl,r0,r1,h2,x2⟩:=hd
 obtain⟨i,rfl⟩:=Int.eq_ofNat_of_zero_le r0
 obtain⟨d,hd,hm⟩:=Pl (ds:=vZ) (i:=i) (s:=s1) (show i<27 by omega)
 refine Wp.of hd ⟨Pk (List.all_eq_true.mp NH d hm),h2,x2⟩
end DI
namespace DI
open PySem L2
section
variable {env:Env} {s:aa} {es:List D} {a:Nat}
theorem jd {x y:List D} {s:aa} (h:x.length+y.length<=1000000):aS (.tup x) (.tup y) s=ok (.tup (x++y)) s:=by
 have e:jU (.tup x) (.tup y)=some (.tup (x++y)):=by
  show (if fK x y=true then some (D.tup (x++y)) else none)=_
  rw[if_pos (by unfold fK;exact decide_eq_true (le_size h))]
 show bE (jU (.tup x) (.tup y)) s=_
 rw[e]
 rfl
theorem DL {a:Nat} (es:List D):aN (es.take a)+aN (es.drop (a+1))<=aN es:=by
 have h1:=qx es a
 have h2:=qx (es.drop a) 1
 rw[List.drop_drop] at h2
 omega
theorem Pn {x:D} (h:es[a]?=some x):aN (es.take a)+(wt x+aN (es.drop (a+1)))=aN es:=by
 have h1:=qx es a
 have h2:es.drop a=x::es.drop (a+1):=by
  obtain⟨hl,e⟩:=List.getElem?_eq_some_iff.mp h
  rw[List.drop_eq_getElem_cons hl,e]
 rw[h2] at h1
 simp only[aN] at h1
 exact h1
theorem Fc {y:D} (he:∀x∈es,fZ x) (h9:es.length<=9) (hw:aN es<=20) (hy:fZ y) (wy:wt y<=30):Th (.tup (es.take a++[y]++es.drop (a+1))):=by
 refine kH (λx hx=>?_) ?_ ?_
 ·rcases List.mem_append.mp hx with hx|hx
  ·rcases List.mem_append.mp hx with hx|hx
   ·exact he x (List.mem_of_mem_take hx)
   ·rw[List.mem_singleton.mp hx];exact hy
  ·exact he x (List.mem_of_mem_drop hx)
 ·simp only[List.length_append,List.length_take,List.length_drop,List.length_singleton];omega
 ·rw[jF,jF]
  have:=DL (a:=a) es
  simp only[aN]
  omega
end
theorem Wp.ph {i j k:Nat} {fa:Env->aa->Res (List D)} {env:Env} {s:aa} {QF:Fl->aa->Prop} (h:Wp (fa env s) λds s=>∃x y z,ds=[x,y,z]/\QF (.nx (((env.set i (some x)).set j (some y)).set k (some z))) s):Wp (ph i j k fa env s) QF:=by
 unfold DI.ph
 rw[bG]
 exact h.mono λds s hh=>by
  obtain⟨x,y,z,rfl,q⟩:=hh
  exact Wp.ok q
theorem NI {xs:List D} {i j:Nat} (hi:i<=xs.length) (hj:j<=xs.length):cutD xs (some i) (some j)=(xs.drop i).take (j-i):=by
 unfold cutD
 rw[HT.uH,HT.uH,Nat.min_eq_left hi,Nat.min_eq_left hj]
theorem QP {i j:Int}:(i==j)=decide (i=j):=by
 cases h:decide (i=j) with
 |true=>rw[of_decide_eq_true h];exact beq_self_eq_true _
 |false=>exact beq_eq_false_iff_ne.mpr (of_decide_eq_false h)
theorem JE {es:List D} (he:∀x∈es,fZ x):∀(acc:List D),(∀y∈acc,E1 y)->∀{s:aa},acc.length+aN es<=1000->∃r,vv (.tup acc) (es.filter fE) s=ok (.tup r) s/\(∀y∈r,E1 y)/\r.length<=acc.length+aN es/\aN r<=aN acc+aN es:=by
 induction es with
 |nil=>intro acc ha s _;exact⟨acc,rfl,ha,Nat.le_add_right _ _,Nat.le_add_right _ _⟩
 |cons x es ih =>
  intro acc ha s hl
  simp only[aN] at hl |-
  have hx:=he x List.mem_cons_self
  have ih:=ih λy hy=>he y (List.mem_cons_of_mem _ hy)
  rw[List.filter_cons]
  cases ht:fE x with
  |false =>
   rw[if_neg Bool.false_ne_true]
   obtain⟨r,e1,e2,e3,e4⟩:=ih acc ha (s:=s) (by omega)
   exact⟨r,e1,e2,by omega,by omega⟩
  |true =>
   rw[if_pos rfl]
   cases x with
   |tup ys =>
    have hy:=hx.it ys rfl
    have wl:=jI ys
    simp only[wt] at hl |-
    obtain⟨r,e1,e2,e3,e4⟩:=ih (acc++ys) (λy h=>(List.mem_append.mp h).elim (ha y) (hy y)) (s:=s) (by rw[List.length_append];omega)
    refine⟨r,?_,e2,by rw[List.length_append] at e3;omega,by rw[jF] at e4;omega⟩
    show ak (ne (aS (.tup acc) (.tup ys) s)) _=_
    rw[jd (by omega),kI,eG]
    exact e1
   |_=>cases ht
end DI
namespace DI
open PySem L2
theorem Po {es:List D} {s:aa}:bb [.tup es] s=ok (.int es.length) s:=rfl
theorem qI {env:Env} {s:aa} {i:Nat} {w c:Int} (h:ab i env s=ok (.int w) s):ba (e2 cg (ab i) (eC (.int c))) env s=ok (decide (w=c)) s:=by
 refine Wp.eq ?_
 rw[wp_tBl,wp_e2,h,wp_ok,wp_C,wp_eqI,wp_isBl,QP]
 exact⟨rfl,rfl⟩
theorem QQ {env:Env} {i j a:Nat} {es:List D} {s:aa} (h9:es.length<=9) (hi:ab i env s=ok (.tup es) s) (hj:ab j env s=ok (.int a) s) (ha:a<=es.length:=by omega) :
  e2 aS (bQ (ab i) bT (bI (ab j))) (bQ (ab i) (bI (e2 aS (ab j) (eC (.int 1)))) bT) env s=ok (.tup (es.take a++es.drop (a+1))) s:=by
 refine Wp.eq ?_
 rw[wp_e2,qv hi hj ha,wp_ok,uQ (k:=a+1) hi (Wp.eq (by rw[wp_e2,hj,wp_ok,wp_C,wp_addI];exact⟨rfl,rfl⟩)),wp_ok]
 exact Wp.of (jd (by simp only[List.length_take,List.length_drop];omega)) ⟨rfl,rfl⟩
theorem Pp {env:Env} {i j a:Nat} {es:List D} {s:aa} (h9:es.length<=9) (ha:a<es.length) (hi:ab i env s=ok (.tup es) s) (hj:ab j env s=ok (.int a) s) :
  e2 aS (e2 aS (bQ (ab i) bT (bI (ab j))) (bQ (ab i) (bI (ab j)) (bI (e2 aS (ab j) (eC (.int 1)))))) (bQ (ab i) (bI (ab j)) bT) env s=ok (.tup (es.take a++(es.drop a).take 1++es.drop a)) s:=by
 refine Wp.eq ?_
 rw[wp_e2,wp_e2,qv hi hj (by omega),wp_ok,wp_sl,hi,wp_ok,jH hj,jH (i:=(a:Int)+1) (Wp.eq (by rw[wp_e2,hj,wp_ok,wp_C,wp_addI];exact⟨rfl,rfl⟩))]
 refine Wp.of (show jM (.tup es) (some (a:Int)) (some ((a:Int)+1)) s=ok (.tup ((es.drop a).take 1)) s from ?_) ?_
 ·show ok (D.tup (cutD es (some ((a:Nat):Int)) (some (((a+1:Nat)):Int)))) s=_
  rw[NI (by omega) (by omega),show a+1-a=1 by omega]
 ·rw[jd (by simp only[List.length_take,List.length_drop];omega),wp_ok,uQ (k:=a) hi hj,wp_ok]
  exact Wp.of (jd (by simp only[List.length_append,List.length_take,List.length_drop];omega)) ⟨rfl,rfl⟩
theorem NJ {f:Env->aa->Res D} {env:Env} {s:aa} {es:List D} {a:Nat} {y:D} {j k:Nat} (h9:es.length<=30) (ha:a<es.length) (hi:f env s=ok (.tup es) s) (hj:ab j env s=ok (.int a) s) (hk:ab k env s=ok y s):e2 aS (e2 aS (bQ f bT (bI (ab j))) (bp (ae (ab k) ag))) (bQ f (bI (e2 aS (ab j) (eC (.int 1)))) bT) env s=ok (.tup (es.take a++[y]++es.drop (a+1))) s:=by
 refine Wp.eq ?_
 rw[wp_e2,wp_e2,qv hi hj (by omega),wp_ok,wp_tup,wp_aCons,hk,wp_ok,wp_aNil]
 refine⟨by show 1<=sizeLine;decide,?_⟩
 rw[jd (by rw[List.length_take,List.length_singleton];omega),wp_ok,uQ (k:=a+1) hi (Wp.eq (by rw[wp_e2,hj,wp_ok,wp_C,wp_addI];exact⟨rfl,rfl⟩)),wp_ok]
 exact Wp.of (jd (by simp only[List.length_append,List.length_take,List.length_drop,List.length_singleton];omega)) ⟨rfl,rfl⟩
theorem Pq {es:List D} {s:aa} (h:bW es=true):cC (.tup es) (.tup []) s=ok (.bl (!es.isEmpty)) s:=by
 have:=yI (s:=s) h
 unfold cg at this
 unfold cC
 cases hq:cQ (res (.tup es) s) (res (.tup []) s) with
 |none=>rw[hq] at this;cases this
 |some b =>
  rw[hq] at this
  have e:b=es.isEmpty:=by
   injection this with this
   injection this with this _
   injection this with this
   injection this
  rw[e]
theorem zd {xs:List D} {k:Nat} {s:aa} (h:k<=xs.length):jM (.tup xs) none (some (k:Int)) s=ok (.tup (xs.take k)) s:=by
 show ok (D.tup (cutD xs none (some (k:Int)))) s=_
 rw[DB h]
theorem FQ {xs:List D} {k:Nat} {s:aa}:jM (.tup xs) (some (k:Int)) none s=ok (.tup (xs.drop k)) s:=by
 show ok (D.tup (cutD xs (some (k:Int)) none)) s=_
 rw[DC]
theorem yk {rs:List (List Int)} {es:List D} {s:aa} {k:Nat} (g:GH rs) (hs:Sf s k) (he:∀x∈es,fZ x) (h9:es.length<=9) (hw:aN es<=20):Wp (aI.iu [.ar k,rD rs,.tup es] s) λd s'=>ig d/\Sf s' k/\Ex k s s':=by
 have hi:=g.hi
 have hn:∀s,i9 (.int 1) s=ok (.int (-1)) s:=λ_=>rfl
 unfold aI.iu
 rw[wp_fn]
 refine⟨rfl,?_⟩
 refine Wp.step λR hR=>?_
 simp only[VC]
 refine⟨by decide,?_⟩
 rw[yI (yj λx hx=>(he x hx).ly)]
 simp only[VC]
 cases tj:es.isEmpty with
 |true =>
  simp only[VC,if_true]
  exact Dc hs
 |false =>
  have pos:0<es.length:=by cases es with|nil=>cases tj|cons _ _=>simp
  simp only[VC,Bool.false_eq_true,if_false]
  subst hR
  refine Wp.step λR hR=>?_
  refine Wp.ph ?_
  simp only[VC,Po (es:=es),iI]
  refine(gL hs (by omega) (by omega)).mono λd s1 hd=>?_
  obtain⟨a0,rfl,a1,a2,f1,x1⟩:=hd
  obtain⟨a,rfl⟩:=Int.eq_ofNat_of_zero_le a1
  have al:a<es.length:=by omega
  try simp only[VC]
  refine(gL f1 (by decide) (by decide)).mono λd s2 hd=>?_
  obtain⟨way,rfl,w1,w2,f2,x2⟩:=hd
  try simp only[VC,iI]
  refine(gL f2 (by omega) (by omega)).mono λd s3 hd=>?_
  obtain⟨p0,rfl,p1,p2,f3,x3⟩:=hd
  obtain⟨p,rfl⟩:=Int.eq_ofNat_of_zero_le p1
  try refine⟨_,_,_,rfl,?_⟩
  try simp only[List.set_cons_succ,List.set_cons_zero]
  subst hR
  try rw[aft_nx]
  refine Wp.step λR hR=>?_
  simp only[VC,hn]
  refine⟨by show 1<=sizeLine;decide,by decide,by decide,by show 8<=sizeLine;decide,?_⟩
  refine(gL f3 (by decide) (by decide)).mono λd s4 hd=>?_
  obtain⟨o,rfl,o1,o2,f4,x4⟩:=hd
  obtain⟨odd,eo,h1,wo,h2⟩:=Pj (p:=p) (by omega) (s:=s4) o1 o2
  rw[eo]
  simp only[VC]
  have X:Ex k s s4:=((x1.trans x2).trans x3).trans x4
  have ha:es[a]?=some es[a]:=List.getElem?_eq_getElem al
  generalize es[a]=x at ha
  have hx:=he x (List.mem_of_getElem? ha)
  have wa:=Pn ha
  have wZ:∀s,aD (.tup es) (.int a) s=ok x s:=λs=>oG ha
  subst hR
  have ret:∀{d:D} {R:Env->aa->Res Fl} {s':aa},Th d->Sf s' k->Ex k s s'->mw R (lZ λd s'=>ig d/\Sf s' k/\Ex k s s') (.rt d) s':=λt f x=>⟨.inl t,f,x⟩
  refine Wp.step λR hR=>?_
  rw[wp_sIf,qI (w:=way) rfl,wp_ok]
  by_cases c0:way=0
  ·rw[decide_eq_true c0,if_pos rfl,wp_sRet,QQ (es:=es) (a:=a) h9 rfl rfl,wp_ok]
   refine ret (kH (λx hx=>?_) ?_ ?_) f4 X
   ·rcases List.mem_append.mp hx with hx|hx
    ·exact he x (List.mem_of_mem_take hx)
    ·exact he x (List.mem_of_mem_drop hx)
   ·simp only[List.length_append,List.length_take,List.length_drop];omega
   ·rw[jF];omega
  rw[decide_eq_false c0,if_neg Bool.false_ne_true,wp_sNil,aft_nx]
  subst hR
  refine Wp.step λR hR=>?_
  rw[wp_sIf,qI (w:=way) rfl,wp_ok]
  by_cases c1:way=1
  ·rw[decide_eq_true c1,if_pos rfl,wp_sRet,Pp (es:=es) (a:=a) h9 al rfl rfl,wp_ok]
   have e1:aN ((es.drop a).take 1)<=wt x:=by
    have h2:es.drop a=x::es.drop (a+1):=by
     obtain⟨hl,e⟩:=List.getElem?_eq_some_iff.mp ha
     rw[List.drop_eq_getElem_cons hl,e]
    rw[h2]
    show aN [x]<=_
    simp only[aN]
    omega
   have e2:=qx es a
   refine ret (kH (λx hx=>?_) ?_ ?_) f4 X
   ·rcases List.mem_append.mp hx with hx|hx
    ·rcases List.mem_append.mp hx with hx|hx
     ·exact he x (List.mem_of_mem_take hx)
     ·exact he x (List.mem_of_mem_drop (List.mem_of_mem_take hx))
    ·exact he x (List.mem_of_mem_drop hx)
   ·simp only[List.length_append,List.length_take,List.length_drop];omega
   ·rw[jF,jF];omega
  rw[decide_eq_false c1,if_neg Bool.false_ne_true,wp_sNil,aft_nx]
  subst hR
  refine Wp.step λR hR=>?_
  rw[wp_sIf,qI (w:=way) rfl,wp_ok]
  by_cases c2:way=2
  ·rw[decide_eq_true c2,if_pos rfl,wp_sRet,wp_e1,wp_locS,wp_locS,wp_loc0]
   refine Wp.of (show ni (.tup es) s4=ok (.tup es.reverse) s4 from rfl) ?_
   exact ret (kH (λx hx=>he x (List.mem_reverse.mp hx)) (by rw[List.length_reverse];omega) (by rw[Ep];omega)) f4 X
  rw[decide_eq_false c2,if_neg Bool.false_ne_true,wp_sNil,aft_nx]
  subst hR
  refine Wp.step λR hR=>?_
  rw[wp_sIf,qI (w:=way) rfl,wp_ok]
  by_cases c3:way=3
  ·rw[decide_eq_true c3,if_pos rfl,wp_sRet]
   simp only[VC,wZ]
   refine Wp.of (show vm [.tup es] s4=ok (.lst es) s4 from rfl) ⟨by show 1<=sizeLine;decide,?_⟩
   refine Wp.of (jd (by rw[List.length_singleton];omega)) ⟨by show 3<=sizeLine;decide,?_⟩
   refine(gL f4 (by decide) (by decide)).mono λd s5 hd=>?_
   obtain⟨r,rfl,r1,r2,f5,x5⟩:=hd
   have X5:=X.trans x5
   rcases(show r=0\/r=1\/r=2 by omega) with rfl|rfl|rfl
   ·exact Wp.of (show aD (.lst [.lst es,x,.tup (es++[odd])]) (.int 0) s5=ok (.lst es) s5 from rfl) ⟨.inl (Ph he (by omega) (by omega)),f5,X5⟩
   ·exact Wp.of (show aD (.lst [.lst es,x,.tup (es++[odd])]) (.int 1) s5=ok x s5 from rfl) ⟨.inl (NG hx (by omega)),f5,X5⟩
   ·refine Wp.of (show aD (.lst [.lst es,x,.tup (es++[odd])]) (.int 2) s5=ok (.tup (es++[odd])) s5 from rfl) ⟨.inl (kH (λx hx=>?_) ?_ ?_),f5,X5⟩
    ·rcases List.mem_append.mp hx with hx|hx
     ·exact he x hx
     ·rw[List.mem_singleton.mp hx];exact h2
    ·rw[List.length_append,List.length_singleton];omega
    ·rw[jF];simp only[aN];omega
  rw[decide_eq_false c3,if_neg Bool.false_ne_true,wp_sNil,aft_nx]
  subst hR
  refine Wp.step λR hR=>?_
  have px:plain x=true:=hx.ft.pl
  rw[wp_sIf,wp_tAnd,qI (w:=way) rfl,wp_ok]
  have rest:Wp ((ax (bt (gw (ba (e2 fN (ab 4) (eC (.int 7)))) (gw (bH (eB bh (ae (e2 aD (ab 2) (ab 3)) (ae (eC (.ty "tuple")) ag)))) (ba (e2 cC (e2 aD (ab 2) (ab 3)) (bp ag))))) (ax (bq (aB aI.dA (ae (ab 0) (ae (eB bb (ae (e2 aD (ab 2) (ab 3)) ag)) ag))) (gN 7)) (ax (bq (e2 aD (cM (ae (e2 aS (e2 aS (bQ (e2 aD (ab 2) (ab 3)) bT (bI (ab 7))) (bp (ae (ab 6) ag))) (bQ (e2 aD (ab 2) (ab 3)) (bI (e2 aS (ab 7) (eC (.int 1)))) bT)) (ae (e1 ni (e2 aD (ab 2) (ab 3))) (ae (bQ (e2 aD (ab 2) (ab 3)) bT (bI (ab 7))) ag)))) (e2 eJ (ab 4) (eC (.int 3)))) (gN 8)) (aG (e2 aS (e2 aS (bQ (ab 2) bT (bI (ab 3))) (bp (ae (ab 8) ag))) (bQ (ab 2) (bI (e2 aS (ab 3) (eC (.int 1)))) bT))))) bA) (aG (e2 aS (e2 aS (bQ (ab 2) bT (bI (ab 3))) (bp (ae (ab 6) ag))) (bQ (ab 2) (bI (e2 aS (ab 3) (eC (.int 1)))) bT)))) [some (.ar k),some (rD rs),some (.tup es),some (.int a),some (.int way),some (.int p),some odd,none,none] s4) (lZ λd s'=>ig d/\Sf s' k/\Ex k s s'):=by
   refine Wp.step λR hR=>?_
   have fin:Wp (R [some (.ar k),some (rD rs),some (.tup es),some (.int a),some (.int way),some (.int p),some odd,none,none] s4) (lZ λd s'=>ig d/\Sf s' k/\Ex k s s'):=by
    rw[hR,wp_sRet,NJ (es:=es) (a:=a) (y:=odd) (by omega) al rfl rfl rfl,wp_ok]
    exact⟨.inl (Fc he h9 hw h2 (by omega)),f4,X⟩
   rw[wp_sIf,wp_tAnd]
   refine Wp.of (show ba (e2 fN (ab 4) (eC (.int 7))) _ s4=ok (decide (way<7)) s4 from rfl) ?_
   by_cases c7:way<7
   ·rw[decide_eq_true c7,if_pos rfl,wp_tAnd]
    simp only[VC,wZ,iy px]
    cases hT:fE x with
    |false =>
     simp only[VC,Bool.false_eq_true,if_false]
     exact fin
    |true =>
     cases x with
     |tup ys =>
      have ly:bW ys=true:=by simpa only [lay] using hx.ly
      have hy:=hx.it ys rfl
      simp only[wt] at wa
      have wl:=jI ys
      simp only[if_true]
      refine⟨Nat.zero_le _,?_⟩
      rw[Pq ly]
      simp only[VC]
      cases bz:ys.isEmpty with
      |true =>
       simp only[VC,Bool.not_true,Bool.false_eq_true,if_false]
       exact fin
      |false =>
       have Vi:0<ys.length:=by cases ys with|nil=>cases bz|cons _ _=>simp
       simp only[Bool.not_false,if_true]
       refine Wp.of (show bb [.tup ys] s4=ok (.int ys.length) s4 from rfl) ?_
       refine(gL f4 (by omega) (by omega)).mono λd s5 hd=>?_
       obtain⟨q0,rfl,q1,q2,f5,x5⟩:=hd
       obtain⟨q,rfl⟩:=Int.eq_ofNat_of_zero_le q1
       have X5:=X.trans x5
       have hf:∀e:Option D,e2 aD (ab 2) (ab 3) [some (.ar k),some (rD rs),some (.tup es),some (.int a),some (.int way),some (.int p),some odd,some (.int q),e] s5=ok (.tup ys) s5:=λe=>Wp.eq (by simp only[VC,wZ,and_self])
       have yl:ys.length<=19:=by omega
       have one:1<=sizeLine:=by decide
       rw[jH (i:=(q:Int)) rfl,zd (by omega),wp_ok]
       refine⟨one,?_⟩
       rw[jd (by rw[List.length_take,List.length_singleton];omega),wp_ok,jH (i:=(q:Int)+1) rfl,show ((q:Int)+1)=((q+1:Nat):Int) by omega,FQ,wp_ok,jd (by simp only[List.length_append,List.length_take,List.length_drop,List.length_singleton];omega),wp_ok]
       refine Wp.of (show ni (.tup ys) s5=ok (.tup ys.reverse) s5 from rfl) ?_
       rw[jH (i:=(q:Int)) rfl,zd (by omega),wp_ok]
       refine⟨by decide,?_⟩
       rw[nu _ (by decide),wp_ok]
       have Aa:∃row,aD (.lst [.tup (ys.take q++[odd]++ys.drop (q+1)),.tup ys.reverse,.tup (ys.take q)]) (.int (way % 3)) s5=ok row s5/\fZ row/\wt row<=30:=by
        have hm:=Int.emod_nonneg way (show (3:Int)≠0 by decide)
        have nP:=Int.emod_lt_of_pos way (show (0:Int)<3 by decide)
        generalize way % 3=m at hm nP
        have VN:=DL (a:=q) ys
        have Vj:=qx ys q
        rcases(show m=0\/m=1\/m=2 by omega) with rfl|rfl|rfl
        ·refine⟨_,rfl,oH (λy ke=>?_) ?_,?_⟩
         ·rcases List.mem_append.mp ke with z|z
          ·rcases List.mem_append.mp z with z|z
           ·exact hy y (List.mem_of_mem_take z)
           ·rw[List.mem_singleton.mp z];exact h1
          ·exact hy y (List.mem_of_mem_drop z)
         ·simp only[List.length_append,List.length_take,List.length_drop,List.length_singleton];omega
         ·simp only[wt,jF,aN];omega
        ·exact⟨_,rfl,oH (λy ke=>hy y (List.mem_reverse.mp ke)) (by rw[List.length_reverse];omega),by simp only[wt,Ep];omega⟩
        ·exact⟨_,rfl,oH (λy ke=>hy y (List.mem_of_mem_take ke)) (by rw[List.length_take];omega),by simp only[wt];omega⟩
       obtain⟨row,er,Aa,Si⟩:=Aa
       rw[er,wp_ok,jH (i:=(a:Int)) rfl,zd (by omega),wp_ok]
       refine⟨one,?_⟩
       rw[jd (by rw[List.length_take,List.length_singleton];omega),wp_ok,jH (i:=(a:Int)+1) rfl,show ((a:Int)+1)=((a+1:Nat):Int) by omega,FQ,wp_ok]
       exact Wp.of (jd (by simp only[List.length_append,List.length_take,List.length_drop,List.length_singleton];omega)) ⟨.inl (Fc he h9 hw Aa Si),f5,X5⟩
     |_=>cases hT
   ·rw[decide_eq_false c7,if_neg Bool.false_ne_true,if_neg Bool.false_ne_true,wp_sNil,aft_nx]
    exact fin
  by_cases c4:way=4
  ·rw[decide_eq_true c4,if_pos rfl]
   simp only[VC,wZ,iy px]
   cases hT:fE x with
   |false =>
    simp only[VC,Bool.false_eq_true,if_false]
    subst hR
    exact rest
   |true =>
    simp only[if_true]
    refine Wp.of (ik rfl) ⟨le_size (by omega),?_⟩
    have cm:=comp_map (λd:D=>d) (nt:=1) (caps:=[]) (g:=gN 0) (t:=bH (eB bh (ae (ab 0) (ae (eC (.ty "tuple")) ag)))) (f:=ab 0) (s:=s4) fE (λd=>d) es λy hy=>⟨[some y],rfl,Wp.eq (by simp only[VC,iy (he y hy).ft.pl,and_self]),λ_=>rfl⟩
    rw[List.map_id',List.map_id'] at cm
    refine Wp.of cm ⟨Nat.zero_le _,?_⟩
    obtain⟨r,e1,e2,e3,e4⟩:=JE he [] (λy h=>by cases h) (s:=s4) (by rw[List.length_nil];omega)
    refine Wp.of (show vw [.lst (es.filter fE),.tup []] s4=ok (.tup r) s4 from e1) ⟨by show 1<=sizeLine;decide,?_⟩
    rw[List.length_nil] at e3
    have e4:aN r<=0+aN es:=e4
    refine⟨.inl (kH (λy hy=>?_) (by simp) ?_),f4,X⟩
    ·rw[List.mem_singleton.mp hy];exact oH e2 (by omega)
    ·simp only[aN,wt];omega
  rw[decide_eq_false c4,if_neg Bool.false_ne_true,if_neg Bool.false_ne_true,wp_sNil,aft_nx]
  subst hR
  exact rest
end DI
namespace DI
open PySem L2
theorem ig.facts {d:D} (h:ig d):plain d=true/\wt d<=60/\∀rows,d=.tup rows->bW rows=true:=by
 rcases h with h|rfl|rfl
 ·exact⟨h.ft.pl,h.wt,h.ly⟩
 ·exact⟨rfl,by simp[wt],λrows e=>by cases e⟩
 ·exact⟨rfl,by simp[wt],λrows e=>by cases e⟩
theorem Gv {n:Int} (h1:-1<=n) (h2:n<=60):fZ (.int n):=⟨(rQ h1 h2).ft.mono (by decide) (by decide),rfl,λys e=>by cases e⟩
theorem Sj {ps:List Nat} (h:∀p∈ps,p<=9) (hl:ps.length<=20):fZ (pD ps):=oH (λy hy=>by
 obtain⟨p,hp,rfl⟩:=List.mem_map.mp hy
 have:=h p hp
 exact rQ (by omega) (by omega)) (by rw[List.length_map];exact hl)
theorem DM (ps:List Nat):aN (ps.map λp:Nat=>D.int p)=ps.length:=by
 induction ps with
 |nil=>rfl
 |cons p r ih=>rw[List.map_cons];simp only[aN,wt,ih,List.length_cons];omega
theorem L4 (rows:List (List Nat)):aN (rows.map pD)=rows.length+rows.flatten.length:=by
 induction rows with
 |nil=>rfl
 |cons r t ih=>rw[List.map_cons,List.flatten_cons];simp only[aN,wt,ih,DM,List.length_cons,List.length_append];omega
theorem Sm {k:Nat} {s:aa} {ds:List D} (h:s[k]?=some (.lst ds)):cW (.ar k) s=ok (.lst ds) (s.set k .dead):=by
 unfold cW
 simp only[h]
theorem Er {a b:Bool} {s:aa}:aI.iq 8 [.bl a,.bl b] s=ok (.bl (a==b)) s:=by
 refine Wp.eq ?_
 unfold aI.iq
 simp only[VC]
 refine Wp.of (show vt (.bl b) s=ok (.bl false) s from rfl) ?_
 simp only[VC,Bool.false_eq_true,if_false]
 refine Wp.of (show bh [.bl a,.ty "bool"] s=ok (.bl true) s from rfl) ?_
 refine Wp.of (show bh [.bl b,.ty "bool"] s=ok (.bl true) s from rfl) ?_
 refine Wp.of (show cg (.bl true) (.bl true) s=ok (.bl true) s from rfl) ?_
 simp only[VC,if_true]
 exact Wp.of (show cg (.bl a) (.bl b) s=ok (.bl (a==b)) s from by cases a<;>cases b<;>rfl) ⟨rfl,rfl⟩
theorem Ky (ns:List Int):gZ (bM (ns.map D.int))=true:=by
 induction ns with
 |nil=>rfl
 |cons n r ih=>rw[List.map_cons];simp only[bM,py,gZ,mm,ih,Bool.and_self]
theorem NK (rs:List (List Int)):gZ (bM (rs.map mD))=true:=by
 induction rs with
 |nil=>rfl
 |cons n r ih=>rw[List.map_cons];simp only[bM,py,gZ,mm,Ky,ih,Bool.and_self]
theorem Kz {rs:List (List Int)} {d:D} {s:aa} (g:GH rs) (h1:1<=rs.length) (h:d=.aY []\/d=.aY [(Sum.inl 0,1)]):ja [.tup [rD rs,d]] s=ok (.str (py (.tup [rD rs,d])).shown) s:=by
 have F:=Fb (g.run h1)
 have a1:plain d=true:=by rcases h with rfl|rfl<;>rfl
 have a2:(py d).showable=true:=by rcases h with rfl|rfl<;>decide +kernel
 have a3:(py d).depth<=3:=by rcases h with rfl|rfl<;>decide +kernel
 have a4:(py d).weight<=1000:=by rcases h with rfl|rfl<;>decide +kernel
 have a5:(py d).leavesShort 40=true:=by rcases h with rfl|rfl<;>decide +kernel
 have a6:mm (py d)=true:=by rcases h with rfl|rfl<;>rfl
 have f1:=F.sh
 have f2:=F.dp
 have f3:=F.wt
 have f4:=F.lv
 have lv:(py (.tup [rD rs,d])).leavesShort 40=true:=by simp only[py.eq_5,bM,PyData.leavesShort,PyData.leavesShortAll,Bool.and_true];rw[a5,Bool.and_true];exact f4
 have l:=PyData.shown_le 40 (by decide) _ lv
 have w:(py (.tup [rD rs,d])).weight<=20000:=by
  show PyData.weight (.tuple [py (rD rs),py d])<=20000
  simp only[PyData.weight,PyData.weightAll]
  omega
 have dp:(py (.tup [rD rs,d])).depth<=10:=by
  show PyData.depth (.tuple [py (rD rs),py d])<=10
  simp only[PyData.depth,PyData.depthAll]
  omega
 have z:sizeLine=16777216:=sizeLine_eq
 show (if mZ (.tup [rD rs,d])=true then ok (D.str (py (.tup [rD rs,d])).shown) s else none)=_
 rw[if_pos]
 unfold mZ
 have e1:plain (.tup [rD rs,d])=true:=by simp only[plain,eI,a1,Bool.and_true];exact F.pl
 have e2:(py (.tup [rD rs,d])).showable=true:=by
  show PyData.showable (.tuple [py (rD rs),py d])=true
  simp only[PyData.showable,PyData.showableAll,a2,Bool.and_true]
  exact f1
 rw[e1,e2,decide_eq_true (show (py (.tup [rD rs,d])).depth<=100 by omega),decide_eq_true (show (py (.tup [rD rs,d])).shown.length<=sizeLine by rw[z];omega)]
 have e3:gZ [py (rD rs),py d]=true:=by
  simp only[gZ,a6,Bool.and_true]
  exact NK rs
 show (true&&true&&(!(py (.tup [rD rs,d])).hasDict||gZ [py (rD rs),py d])&&true&&true)=true
 rw[e3]
 simp
theorem ig.shown {rs:List (List Int)} {d:D} {s:aa} (g:GH rs) (h1:1<=rs.length) (h:ig d):ja [.tup [rD rs,d]] s=ok (.str (py (.tup [rD rs,d])).shown) s:=by
 rcases h with h|h
 ·exact h.shown g h1
 ·exact Kz g h1 h
section
variable {rs:List (List Int)} {s:aa} {e0 e1 Hm e3 e5 e6 e7 e8 e9 et:Option D}
theorem Pr {d:D} (g:GH rs) (h1:1<=rs.length) (h:ig d) :
  Wp ((ax (bq (eB ja (ae (bp (ae (ab 4) (ae (ab 10) ag))) ag)) (gN 11)) (ax (bt (cG (bH (aB (aI.iq 8) (ae (aB aI.lu (ae (ab 4) (ae (ab 10) ag))) (ae (aB aI.lr (ae (ab 4) (ae (ab 10) ag))) ag))))) (aG (eC (.bl false))) bA) (ax (bt (cG (bH (aB (aI.iq 8) (ae (aB aI.mC (ae (ab 4) (ae (ab 10) ag))) (ae (aB aI.mB (ae (ab 4) (ae (ab 10) ag))) ag))))) (aG (eC (.bl false))) bA) (bt (ba (e2 cC (eB ja (ae (bp (ae (ab 4) (ae (ab 10) ag))) ag)) (ab 11))) (aG (eC (.bl false))) bA)))) [e0,e1,Hm,e3,some (rD rs),e5,e6,e7,e8,e9,some d,et] s) λfl s'=>Kp s s'/\∃x,fl=.nx [e0,e1,Hm,e3,some (rD rs),e5,e6,e7,e8,e9,some d,x]:=by
 obtain⟨pd,wd,ld⟩:=h.facts
 have hX:=λs=>h.shown (s:=s) g h1
 generalize (py (.tup [rD rs,d])).shown=X at hX
 have two:2<=sizeLine:=by decide
 refine Wp.step λR hR=>?_
 simp only[VC]
 refine⟨two,?_⟩
 rw[hX]
 simp only[VC]
 subst hR
 refine Wp.step λR hR=>?_
 simp only[VC,LX g h1 pd wd]
 refine(Kx g pd wd ld).mono λd' s1 hd=>?_
 obtain⟨rfl,K1⟩:=hd
 simp only[VC,Er,beq_self_eq_true,Bool.not_true,Bool.false_eq_true,if_false]
 subst hR
 refine Wp.step λR hR=>?_
 simp only[VC,LZ g h1 pd wd,L3 g pd wd,Er,beq_self_eq_true,Bool.not_true,Bool.false_eq_true,if_false]
 subst hR
 simp only[VC]
 refine⟨two,?_⟩
 rw[hX]
 simp only[VC,ne_str,Bool.false_eq_true,if_false]
 exact⟨K1,_,rfl⟩
end
structure LI (rs:List (List Int)) (k hd:Nat) (ds:List D) (s:aa):Prop where
 sf:Sf s k
 at_:s[hd]?=some (.lst ds)
 ne:hd≠k
 th:∀d∈ds,ig d
 ln:ds.length<=100
namespace aI
section
variable {rs:List (List Int)} {s:aa} {k:Nat} {e0 e1 e3 e4 e5 e6 e7 e8 e9 fB et:Option D} {r5 r6 r7:List D}
structure lq (es:List D):Prop where
 he:∀x∈es,fZ x
 h9:es.length<=9
 hw:aN es<=20
theorem QR {hd:Nat} {ds:List D} (g:GH rs) (h:LI rs k hd ds s) (hl:ds.length<=97) (i5:lq r5) (i6:lq r6) (i7:lq r7) :
  Wp ((ax (bq (e2 mR (ab 8) (cM (ae (aB iu (ae (ab 2) (ae (ab 4) (ae (ab 5) ag)))) (ae (aB iu (ae (ab 2) (ae (ab 4) (ae (ab 6) ag)))) ag)))) (gN 8)) (fj (jl (ab 8) (aB iu (ae (ab 2) (ae (ab 4) (ae (ab 7) ag))))))) [e0,e1,some (.ar k),e3,some (rD rs),some (.tup r5),some (.tup r6),some (.tup r7),some (.ar hd),e9,fB,et] s) λfl s'=>∃cH wJ,LI rs k cH wJ s'/\wJ.length=ds.length+3/\fl=.nx [e0,e1,some (.ar k),e3,some (rD rs),some (.tup r5),some (.tup r6),some (.tup r7),some (.ar cH),e9,fB,et]:=by
 refine Wp.step λR hR=>?_
 simp only[VC]
 refine(yk g h.sf i5.he i5.h9 i5.hw).mono λd1 s1 hh=>?_
 obtain⟨t1,f1,x1⟩:=hh
 refine(yk g f1 i6.he i6.h9 i6.hw).mono λd2 s2 hh=>?_
 obtain⟨t2,f2,x2⟩:=hh
 refine⟨by show 2<=sizeLine;decide,?_⟩
 have a2:s2[hd]?=some (.lst ds):=(x1.trans x2).get h.at_ h.ne
 have UE:res (.ar hd) s2=.lst ds:=by unfold res;simp only[a2]
 refine Wp.of (show mR (.ar hd) (.lst [d1,d2]) s2=ok (.ar s2.length) (s2++[.lst (ds++[d1,d2])]) from ?_) ?_
 ·unfold mR
  rw[UE]
  show (if fK ds [d1,d2]=true then ok (D.ar s2.length) (s2++[.lst (ds++[d1,d2])]) else none)=_
  rw[if_pos (by unfold fK;exact decide_eq_true (le_size (by show ds.length+2<=1000000;omega)))]
 ·have hk:=f2.lt
  have f3:Sf (s2++[.lst (ds++[d1,d2])]) k:=f2.app _
  have a3:(s2++[Cell.lst (ds++[d1,d2])])[s2.length]?=some (.lst (ds++[d1,d2])):=by simp
  have n3:s2.length≠k:=by omega
  generalize s2++[Cell.lst (ds++[d1,d2])]=s3 at f3 a3
  generalize s2.length=cH at a3 n3
  subst hR
  simp only[VC]
  refine⟨by unfold jW;simp only[a3],?_⟩
  refine(yk g f3 i7.he i7.h9 i7.hw).mono λd3 s4 hh=>?_
  obtain⟨t3,f4,x4⟩:=hh
  have a4:=x4.get a3 n3
  have hlen:=(List.getElem?_eq_some_iff.mp a4).1
  refine Wp.of (show hU (.ar cH) d3 s4=ok .ay (s4.set cH (.lst (ds++[d1,d2]++[d3]))) from ?_) ?_
  ·unfold hU
   have aU:(ds++[d1,d2]).length<sizeLine:=Nat.lt_of_le_of_lt (show _<=1000000 by simp;omega) (by decide)
   simp only[a4,decide_eq_true aU,if_true]
  ·refine⟨cH,ds++[d1,d2]++[d3],⟨f4.set n3 _,List.getElem?_set_self hlen,n3,λd hd=>?_,by simp;omega⟩,by simp,rfl⟩
   rcases List.mem_append.mp hd with z|z
   ·rcases List.mem_append.mp z with z|z
    ·exact h.th d z
    ·rcases List.mem_cons.mp z with e|z
     ·rw[e];exact t1
     ·rw[List.mem_singleton.mp z];exact t2
   ·rw[List.mem_singleton.mp z];exact t3
theorem L5 (h:GH rs) (h1:1<=rs.length):qb [rD rs] s=ok (pD (longest (cy rs rs.length))) s:=by
 refine Wp.eq ?_
 unfold qb
 simp only[VC,oy h h1,Ng h,and_self]
theorem lq.th {es:List D} (h:lq es):ig (.tup es):=.inl (kH h.he (by have:=h.h9;omega) (by have:=h.hw;omega))
theorem NL {n:Nat} (hn:n<=9):lq ((List.range n).map λi:Nat=>D.tup [.int (0+(i:Int))]):=by
 have w:∀l:List Nat,aN (l.map λi:Nat=>D.tup [.int (0+(i:Int))])=2*l.length:=λl=>by
  induction l with
  |nil=>rfl
  |cons a r ih=>rw[List.map_cons];simp only[aN,wt,ih,List.length_cons];omega
 refine⟨λx hx=>?_,by rw[List.length_map,List.length_range];exact hn,by rw[w,List.length_range];omega⟩
 obtain⟨i,hi,rfl⟩:=List.mem_map.mp hx
 have:=List.mem_range.mp hi
 exact oH (λy hy=>by rw[List.mem_singleton.mp hy];exact rQ (by omega) (by omega)) (by simp)
theorem NM {n:Nat} (hn:n<=9):lq (bF 0 n):=by
 rw[uP]
 have w:∀l:List Nat,aN (l.map λi:Nat=>D.int (0+(i:Int)))=l.length:=λl=>by
  induction l with
  |nil=>rfl
  |cons a r ih=>rw[List.map_cons];simp only[aN,wt,ih,List.length_cons];omega
 refine⟨λx hx=>?_,by rw[List.length_map,List.length_range];exact hn,by rw[w,List.length_range];omega⟩
 obtain⟨i,hi,rfl⟩:=List.mem_map.mp hx
 have:=List.mem_range.mp hi
 exact Gv (by omega) (by omega)
theorem L6 {rows:List (List Nat)} (g:GH rs) (h:pX rs rows):lq (rows.map pD):=by
 have hi:=g.hi
 have hl:=h.ln
 have hf:=h.flat
 refine⟨λx hx=>?_,by rw[List.length_map];omega,by rw[L4];omega⟩
 obtain⟨r,hr,rfl⟩:=List.mem_map.mp hx
 have:=h.len hr
 exact Sj (λp hp=>by have:=h.lt r hr p hp;omega) (by omega)
theorem L7 {ps:List Nat} (g:GH rs) (h:Gu rs ps):lq (ps.map λp:Nat=>D.int p):=by
 have hi:=g.hi
 have hl:=h.le
 refine⟨λx hx=>?_,by rw[List.length_map];omega,by rw[DM];omega⟩
 obtain⟨p,hp,rfl⟩:=List.mem_map.mp hx
 have:=h.lt p hp
 exact Gv (by omega) (by omega)
theorem Pt (h:Sf s k) :
  Wp ((ax (bq (aB qr (ae (ab 2) (ae (eC (.int 9)) ag))) (gN 4)) (ax (pb 5 6 (ae (aB qh (ae (ab 4) ag)) (ae (aB qb (ae (ab 4) ag)) ag))) (ax (bq (eB fg (ae (cL 1 [] (dS (ae (eB bb (ae (ab 4) ag)) ag)) (gN 0) dI (bp (ae (ab 0) ag))) ag)) (gN 7)) (ax (bq (eNew (ae (ab 5) (ae (ab 6) (ae (ab 7) (ae (eB qY (ae (eB bb (ae (ab 4) ag)) ag)) (ae (bp ag) (ae (bp (ae (e2 aD (ab 7) (eC (.int 0))) ag)) (ae (aB oi (ae (ab 2) ag)) ag)))))))) (gN 8)) (ax (eT (dS (ae (eC (.int 5)) ag)) (gN 9) (ax (bq (e2 mR (ab 8) (cM (ae (aB iu (ae (ab 2) (ae (ab 4) (ae (ab 5) ag)))) (ae (aB iu (ae (ab 2) (ae (ab 4) (ae (ab 6) ag)))) ag)))) (gN 8)) (fj (jl (ab 8) (aB iu (ae (ab 2) (ae (ab 4) (ae (ab 7) ag)))))))) (eT (c9 (rq (ab 8))) (gN 10) (ax (bq (eB ja (ae (bp (ae (ab 4) (ae (ab 10) ag))) ag)) (gN 11)) (ax (bt (cG (bH (aB (iq 8) (ae (aB lu (ae (ab 4) (ae (ab 10) ag))) (ae (aB lr (ae (ab 4) (ae (ab 10) ag))) ag))))) (aG (eC (.bl false))) bA) (ax (bt (cG (bH (aB (iq 8) (ae (aB mC (ae (ab 4) (ae (ab 10) ag))) (ae (aB mB (ae (ab 4) (ae (ab 10) ag))) ag))))) (aG (eC (.bl false))) bA) (bt (ba (e2 cC (eB ja (ae (bp (ae (ab 4) (ae (ab 10) ag))) ag)) (ab 11))) (aG (eC (.bl false))) bA)))))))))) [e0,e1,some (.ar k),e3,e4,e5,e6,e7,e8,e9,fB,et] s) λfl s'=>Sf s' k/\∃d4 d5 d6 d7 d8 d9 p9 qa,fl=.nx [e0,e1,some (.ar k),e3,d4,d5,d6,d7,d8,d9,p9,qa]:=by
 refine Wp.step λR hR=>?_
 simp only[VC]
 refine(O4 h).mono λd s1 hd=>?_
 obtain⟨rs,rfl,h1,g,f1,_⟩:=hd
 have hi:=g.hi
 try simp only[VC]
 subst hR
 refine Wp.step λR hR=>?_
 simp only[VC]
 refine(Ny g h1).mono λd s2 hd=>?_
 obtain⟨a,S,rfl,T,K1⟩:=hd
 have gr:=Pc g T
 rw[show ((starts rs.length a).map λx=>pD (row rs.length a x))=((starts rs.length a).map (row rs.length a)).map pD by rw[List.map_map];rfl]
 have i5:=L6 g gr
 generalize ((starts rs.length a).map (row rs.length a)).map pD=r5 at i5
 have f2:=K1.sf f1
 simp only[VC,L5 g h1]
 have i6:=L7 g (NB rs)
 subst hR
 refine Wp.step λR hR=>?_
 simp only[VC]
 refine Wp.of (iX (s1:=s2) (n:=rs.length) (Wp.eq (by simp only[VC,iI,and_self])) (by omega)) ⟨le_size (by rw[iV];omega),?_⟩
 rw[uP]
 refine Wp.of (comp_map (λi:Nat=>D.int (0+(i:Int))) (λ_=>true) (λi:Nat=>D.tup [.int (0+(i:Int))]) _ λi _=>⟨[some (.int (0+(i:Int)))],rfl,rfl,λ_=>Wp.eq (by simp only[VC];exact⟨by show 1<=sizeLine;decide,trivial⟩)⟩) ?_
 rw[filter_tt]
 refine Wp.of (show fg [.lst _] s2=ok (.tup _) s2 from rfl) ?_
 have i7:=NL hi
 have rR:∃x,∀s,aD (.tup ((List.range rs.length).map λi:Nat=>D.tup [.int (0+(i:Int))])) (.int 0) s=ok x s/\fZ x/\wt x<=20:=by
  have hz:((List.range rs.length).map λi:Nat=>D.tup [.int (0+(i:Int))])[0]?=some (D.tup [.int (0+((0:Nat):Int))]):=by
   rw[List.getElem?_map,List.getElem?_range (by omega)]
   rfl
  exact⟨_,λs=>⟨oG (j:=0) hz,i7.he _ (List.mem_of_getElem? hz),Nat.le_trans (yi (List.mem_of_getElem? hz)) i7.hw⟩⟩
 generalize (List.range rs.length).map (λi:Nat=>D.tup [.int (0+(i:Int))])=r7 at i7 rR
 obtain⟨x0,rR⟩:=rR
 subst hR
 try rw[aft_nx]
 refine Wp.step λR hR=>?_
 simp only[VC,iI,(rR _).1]
 have i8:=NM hi
 refine Wp.of (show qY [.int rs.length] s2=ok (.tup (bF 0 rs.length)) s2 from ?_) ?_
 ·show (if (decide ((0:Int)<=rs.length)&&decide ((rs.length:Int)<=1000000))=true then ok (D.tup (bF 0 (rs.length:Int).toNat)) s2 else none)=_
  rw[decide_eq_true (show (0:Int)<=rs.length by omega),decide_eq_true (show (rs.length:Int)<=1000000 by omega),Int.toNat_natCast]
  rfl
 ·refine⟨by decide,by show 1<=sizeLine;decide,?_⟩
  refine(Dc f2).mono λd7 s3 hh=>?_
  obtain⟨t7,f3,x3⟩:=hh
  refine⟨by show 7<=sizeLine;decide,?_⟩
  have hk:=f3.lt
  have wW:=(rR s3).2
  have L0:LI rs k s3.length [D.tup r5,pD (longest (cy rs rs.length)),D.tup r7,D.tup (bF 0 rs.length),D.tup [],D.tup [x0],d7] (s3++[.lst [D.tup r5,pD (longest (cy rs rs.length)),D.tup r7,D.tup (bF 0 rs.length),D.tup [],D.tup [x0],d7]]):=by
   refine⟨f3.app _,by simp,by omega,λd hd=>?_,by simp⟩
   simp only[List.mem_cons,List.not_mem_nil,or_false] at hd
   rcases hd with rfl|rfl|rfl|rfl|rfl|rfl|rfl
   ·exact i5.th
   ·exact i6.th
   ·exact i7.th
   ·exact i8.th
   ·exact .inl (kH (λx hx=>by cases hx) (by simp) (by simp[aN]))
   ·exact .inl (kH (λx hx=>by rw[List.mem_singleton.mp hx];exact wW.1) (by simp) (by simp only[aN];omega))
   ·exact t7
  generalize ju:[D.tup r5,pD (longest (cy rs rs.length)),D.tup r7,D.tup (bF 0 rs.length),D.tup [],D.tup [x0],d7]=Bi at L0
  have l0:Bi.length=7:=by rw[<- ju];rfl
  generalize s3++[Cell.lst Bi]=s4 at L0
  generalize s3.length=A3 at L0
  subst hR
  refine Wp.step λR hR=>?_
  rw[wp_sFor]
  refine Wp.of (iX (n:=5) rfl (by decide)) ?_
  refine Wp.jo (λi env s'=>∃hd ds x9,LI rs k hd ds s'/\ds.length=7+3*i/\env=[e0,e1,some (.ar k),e3,some (rD rs),some (.tup r5),some (pD (longest (cy rs rs.length))),some (.tup r7),some (.ar hd),x9,fB,et]) _ ⟨A3,Bi,_,L0,l0,rfl⟩ (λi d env s' hd hI=>?_) (λenv s' hI=>?_)
  ·obtain⟨cH,ds,x9,L,ll,rfl⟩:=hI
   rw[kz] at hd
   split at hd
   ·rename_i i4
    refine⟨_,rfl,(QR g L (by omega) i5 i6 i7).mono λfl s5 hh=>?_⟩
    obtain⟨hd2,UG,L2,l2,rfl⟩:=hh
    exact⟨hd2,UG,_,L2,by omega,rfl⟩
   ·cases hd
  ·obtain⟨cH,ds,x9,L,ll,rfl⟩:=hI
   subst hR
   rw[aft_nx,wp_sFor]
   refine Wp.of (Dy (ds:=ds) (s1:=s'.set cH .dead) (Sm L.at_)) ?_
   have f5:Sf (s'.set cH .dead) k:=L.sf.set L.ne _
   refine Wp.jo (λi env s'=>Sf s' k/\∃Bj Bk,env=[e0,e1,some (.ar k),e3,some (rD rs),some (.tup r5),some (pD (longest (cy rs rs.length))),some (.tup r7),some (.ar cH),x9,Bj,Bk]) _ ⟨f5,_,_,rfl⟩ (λi d env s6 hd hI=>?_) (λenv s6 hI=>?_)
   ·obtain⟨f6,Bj,Bk,rfl⟩:=hI
    refine⟨_,rfl,(Pr g h1 (L.th d (List.mem_of_getElem? hd))).mono λfl s7 hh=>?_⟩
    obtain⟨K7,x,rfl⟩:=hh
    exact⟨K7.sf f6,_,_,rfl⟩
   ·obtain⟨f6,Bj,Bk,rfl⟩:=hI
    exact⟨f6,_,_,_,_,_,_,_,_,rfl⟩
end
theorem L8 (ns:List Int) (hn:ns.length<=63):∃s,vz [.bS ns] []=some (.ok (.bl true),s):=by
 suffices h:Wp (vz [.bS ns] []) λd _=>d=.bl true by
  obtain⟨d,s,e,rfl⟩:=h
  exact⟨s,e⟩
 unfold vz
 simp only[wp_fn,List.length_cons,List.length_nil,Nat.reduceAdd,Nat.reduceSub,List.replicate,List.map_cons,List.map_nil,List.cons_append,List.nil_append,true_and,wp_sSeq,wp_sFor]
 have hr:∃n:Nat,n<=1000/\dS (ae (eB oR (ae (eC (.int 1)) (ae (eB qT (ae (eB bb (ae (ab 0) ag)) (ae (eC (.int 2)) ag))) ag))) ag) [some (.bS ns),none,none,none,none,none,none,none,none,none,none,none] []=ok (bF 0 n) []:=by
  have e:∃n:Nat,n<=1000/\(ae (eB oR (ae (eC (.int 1)) (ae (eB qT (ae (eB bb (ae (ab 0) ag)) (ae (eC (.int 2)) ag))) ag))) ag) [some (.bS ns),none,none,none,none,none,none,none,none,none,none,none] []=ok [.int n] []:=by
   refine⟨(if (if (2:Int)<ns.length then (2:Int) else ns.length) > 1 then (if (2:Int)<ns.length then (2:Int) else ns.length) else 1).toNat,by split<;>split<;>omega,?_⟩
   rw[Int.toNat_of_nonneg (by split<;>split<;>omega)]
   rfl
  obtain⟨n,h1,h2⟩:=e
  exact⟨n,h1,iX h2 (by omega)⟩
 obtain⟨n,hn,hr⟩:=hr
 refine Wp.of hr ?_
 refine Wp.jo (λi env s=>∃e1 e2 e3 e4 e5 e6 e7 e8 e9 fB et,env=[some (.bS ns),e1,e2,e3,e4,e5,e6,e7,e8,e9,fB,et]) _ ⟨_,_,_,_,_,_,_,_,_,_,_,rfl⟩ (λi d env s hd hI=>?_) (λenv s hI=>?_)
 ·obtain⟨e1,e2,e3,e4,e5,e6,e7,e8,e9,fB,et,rfl⟩:=hI
  rw[kz] at hd
  split at hd
  ·cases hd
   refine⟨_,rfl,?_⟩
   rw[wp_sSeq,wp_sAsg]
   simp only[asg_N,wp_call,wp_aCons,wp_aNil,wp_loc0,wp_locS,List.set_cons_succ,List.set_cons_zero]
   refine(Nh (by omega)).mono λd s1 hd=>?_
   obtain⟨rfl,h1,c1,rfl⟩:=hd
   generalize s.length=k at h1
   rw[aft_nx,wp_sFor]
   refine Wp.of (iX (n:=2) rfl (by decide)) ?_
   refine Wp.jo (λj env s=>Sf s k/\∃e3 e4 e5 e6 e7 e8 e9 fB et,env=[some (.bS ns),some (.int (0+(i:Int))),some (.ar k),e3,e4,e5,e6,e7,e8,e9,fB,et]) _ ⟨h1,_,_,_,_,_,_,_,_,_,rfl⟩ (λj d env s hd hI=>?_) (λenv s hI=>?_)
   ·obtain⟨h2,e3,e4,e5,e6,e7,e8,e9,fB,et,rfl⟩:=hI
    refine⟨_,rfl,(Pt h2).mono λfl s' hd=>?_⟩
    obtain⟨h3,d4,d5,d6,d7,d8,d9,p9,qa,rfl⟩:=hd
    exact⟨h3,_,_,_,_,_,_,_,_,_,rfl⟩
   ·obtain⟨h2,e3,e4,e5,e6,e7,e8,e9,fB,et,rfl⟩:=hI
    exact⟨_,_,_,_,_,_,_,_,_,_,_,rfl⟩
  ·cases hd
 ·obtain⟨e1,e2,e3,e4,e5,e6,e7,e8,e9,fB,et,rfl⟩:=hI
  rw[aft_nx,wp_sRet,wp_C]
  rfl
end aI
end DI
namespace DI.aI
open PySem L2 DI
def Df (K:Frag) (x:Str) (st:Stmt):Prop:=∃(f:Addr) (oc:Value) (od:Option Addr) (sl:Array (Option Value)) (kV dc pm:Value) (an:Option Addr) (cd ct:Value),PySem.W.nsIn K mainGlobals x=some (some (.ref f))/\K.lookup f=some ⟨oc,od,.func (PySem.W.fnOf x x (mN st) (kx st) (bu st) .none kV dc pm an cd ct),sl⟩/\PySem.W.codeIn K cd x=true/\PySem.W.keepIn K (.ref f)=true
theorem QS {K:Frag} {x:Str} {st:Stmt} {f:Addr} {oc:Value} {od:Option Addr} {sl:Array (Option Value)} {kV dc pm:Value} {an:Option Addr} {cd ct:Value} (a:PySem.W.nsIn K mainGlobals x=some (some (.ref f))) (l:K.lookup f=some ⟨oc,od,.func (PySem.W.fnOf x x (mN st) (kx st) (bu st) .none kV dc pm an cd ct),sl⟩) (c:PySem.W.codeIn K cd x=true) (k:PySem.W.keepIn K (.ref f)=true):Df K x st:=⟨f,oc,od,sl,kV,dc,pm,an,cd,ct,a,l,c,k⟩
theorem FR {K:Frag} {x:Str} {i:Int} {t:Tok} (e:PySem.W.nsIn K mainGlobals x=some (some (.int i t))):∃t,PySem.W.nsIn K mainGlobals x=some (some (.int i t)):=⟨t,e⟩
theorem cf {K:Frag} {h:Heap} {mg:Str->Option Value} {x:Str} {st:Stmt} {ps:List Str} (X:K.In h) (G:h.Ns mainGlobals mg) (D:Df K x st) (hb:∀(kV doc pm:Value) (an:Option Addr) (br ct:Value) (us:List Value),us.length=ps.length->bindArgs (PySem.W.fnOf x x (mN st) (kx st) (bu st) .none kV doc pm an br ct) ⟨us,[]⟩=pure (ps.zip us)):∃f fd,Gd K mg x st ps f fd:=by
 obtain⟨f,oc,od,sl,kV,dc,pm,an,cd,ct,a,l,c,k⟩:=D
 have F:=EB (st:=st) l c k
 exact⟨f,_,PySem.W.mg_of X G a,F,F.binds hb⟩
theorem je {P:List Value->Prop} (h:∀a0:Value,P [a0]) (us:List Value) (hl:us.length=1):P us:=by
 cases us with
 |nil=>simp at hl
 |cons a0 n5 =>
 cases n5 with
 |cons _ _=>simp at hl
 |nil =>
 exact h a0
theorem eQ {P:List Value->Prop} (h:∀a0 a1:Value,P [a0,a1]) (us:List Value) (hl:us.length=2):P us:=by
 cases us with
 |nil=>simp at hl
 |cons a0 n5 =>
 cases n5 with
 |nil=>simp at hl
 |cons a1 tm =>
 cases tm with
 |cons _ _=>simp at hl
 |nil =>
 exact h a0 a1
theorem vB {P:List Value->Prop} (h:∀a0 a1 a2:Value,P [a0,a1,a2]) (us:List Value) (hl:us.length=3):P us:=by
 cases us with
 |nil=>simp at hl
 |cons a0 n5 =>
 cases n5 with
 |nil=>simp at hl
 |cons a1 tm =>
 cases tm with
 |nil=>simp at hl
 |cons a2 Bl =>
 cases Bl with
 |cons _ _=>simp at hl
 |nil =>
 exact h a0 a1 a2
theorem QT {P:List Value->Prop} (h:∀a0 a1 a2 a3:Value,P [a0,a1,a2,a3]) (us:List Value) (hl:us.length=4):P us:=by
 cases us with
 |nil=>simp at hl
 |cons a0 n5 =>
 cases n5 with
 |nil=>simp at hl
 |cons a1 tm =>
 cases tm with
 |nil=>simp at hl
 |cons a2 Bl =>
 cases Bl with
 |nil=>simp at hl
 |cons a3 UH =>
 cases UH with
 |cons _ _=>simp at hl
 |nil =>
 exact h a0 a1 a2 a3
theorem all_mk {P:Program} {w:World} {K:Frag} {h:Heap} {mg:Str->Option Value} {fa:Addr} (X:K.In h) (G:h.Ns mainGlobals mg) (UI:mg "law"=some (.ref fa))
  (d0:Df K "_law_cell_at" (top 29))
  (d1:Df K "_law_state" (top 30))
  (d2:Df K "_law_take" (top 31))
  (d3:Df K "_law_marks" (top 32))
  (d4:Df K "_law_heap" (top 37))
  (d5:Df K "is_rising" (top 8))
  (d6:Df K "is_number" (top 5))
  (d7:Df K "is_below" (top 6))
  (d8:Df K "is_mark" (top 7))
  (d9:Df K "are_marks" (top 10))
  (p9:Df K "are_laid_marks" (top 12))
  (qa:Df K "need_heap" (top 19))
  (Bm:Df K "has_all" (top 11))
  (Bn:Df K "may_follow" (top 26))
  (Bo:Df K "find_behind" (top 25))
  (Bp:Df K "places_ahead" (top 24))
  (Bq:Df K "row_from" (top 27))
  (Br:Df K "rows_of" (top 17))
  (Bs:Df K "is_strange" (top 22))
  (Bt:Df K "most_strangers" (top 23))
  (Bu:Df K "strangers_of" (top 18))
  (Bv:Df K "_law_anyhow" (top 34))
  (Bw:Df K "_law_bent" (top 40))
  (Bx:Df K "_law_same" (top 33))
  (By:Df K "are_places" (top 20))
  (Bz:Df K "is_row" (top 21))
  (BA:Df K "are_rows" (top 15))
  (BB:Df K "_law_within" (top 35))
  (BC:Df K "_law_are_rows" (top 38))
  (BD:Df K "are_strangers" (top 16))
  (BE:Df K "_law_akin" (top 36))
  (BF:Df K "_law_are_strangers" (top 39))
  (dl:Df K "law" (top 41))
  (ym:∃t,PySem.W.nsIn K mainGlobals "MARKS"=some (some (.int (8) t)))
  (yK:∃t,PySem.W.nsIn K mainGlobals "HEAP"=some (some (.int (9) t)))
  (ze:PySem.W.nsIn K mainGlobals "all"=some none)
  (zf:PySem.W.nsIn K mainGlobals "any"=some none)
  (yL:PySem.W.nsIn K mainGlobals "bool"=some none)
  (xc:PySem.W.nsIn K mainGlobals "enumerate"=some none)
  (zg:PySem.W.nsIn K mainGlobals "int"=some none)
  (xb:PySem.W.nsIn K mainGlobals "isinstance"=some none)
  (zh:PySem.W.nsIn K mainGlobals "len"=some none)
  (yM:PySem.W.nsIn K mainGlobals "list"=some none)
  (zi:PySem.W.nsIn K mainGlobals "max"=some none)
  (zj:PySem.W.nsIn K mainGlobals "min"=some none)
  (yn:PySem.W.nsIn K mainGlobals "range"=some none)
  (yN:PySem.W.nsIn K mainGlobals "repr"=some none)
  (zk:PySem.W.nsIn K mainGlobals "set"=some none)
  (xO:PySem.W.nsIn K mainGlobals "sorted"=some none)
  (zl:PySem.W.nsIn K mainGlobals "sum"=some none)
  (yo:PySem.W.nsIn K mainGlobals "tuple"=some none)
  (zm:PySem.W.nsIn K mainGlobals "zip"=some none)
  : ∃fd:FuncData,(∀(s:Shared) (v:Value),BindsTo s fd ⟨[v],[]⟩ [("_law_script",v)])/\∀base:Heap,K.In base->base.Ns mainGlobals mg->bg P w K mg base bB 18 fa fd ["_law_script"] (vq K):=by
 have g0:=cf (ps:=["_law_script","_law_k"]) X G d0 λ_ _ _ _ _ _=>eQ λ_ _=>rfl
 have g1:=cf (ps:=["_law_script","_law_k"]) X G d1 λ_ _ _ _ _ _=>eQ λ_ _=>rfl
 have g2:=cf (ps:=["_law_state_here","_law_many"]) X G d2 λ_ _ _ _ _ _=>eQ λ_ _=>rfl
 have g3:=cf (ps:=["_law_state_here","_law_many"]) X G d3 λ_ _ _ _ _ _=>eQ λ_ _=>rfl
 have g4:=cf (ps:=["_law_state_here","_law_most"]) X G d4 λ_ _ _ _ _ _=>eQ λ_ _=>rfl
 have g5:=cf (ps:=["things"]) X G d5 λ_ _ _ _ _ _=>je λ_=>rfl
 have g6:=cf (ps:=["thing"]) X G d6 λ_ _ _ _ _ _=>je λ_=>rfl
 have g7:=cf (ps:=["thing","many"]) X G d7 λ_ _ _ _ _ _=>eQ λ_ _=>rfl
 have g8:=cf (ps:=["thing"]) X G d8 λ_ _ _ _ _ _=>je λ_=>rfl
 have g9:=cf (ps:=["thing"]) X G d9 λ_ _ _ _ _ _=>je λ_=>rfl
 have UJ:=cf (ps:=["thing","most"]) X G p9 λ_ _ _ _ _ _=>eQ λ_ _=>rfl
 have UK:=cf (ps:=["thing"]) X G qa λ_ _ _ _ _ _=>je λ_=>rfl
 have UL:=cf (ps:=["marks","others"]) X G Bm λ_ _ _ _ _ _=>eQ λ_ _=>rfl
 have UM:=cf (ps:=["heap","place","other"]) X G Bn λ_ _ _ _ _ _=>vB λ_ _ _=>rfl
 have UN:=cf (ps:=["heap","place","ahead","tried"]) X G Bo λ_ _ _ _ _ _=>QT λ_ _ _ _=>rfl
 have UO:=cf (ps:=["heap"]) X G Bp λ_ _ _ _ _ _=>je λ_=>rfl
 have UP:=cf (ps:=["place","behind"]) X G Bq λ_ _ _ _ _ _=>eQ λ_ _=>rfl
 have UQ:=cf (ps:=["heap"]) X G Br λ_ _ _ _ _ _=>je λ_=>rfl
 have UR:=cf (ps:=["heap","places","place"]) X G Bs λ_ _ _ _ _ _=>vB λ_ _ _=>rfl
 have US:=cf (ps:=["heap"]) X G Bt λ_ _ _ _ _ _=>je λ_=>rfl
 have UT:=cf (ps:=["heap"]) X G Bu λ_ _ _ _ _ _=>je λ_=>rfl
 have UU:=cf (ps:=["_law_state_here"]) X G Bv λ_ _ _ _ _ _=>je λ_=>rfl
 have UW:=cf (ps:=["_law_state_here","_law_heap_here","_law_thing"]) X G Bw λ_ _ _ _ _ _=>vB λ_ _ _=>rfl
 have UX:=cf (ps:=["_law_told","_law_due"]) X G Bx λ_ _ _ _ _ _=>eQ λ_ _=>rfl
 have UY:=cf (ps:=["heap","thing"]) X G By λ_ _ _ _ _ _=>eQ λ_ _=>rfl
 have UZ:=cf (ps:=["heap","thing"]) X G Bz λ_ _ _ _ _ _=>eQ λ_ _=>rfl
 have U0:=cf (ps:=["heap","thing"]) X G BA λ_ _ _ _ _ _=>eQ λ_ _=>rfl
 have U1:=cf (ps:=["_law_one","_law_other"]) X G BB λ_ _ _ _ _ _=>eQ λ_ _=>rfl
 have U2:=cf (ps:=["_law_heap_here","_law_thing"]) X G BC λ_ _ _ _ _ _=>eQ λ_ _=>rfl
 have U3:=cf (ps:=["heap","thing"]) X G BD λ_ _ _ _ _ _=>eQ λ_ _=>rfl
 have U4:=cf (ps:=["_law_heap_here","_law_one","_law_other"]) X G BE λ_ _ _ _ _ _=>vB λ_ _ _=>rfl
 have U5:=cf (ps:=["_law_heap_here","_law_thing"]) X G BF λ_ _ _ _ _ _=>eQ λ_ _=>rfl
 have xJ:∃t,mg "MARKS"=some (.int (8) t):=by obtain⟨t,e⟩:=ym;exact⟨t,PySem.W.mg_of X G e⟩
 have yf:∃t,mg "HEAP"=some (.int (9) t):=by obtain⟨t,e⟩:=yK;exact⟨t,PySem.W.mg_of X G e⟩
 have QU:=PySem.W.mg_none_of X G ze
 have QV:=PySem.W.mg_none_of X G zf
 have Pu:=PySem.W.mg_none_of X G yL
 have IP:=PySem.W.mg_none_of X G xc
 have QW:=PySem.W.mg_none_of X G zg
 have Im:=PySem.W.mg_none_of X G xb
 have QX:=PySem.W.mg_none_of X G zh
 have Pw:=PySem.W.mg_none_of X G yM
 have QY:=PySem.W.mg_none_of X G zi
 have QZ:=PySem.W.mg_none_of X G zj
 have NN:=PySem.W.mg_none_of X G yn
 have Px:=PySem.W.mg_none_of X G yN
 have Q0:=PySem.W.mg_none_of X G zk
 have L9:=PySem.W.mg_none_of X G xO
 have Q2:=PySem.W.mg_none_of X G zl
 have NO:=PySem.W.mg_none_of X G yo
 have Q3:=PySem.W.mg_none_of X G zm
 obtain⟨f,oc,od,sl,kV,dc,pm,an,cd,ct,a,l,c,k⟩:=dl
 have e:=UI.symm.trans (PySem.W.mg_of X G a)
 cases e
 have F:=EB (st:=(top 41)) l c k
 have GL:Gd K mg "law" (top 41) ["_law_script"] _ _:=⟨PySem.W.mg_of X G a,F,F.binds λ_ _ _ _ _ _=>je λ_=>rfl⟩
 exact⟨_,λs v=>.of_eq rfl,λbase _ _=>OJ (O0 ⟨QU,QV,Pu,IP,QW,Im,QX,Pw,QY,QZ,NN,Px,Q0,L9,Q2,NO,Q3,xJ,yf,g0,g1,g2,g3,g4,g5,g6,g7,g8,g9,UJ,UK,UL,UM,UN,UO,UP,UQ,UR,US,UT,UU,UW,UX,UY,UZ,U0,U1,U2,U3,U4,U5⟩ GL) L8⟩
theorem walk {l:PySem.W.OpenLaw} {q:Program} {loose:List Str} {XP:(Str->Option Value)->Heap->Prop} {YP:World->Heap->Prop} {d:DefRec} {K:Params->Frag} (hn:l.most=some 63) (sr:d.params.defaults=[])
  (hY:∀(w:World) (h:Heap),YP w h->(K w.params).In h)
  (F:∀(w:World) (mg:Str->Option Value) (fa:Addr) (h:Heap),(K w.params).In h->h.Ns mainGlobals mg->mg d.name=some (.ref fa) ->
   ∃fd:FuncData,(∀(s:Shared) (u:Value),BindsTo s fd ⟨[u],[]⟩ [("_law_script",u)])/\∀base:Heap,(K w.params).In base->base.Ns mainGlobals mg->bg l.prog w (K w.params) mg base bB 18 fa fd ["_law_script"] (vq (K w.params))) :
  PySem.W.WalkO q loose XP YP l.row.toRowW d [] (λf vs=>PySem.call f vs) :=
 L2.Mv (n:=63) (k:=18) (x:="_law_script") (CX:=λ_=>bB) (sp:=λw=>vq (K w.params)) hn (by decide) sr ⟨rfl,by decide,by decide,rfl⟩ hY F (λ_ _ a ns hl _ hS=>⟨a,ns,rfl,hS,hl,λ_=>rfl⟩) λ_ _ _ _ _ z=>z
end DI.aI
open PySem PySem.W PyProof.Rows
theorem PySem.W.Fast.te5253566113215025966 : True := trivial
set_option maxRecDepth 100000 in
set_option maxHeartbeats 0 in
theorem PySem.Challenge.cw_twinmoulds_k41_rows_and_strangers_looked_holds : PySem.Challenge.rw_twinmoulds_k41_rows_and_strangers_looked.Holds := by
 w_on;o_law;k_head;(case hw=>w_witness2)
 k_fill
 refine DI.aI.walk (l:=PySem.Challenge.rw_twinmoulds_k41_rows_and_strangers_looked) rfl rfl (λw h Y=>PySem.W.kIn_of Y) ?F
 case F =>
  intro w mg fa h KX G su
  refine' DI.aI.all_mk KX G su ?d0 ?d1 ?d2 ?d3 ?d4 ?d5 ?d6 ?d7 ?d8 ?d9 ?p9 ?qa ?Bm ?Bn ?Bo ?Bp ?Bq ?Br ?Bs ?Bt ?Bu ?Bv ?Bw ?Bx ?By ?Bz ?BA ?BB ?BC ?BD ?BE ?BF ?dl ?ym ?yK ?ze ?zf ?yL ?xc ?zg ?xb ?zh ?yM ?zi ?zj ?yn ?yN ?zk ?xO ?zl ?yo ?zm
  (case d0|d1|d2|d3|d4|d5|d6|d7|d8|d9|p9|qa|Bm|Bn|Bo|Bp|Bq|Br|Bs|Bt|Bu|Bv|Bw|Bx|By|Bz|BA|BB|BC|BD|BE|BF|dl=>refine' DI.aI.QS ?a ?l ?c ?k;(case a=>k_is);(case l=>k_is);(case c=>k_is);(case k=>k_is))
  (case ym=>refine' DI.aI.FR ?e;(case e=>k_is))
  (case yK=>refine' DI.aI.FR ?e;(case e=>k_is))
  (case ze|zf|yL|xc|zg|xb|zh|yM|zi|zj|yn|yN|zk|xO|zl|yo|zm=>k_is)
